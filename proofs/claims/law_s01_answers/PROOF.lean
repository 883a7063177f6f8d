import PyProof.Rows.All
import Wide.All
import OpenK.AllK
import Wide.FinOn
import Open.SpecLaws
import KE.OsGo
import KE.KStateDown
import HandS.ForSpec
import HandS.ForMost
import HandS.IsInst
import HandS.Head0
import HandS.Head1
import HandS.Head2
import HandS.Head3
import HandS.Head4
import HandS.HeadHook1
import HandS.HeadHook2
import HandS.More
import HandS.Conv
import HandS.SortInts
import HandS.WideBits
import HandS.SetKeys
import HandS.Wide
import HandS.StrMore
import HandS.Walk
import KE.KDictKeyed
import KE.KDictDisplayH
import KE.KeyNested
import PySem.Challenge.RW_cardpunches_s01_answers
set_option Elab.async false
set_option linter.all false
set_option maxRecDepth 100000
set_option maxHeartbeats 4000000
/-! HHook1 -/
namespace CP
open PySem PySem.Spec PyProof.Rows L2
/-! ### the text by places -/
def topS (i : Nat) : Stmt := PySem.Challenge.pw_cardpunches_s01_answers.main.body.getD i (.Pass ⟨0, 0, 0, 0⟩)
/-! ### facts that a look at the heap decides -/
inductive Fx where
  | free (x : Str)
  | int (x : Str) (i : Int)
  | glo (x : Str)
  | cls (x : Str)
  | hasc (x : Str)
  | noat (x f : Str)
  | isi (x : Str)
  | kitN (y : Str)
  | kit (x y : Str) (b : Bool)
  | tup (x : Str) (vs : List Str)
  | dfn (x : Str)
  | mth (x m q : Str)
def Fx.ok (K : PySem.W.Frag) : Fx → Bool
  | .free x => (He.Fa.free x).ok K
  | .int x i => (He.Fa.int x i).ok K
  | .glo x => (He.Fa.glo x).ok K
  | .cls x => (He.Fa.cls x).ok K
  | .hasc x => (He.Fa.glo x).ok K && ((He.Fa.cls x).ok K && (PySem.W.makesIn K (He.ga K x) && PySem.W.keepIn K (.ref (He.ga K x))))
  | .noat x f => (He.Fa.noat x f).ok K
  | .isi x => (He.Fa.cls x).ok K && (He.eqO (PySem.W.findIn K (.ref (He.ga K x)) "__class__") (some (some (.builtin "object.__class__"))) && (He.eqO (PySem.W.specialIn K (.builtin "object.__class__") "__get__") (some (some (.builtin "getset_descriptor.__get__"))) && (decide (PySem.W.takesIn K (.builtin "object.__class__") = some true) && decide (PySem.W.mroIn K (He.ga K x) (.type "object") = some true))))
  | .kitN y => decide (PySem.W.kitOne K (.type "NoneType") (.ref (He.ga K y)) = some false)
  | .kit x y b => decide (PySem.W.kitOne K (.ref (He.ga K x)) (.ref (He.ga K y)) = some b)
  | .tup x vs => He.tupB K x (vs.map He.Dv.str)
  | .dfn x => (He.Fa.glo x).ok K && (PySem.W.keepIn K (.ref (He.ga K x)) && (He.Fa.code (x, none) x).ok K)
  | .mth x m q => (He.Fa.meth x m).ok K && (He.Fa.code (x, some m) q).ok K
def keyK : Value → Option L2.Key
  | .int i _ => some (.inl i)
  | .str x _ => some (.inr x)
  | _ => none
def valK : Value → V
  | .int i _ => .int i
  | .str x _ => .str x
  | _ => .non
def dObs (K : PySem.W.Frag) (x : Str) : Option (List (Option L2.Key × Int × V)) := match K.lookup (He.ga K x) with
  | some ⟨.type c, none, .dict es _, sl⟩ => (match decide (c = "dict") && (sl.isEmpty && !(He.ga K x == sysModules)) with
    | true => some (es.toList.map fun e => (keyK e.key, e.hash, valK e.val))
    | false => none)
  | _ => none
def dVal (w : World) (kvs : List (L2.Key × V)) : Option (List (Option L2.Key × Int × V)) := some (kvs.map fun p => (some p.1, keyH w p.1, p.2))
def natK : Value → Option Nat
  | .int i _ => if 0 ≤ i then some i.toNat else none
  | _ => none
def tupK (K : PySem.W.Frag) : Value → Option (List (Option Nat))
  | .ref t => (match K.lookup t with
    | some ⟨.type c, none, .seq its _, sl⟩ => (match decide (c = "tuple") && sl.isEmpty with
      | true => some (its.toList.map natK)
      | false => none)
    | _ => none)
  | _ => none
def hObs (K : PySem.W.Frag) (x : Str) : Option (List (Option L2.Key × Int × Option (List (Option Nat)))) := match K.lookup (He.ga K x) with
  | some ⟨.type c, none, .dict es _, sl⟩ => (match decide (c = "dict") && (sl.isEmpty && !(He.ga K x == sysModules)) with
    | true => some (es.toList.map fun e => (keyK e.key, e.hash, tupK K e.val))
    | false => none)
  | _ => none
def hVal (w : World) (ws : List Str) (ns : List (List Nat)) : Option (List (Option L2.Key × Int × Option (List (Option Nat)))) := some (List.zipWith (fun (x : Str) (n : List Nat) => (some (Sum.inr x : L2.Key), keyH w (.inr x), some (n.map some))) ws ns)
/-! ### which objects are looked at: what the module's own names stand for, and what these name -/
def entsG (g : Addr → Option Obj) (a : Addr) : List DictEntry := match g a with
  | some ⟨_, _, .dict es _, _⟩ => es.toList
  | _ => []
def ownG (es : List DictEntry) : List Addr := es.filterMap fun e => match e.key, e.val with
  | .str x _, .ref a => (match x.cps.toList with
    | 95 :: _ => none
    | _ => some a)
  | _, _ => none
def nextG (g : Addr → Option Obj) (a : Addr) : List Addr := match g a with
  | some ⟨_, _, .func fd, _⟩ => He.refV fd.code
  | some ⟨_, _, .cls cd, _⟩ => [cd.ns]
  | some ⟨_, _, .dict es _, _⟩ => es.toList.flatMap fun e => He.refV e.val
  | _ => []
def lev (g : Addr → Option Obj) (l : List Addr) : List Addr := l.flatMap (nextG g)
def asL (g : Addr → Option Obj) : List Addr :=
  let l1 := ownG (entsG g mainGlobals)
  let l2 := lev g l1
  let l3 := lev g l2
  mainGlobals :: (l1 ++ (l2 ++ (l3 ++ lev g l3)))
def partG (g : Addr → Option Obj) : PySem.W.Frag := He.frG g (asL g)
/-! ### the look: all of it at once -/
structure Look where
  fxs : List (List Fx)
  fys : List (List Fx)
  fns : List (List He.FnD)
  dcs : List (Str × List (L2.Key × V))
  hbs : List (Str × List Str × List (List Nat))
abbrev TyF : Type := List (List He.FnV)
abbrev TyD : Type := List (Option (List (Option L2.Key × Int × V)))
abbrev TyH : Type := List (Option (List (Option L2.Key × Int × Option (List (Option Nat)))))
abbrev AlC : Type := Bool × Bool × TyF × TyD × TyH
def okFx (l : List (List Fx)) (K : PySem.W.Frag) : Bool := l.all fun l => l.all fun f => f.ok K
def obF (L : Look) (K : PySem.W.Frag) : TyF := L.fns.map fun l => l.map fun d => He.fnObs K d.at_
def vaF (L : Look) : TyF := L.fns.map fun l => l.map He.FnD.val
def obD (L : Look) (K : PySem.W.Frag) : TyD := L.dcs.map fun d => dObs K d.1
def vaD (L : Look) (w : World) : TyD := L.dcs.map fun d => dVal w d.2
def obH (L : Look) (K : PySem.W.Frag) : TyH := L.hbs.map fun d => hObs K d.1
def vaH (L : Look) (w : World) : TyH := L.hbs.map fun d => hVal w d.2.1 d.2.2
def Look.obs (L : Look) (K : PySem.W.Frag) : AlC := (okFx L.fxs K, okFx L.fys K, obF L K, obD L K, obH L K)
def Look.val (L : Look) (w : World) : AlC := (true, true, vaF L, vaD L w, vaH L w)
def Look.says (L : Look) (w : World) (K : PySem.W.Frag) : Prop := L.obs K = L.val w
def Look.obsG (L : Look) (g : Addr → Option Obj) : AlC := L.obs (partG g)
def Look.hook (L : Look) : PySem.W.Hook where
  α := AlC
  obs := fun s => L.obsG s.heap.get?
  val := fun w => L.val w
  says := fun w h => ∃ K : PySem.W.Frag, K.In h ∧ L.says w K
  of := fun _ _ e => ⟨_, He.frG_in, e⟩
  keeps := fun _ _ _ ⟨K, hK, c⟩ k => ⟨K, PySem.W.Frag.In.keeps hK k, c⟩
theorem Look.obsG_eq {L : Look} {g : Addr → Option Obj} {s : Shared} (h : ∀ a, g a = s.heap.get? a) : L.obsG g = L.hook.obs s := by
  obtain rfl : g = s.heap.get? := funext h
  rfl
/-! ### equations over one run, put together -/
section
variable {A B C : Type} {x : Option A} {f : A → B} {g : A → C} {b : B} {c : C}
theorem run_pair_ (h1 : x.map f = some b) (h2 : x.map g = some c) : x.map (fun s => (f s, g s)) = some (b, c) := by
  cases x with
  | none => cases h1
  | some s =>
    have e1 : f s = b := Option.some.inj h1
    have e2 : g s = c := Option.some.inj h2
    show some (f s, g s) = some (b, c)
    rw [e1, e2]
theorem run_fst (h : x.map (fun s => (f s, g s)) = some (b, c)) : x.map f = some b := by
  cases x with
  | none => cases h
  | some s => exact congrArg some (congrArg Prod.fst (Option.some.inj h))
theorem run_snd (h : x.map (fun s => (f s, g s)) = some (b, c)) : x.map g = some c := by
  cases x with
  | none => cases h
  | some s => exact congrArg some (congrArg Prod.snd (Option.some.inj h))
end
end CP
/-! HRun0 -/
namespace CP
open PySem PySem.Spec PyProof.Rows L2
def tbZOFROWS : List (L2.Key × V) := [(Sum.inl 0, .int 0), (Sum.inl 1, .int 1), (Sum.inl 2, .int 2), (Sum.inl 4, .int 3)]
def tbVOFROWS : List (L2.Key × V) := [(Sum.inl 0, .int 0), (Sum.inl 1, .int 1), (Sum.inl 2, .int 2), (Sum.inl 4, .int 3), (Sum.inl 8, .int 4), (Sum.inl 16, .int 5), (Sum.inl 32, .int 6), (Sum.inl 64, .int 7), (Sum.inl 128, .int 8), (Sum.inl 256, .int 9), (Sum.inl 130, .int 10), (Sum.inl 132, .int 11), (Sum.inl 136, .int 12), (Sum.inl 144, .int 13), (Sum.inl 160, .int 14), (Sum.inl 192, .int 15)]
def taSENDERS : List Str := ["read", "send", "from", "upper", "lower", "hole", "chosen", "both"]
def tnSENDERS : List (List Nat) := [[79], [63], [255], [63], [63], [63, 11], [63], [63]]
def taTAKERS : List Str := ["to", "split", "look", "by", "plain", "other", "one", "two"]
def tnTAKERS : List (List Nat) := [[255], [63], [63], [63], [63], [63], [63], [63]]
def tbBOXTHATSENDS : List (L2.Key × V) := [(Sum.inr "upper", .str "split"), (Sum.inr "lower", .str "split"), (Sum.inr "hole", .str "look"), (Sum.inr "chosen", .str "chosen"), (Sum.inr "both", .str "both")]
def tbBOXTHATTAKES : List (L2.Key × V) := [(Sum.inr "split", .str "split"), (Sum.inr "look", .str "look"), (Sum.inr "by", .str "chosen"), (Sum.inr "plain", .str "chosen"), (Sum.inr "other", .str "chosen"), (Sum.inr "one", .str "both"), (Sum.inr "two", .str "both")]
def tbFIGUREOFHOLES : List (L2.Key × V) := [(Sum.inl 4, .int 0), (Sum.inl 8, .int 1), (Sum.inl 16, .int 2), (Sum.inl 32, .int 3), (Sum.inl 64, .int 4), (Sum.inl 128, .int 5), (Sum.inl 256, .int 6), (Sum.inl 512, .int 7), (Sum.inl 1024, .int 8), (Sum.inl 2048, .int 9)]
def tbMOSTS : List (L2.Key × V) := [(Sum.inl 4, .int 15), (Sum.inl 7, .int 15), (Sum.inl 8, .int 15), (Sum.inl 10, .int 64)]
def tuUSES : List Str := ["kcn", "kj", "kj", "kj", "kjs", "kx", "kj", "ks", "ks", "kcn", "s"]
def lkA0 : List Fx := [.free "len", .free "range", .free "enumerate", .free "max", .free "list", .free "tuple", .free "dict", .free "sorted", .free "ord", .int "COLUMNS" 80, .int "MOST_HOLES" 4095, .int "MOST_CARDS" 1000]
def lkA1 : List Fx := [.int "POCKETS" 13, .int "REJECT" 12, .int "MERGED" 0, .int "MATCHED" 1, .int "MERGED_WHERE_MATCHED" 2, .glo "Z_OF_ROWS", .glo "V_OF_ROWS", .glo "SENDERS", .glo "TAKERS", .glo "BOX_THAT_SENDS", .glo "BOX_THAT_TAKES", .int "LONGEST_TEXT" 16384]
def lkA2 : List Fx := [.int "UPPER_ROWS" 3, .int "LOWER_ROWS" 4092, .int "PLACES" 256, .int "LINE_END" 10, .int "NOUGHT" 48, .int "NINE" 57, .int "MOST_WIRES" 256, .cls "LineScan", .noat "LineScan" "line", .noat "LineScan" "at", .noat "LineScan" "right", .cls "CallReader"]
def lkA3 : List Fx := [.noat "CallReader" "calls", .noat "CallReader" "place", .int "THE_PASS" 1, .int "FOLLOW" 2, .int "COLLATE" 3, .int "SELECT" 4, .int "SETCOPY" 5, .int "WRONG_NUMBERS" (-3), .int "FIRST_OUT_OF_SEQUENCE" (-5), .int "SECOND_OUT_OF_SEQUENCE" (-6), .int "NO_DECK" (-8), .free "abs"]
def lkA4 : List Fx := [.free "int", .free "isinstance", .free "min", .free "str", .int "BELOW_HOLE" 2, .glo "FIGURE_OF_HOLES", .glo "MOST_S", .glo "USES", .tup "USES" tuUSES, .int "STEP_NUMBERS" 9, .int "MOST_STEPS" 64, .int "MOST_OP" 10]
def lkA5 : List Fx := [.int "MOST_WHEN" 5, .int "MOST_HUB" 255, .int "MOST_COUNTER" 15, .int "LONGEST_AMOUNT" 18, .int "LEAST_X" (-2147483648), .int "MOST_X" 2147483647, .int "FIRST_KEPT" 8, .int "KEPT" 8, .int "COUNTER_LIMIT" 10000000000000000, .int "READ" 0, .int "MORE" 1, .int "LESS" 2]
def lkA6 : List Fx := [.int "TIMES" 3, .int "DIVIDE" 4, .int "SET" 5, .int "MOVE" 6, .int "SHORTEN" 7, .int "PUNCH" 9, .int "SKIP" 10, .int "IF_BELOW" 1, .int "IF_NOUGHT" 2, .int "IF_ABOVE" 3, .int "IF_SOMETHING" 4, .int "IF_NOTHING" 5]
def lkA7 : List Fx := [.int "NO_AMOUNT" 1, .int "TOO_GREAT" 2, .int "BY_NOUGHT" 3, .int "TOO_LONG" 4, .int "STOP" 80, .int "FIRST_COMPARED" 96, .int "FIRST_COMPARED_WITH" 176, .int "COPY" 6, .int "SETWORK" 7, .int "WORK" 8, .int "COUNTERS" 9, .int "NO_PROGRAM" (-2)]
def lkA8 : List Fx := [.int "NOT_SET_UP" (-3), .int "CARDS_DIFFER" (-5), .int "WRONG_STEP" (-5), .int "NO_CARD" (-8), .glo "ReproducingPunch", .glo "CalculatingPunch", .cls "Step", .noat "Step" "op", .noat "Step" "when", .noat "Step" "hub", .noat "Step" "k", .noat "Step" "j"]
def lkA9 : List Fx := [.noat "Step" "c", .noat "Step" "n", .noat "Step" "s", .noat "Step" "x", .cls "CardRun", .noat "CardRun" "card", .noat "CardRun" "counters", .noat "CardRun" "goes", .isi "ReproducingPunch", .noat "ReproducingPunch" "panel", .noat "ReproducingPunch" "last_card", .isi "CalculatingPunch"]
def lkA10 : List Fx := [.noat "CalculatingPunch" "steps", .noat "CalculatingPunch" "panel", .noat "CalculatingPunch" "kept", .cls "Desk", .noat "Desk" "punch", .kitN "ReproducingPunch", .kitN "CalculatingPunch", .kit "ReproducingPunch" "ReproducingPunch" true, .kit "ReproducingPunch" "CalculatingPunch" false, .kit "CalculatingPunch" "ReproducingPunch" false, .kit "CalculatingPunch" "CalculatingPunch" true, .hasc "CalculatingPunch"]
def lkA11 : List Fx := [.hasc "CallReader", .hasc "CardRun", .hasc "Desk", .hasc "LineScan", .hasc "ReproducingPunch", .hasc "Step", .dfn "is_column", .dfn "is_field", .dfn "figure_hole", .dfn "blank_card", .dfn "code_holes", .dfn "column_rank"]
def lkA12 : List Fx := [.dfn "comes_before", .dfn "out_of_sequence", .dfn "read_card", .dfn "read_deck", .dfn "tell_card", .dfn "tell_deck", .dfn "is_order", .dfn "is_pass", .dfn "pocket_of", .dfn "drop_cards", .dfn "stack", .dfn "is_collation"]
def lkA13 : List Fx := [.dfn "fields_of", .dfn "cards_like", .dfn "cards_unlike", .dfn "merge", .dfn "collate", .dfn "lines_of", .dfn "shared_signs", .dfn "is_figure", .mth "LineScan" "__init__" "LineScan.__init__", .mth "LineScan" "take_word" "LineScan.take_word", .mth "LineScan" "figure_here" "LineScan.figure_here", .mth "LineScan" "take_number" "LineScan.take_number"]
def lkA14 : List Fx := [.dfn "take_hub", .dfn "take_wire", .dfn "text_fault", .dfn "wires_of", .dfn "sending_box", .dfn "taking_box", .dfn "joins_boxes", .dfn "machine_sending", .dfn "silent_machine", .dfn "machine_gets", .dfn "sent_by_box", .dfn "sent"]
def lkC0 : List Fx := [.dfn "run_panel", .dfn "leads_to", .dfn "wire_fault", .dfn "panel_refusal", .dfn "count_into_boxes", .dfn "in_running_order", .dfn "read_panel", .dfn "is_selected", .dfn "select_cards", .mth "CallReader" "__init__" "CallReader.__init__", .mth "CallReader" "at_end" "CallReader.at_end", .mth "CallReader" "next_number" "CallReader.next_number"]
def lkC1 : List Fx := [.mth "CallReader" "next_row" "CallReader.next_row", .dfn "tell_pockets", .dfn "answer_the_pass", .dfn "answer_follow", .dfn "answer_collate", .dfn "answer_select", .dfn "number_of_figures", .dfn "read_amount", .dfn "figures_of", .dfn "amount_fits", .dfn "write_amount", .mth "Step" "__init__" "Step.__init__"]
def lkC2 : List Fx := [.dfn "asks_counter", .dfn "asks_panel", .dfn "number_fits", .dfn "field_fits", .dfn "x_fits", .dfn "is_as_it_should_be", .dfn "read_step", .dfn "read_program", .mth "CardRun" "__init__" "CardRun.__init__", .dfn "power_of_ten", .dfn "quotient_of", .dfn "rounded_quotient"]
def lkC3 : List Fx := [.dfn "put", .dfn "read_field", .dfn "divide", .dfn "punch_field", .dfn "reckoned", .dfn "do_step", .dfn "is_done", .mth "CalculatingPunch" "__init__" "CalculatingPunch.__init__", .dfn "begin_card", .dfn "keep_counters", .dfn "run_steps", .mth "ReproducingPunch" "__init__" "ReproducingPunch.__init__"]
def lkC4 : List Fx := [.dfn "run_pair", .dfn "place_that_differs", .dfn "stops_behind", .dfn "punch_card", .mth "Desk" "__init__" "Desk.__init__", .dfn "answer_setcopy", .dfn "answer_counters", .dfn "answer_copy", .dfn "answer_setwork", .dfn "answer_work", .dfn "answer_punch_call", .dfn "answer_call"]
def lkC5 : List Fx := [.dfn "answers"]
def lkB0 : List He.FnD := [⟨("is_column", none), "is_column", "is_column", defArgs (topS 9), defBody (topS 9), defScope (topS 9)⟩, ⟨("is_field", none), "is_field", "is_field", defArgs (topS 10), defBody (topS 10), defScope (topS 10)⟩, ⟨("figure_hole", none), "figure_hole", "figure_hole", defArgs (topS 6), defBody (topS 6), defScope (topS 6)⟩, ⟨("blank_card", none), "blank_card", "blank_card", defArgs (topS 13), defBody (topS 13), defScope (topS 13)⟩, ⟨("code_holes", none), "code_holes", "code_holes", defArgs (topS 7), defBody (topS 7), defScope (topS 7)⟩, ⟨("column_rank", none), "column_rank", "column_rank", defArgs (topS 8), defBody (topS 8), defScope (topS 8)⟩, ⟨("comes_before", none), "comes_before", "comes_before", defArgs (topS 11), defBody (topS 11), defScope (topS 11)⟩, ⟨("out_of_sequence", none), "out_of_sequence", "out_of_sequence", defArgs (topS 12), defBody (topS 12), defScope (topS 12)⟩, ⟨("read_card", none), "read_card", "read_card", defArgs (topS 14), defBody (topS 14), defScope (topS 14)⟩, ⟨("read_deck", none), "read_deck", "read_deck", defArgs (topS 15), defBody (topS 15), defScope (topS 15)⟩, ⟨("tell_card", none), "tell_card", "tell_card", defArgs (topS 16), defBody (topS 16), defScope (topS 16)⟩, ⟨("tell_deck", none), "tell_deck", "tell_deck", defArgs (topS 17), defBody (topS 17), defScope (topS 17)⟩]
def lkB1 : List He.FnD := [⟨("is_order", none), "is_order", "is_order", defArgs (topS 147), defBody (topS 147), defScope (topS 147)⟩, ⟨("is_pass", none), "is_pass", "is_pass", defArgs (topS 148), defBody (topS 148), defScope (topS 148)⟩, ⟨("pocket_of", none), "pocket_of", "pocket_of", defArgs (topS 149), defBody (topS 149), defScope (topS 149)⟩, ⟨("drop_cards", none), "drop_cards", "drop_cards", defArgs (topS 150), defBody (topS 150), defScope (topS 150)⟩, ⟨("stack", none), "stack", "stack", defArgs (topS 151), defBody (topS 151), defScope (topS 151)⟩, ⟨("is_collation", none), "is_collation", "is_collation", defArgs (topS 105), defBody (topS 105), defScope (topS 105)⟩, ⟨("fields_of", none), "fields_of", "fields_of", defArgs (topS 107), defBody (topS 107), defScope (topS 107)⟩, ⟨("cards_like", none), "cards_like", "cards_like", defArgs (topS 108), defBody (topS 108), defScope (topS 108)⟩, ⟨("cards_unlike", none), "cards_unlike", "cards_unlike", defArgs (topS 109), defBody (topS 109), defScope (topS 109)⟩, ⟨("merge", none), "merge", "merge", defArgs (topS 106), defBody (topS 106), defScope (topS 106)⟩, ⟨("collate", none), "collate", "collate", defArgs (topS 110), defBody (topS 110), defScope (topS 110)⟩, ⟨("lines_of", none), "lines_of", "lines_of", defArgs (topS 33), defBody (topS 33), defScope (topS 33)⟩]
def lkB2 : List He.FnD := [⟨("shared_signs", none), "shared_signs", "shared_signs", defArgs (topS 34), defBody (topS 34), defScope (topS 34)⟩, ⟨("is_figure", none), "is_figure", "is_figure", defArgs (topS 35), defBody (topS 35), defScope (topS 35)⟩, ⟨("LineScan", some "__init__"), "__init__", "LineScan.__init__", defArgs (inClass (topS 36) 0), defBody (inClass (topS 36) 0), defScope (inClass (topS 36) 0)⟩, ⟨("LineScan", some "take_word"), "take_word", "LineScan.take_word", defArgs (inClass (topS 36) 1), defBody (inClass (topS 36) 1), defScope (inClass (topS 36) 1)⟩, ⟨("LineScan", some "figure_here"), "figure_here", "LineScan.figure_here", defArgs (inClass (topS 36) 2), defBody (inClass (topS 36) 2), defScope (inClass (topS 36) 2)⟩, ⟨("LineScan", some "take_number"), "take_number", "LineScan.take_number", defArgs (inClass (topS 36) 3), defBody (inClass (topS 36) 3), defScope (inClass (topS 36) 3)⟩, ⟨("take_hub", none), "take_hub", "take_hub", defArgs (topS 37), defBody (topS 37), defScope (topS 37)⟩, ⟨("take_wire", none), "take_wire", "take_wire", defArgs (topS 38), defBody (topS 38), defScope (topS 38)⟩, ⟨("text_fault", none), "text_fault", "text_fault", defArgs (topS 39), defBody (topS 39), defScope (topS 39)⟩, ⟨("wires_of", none), "wires_of", "wires_of", defArgs (topS 40), defBody (topS 40), defScope (topS 40)⟩, ⟨("sending_box", none), "sending_box", "sending_box", defArgs (topS 48), defBody (topS 48), defScope (topS 48)⟩, ⟨("taking_box", none), "taking_box", "taking_box", defArgs (topS 49), defBody (topS 49), defScope (topS 49)⟩]
def lkB3 : List He.FnD := [⟨("joins_boxes", none), "joins_boxes", "joins_boxes", defArgs (topS 50), defBody (topS 50), defScope (topS 50)⟩, ⟨("machine_sending", none), "machine_sending", "machine_sending", defArgs (topS 57), defBody (topS 57), defScope (topS 57)⟩, ⟨("silent_machine", none), "silent_machine", "silent_machine", defArgs (topS 58), defBody (topS 58), defScope (topS 58)⟩, ⟨("machine_gets", none), "machine_gets", "machine_gets", defArgs (topS 59), defBody (topS 59), defScope (topS 59)⟩, ⟨("sent_by_box", none), "sent_by_box", "sent_by_box", defArgs (topS 60), defBody (topS 60), defScope (topS 60)⟩, ⟨("sent", none), "sent", "sent", defArgs (topS 61), defBody (topS 61), defScope (topS 61)⟩, ⟨("run_panel", none), "run_panel", "run_panel", defArgs (topS 62), defBody (topS 62), defScope (topS 62)⟩, ⟨("leads_to", none), "leads_to", "leads_to", defArgs (topS 51), defBody (topS 51), defScope (topS 51)⟩, ⟨("wire_fault", none), "wire_fault", "wire_fault", defArgs (topS 52), defBody (topS 52), defScope (topS 52)⟩, ⟨("panel_refusal", none), "panel_refusal", "panel_refusal", defArgs (topS 53), defBody (topS 53), defScope (topS 53)⟩, ⟨("count_into_boxes", none), "count_into_boxes", "count_into_boxes", defArgs (topS 54), defBody (topS 54), defScope (topS 54)⟩, ⟨("in_running_order", none), "in_running_order", "in_running_order", defArgs (topS 55), defBody (topS 55), defScope (topS 55)⟩]
def lkB4 : List He.FnD := [⟨("read_panel", none), "read_panel", "read_panel", defArgs (topS 56), defBody (topS 56), defScope (topS 56)⟩, ⟨("is_selected", none), "is_selected", "is_selected", defArgs (topS 142), defBody (topS 142), defScope (topS 142)⟩, ⟨("select_cards", none), "select_cards", "select_cards", defArgs (topS 143), defBody (topS 143), defScope (topS 143)⟩, ⟨("CallReader", some "__init__"), "__init__", "CallReader.__init__", defArgs (inClass (topS 172) 0), defBody (inClass (topS 172) 0), defScope (inClass (topS 172) 0)⟩, ⟨("CallReader", some "at_end"), "at_end", "CallReader.at_end", defArgs (inClass (topS 172) 1), defBody (inClass (topS 172) 1), defScope (inClass (topS 172) 1)⟩, ⟨("CallReader", some "next_number"), "next_number", "CallReader.next_number", defArgs (inClass (topS 172) 2), defBody (inClass (topS 172) 2), defScope (inClass (topS 172) 2)⟩, ⟨("CallReader", some "next_row"), "next_row", "CallReader.next_row", defArgs (inClass (topS 172) 3), defBody (inClass (topS 172) 3), defScope (inClass (topS 172) 3)⟩, ⟨("tell_pockets", none), "tell_pockets", "tell_pockets", defArgs (topS 174), defBody (topS 174), defScope (topS 174)⟩, ⟨("answer_the_pass", none), "answer_the_pass", "answer_the_pass", defArgs (topS 175), defBody (topS 175), defScope (topS 175)⟩, ⟨("answer_follow", none), "answer_follow", "answer_follow", defArgs (topS 176), defBody (topS 176), defScope (topS 176)⟩, ⟨("answer_collate", none), "answer_collate", "answer_collate", defArgs (topS 177), defBody (topS 177), defScope (topS 177)⟩, ⟨("answer_select", none), "answer_select", "answer_select", defArgs (topS 178), defBody (topS 178), defScope (topS 178)⟩]
def lkB5 : List He.FnD := [⟨("number_of_figures", none), "number_of_figures", "number_of_figures", defArgs (topS 21), defBody (topS 21), defScope (topS 21)⟩, ⟨("read_amount", none), "read_amount", "read_amount", defArgs (topS 22), defBody (topS 22), defScope (topS 22)⟩, ⟨("figures_of", none), "figures_of", "figures_of", defArgs (topS 23), defBody (topS 23), defScope (topS 23)⟩, ⟨("amount_fits", none), "amount_fits", "amount_fits", defArgs (topS 24), defBody (topS 24), defScope (topS 24)⟩, ⟨("write_amount", none), "write_amount", "write_amount", defArgs (topS 25), defBody (topS 25), defScope (topS 25)⟩, ⟨("Step", some "__init__"), "__init__", "Step.__init__", defArgs (inClass (topS 123) 0), defBody (inClass (topS 123) 0), defScope (inClass (topS 123) 0)⟩, ⟨("asks_counter", none), "asks_counter", "asks_counter", defArgs (topS 124), defBody (topS 124), defScope (topS 124)⟩, ⟨("asks_panel", none), "asks_panel", "asks_panel", defArgs (topS 125), defBody (topS 125), defScope (topS 125)⟩, ⟨("number_fits", none), "number_fits", "number_fits", defArgs (topS 126), defBody (topS 126), defScope (topS 126)⟩, ⟨("field_fits", none), "field_fits", "field_fits", defArgs (topS 127), defBody (topS 127), defScope (topS 127)⟩, ⟨("x_fits", none), "x_fits", "x_fits", defArgs (topS 128), defBody (topS 128), defScope (topS 128)⟩, ⟨("is_as_it_should_be", none), "is_as_it_should_be", "is_as_it_should_be", defArgs (topS 129), defBody (topS 129), defScope (topS 129)⟩]
def lkB6 : List He.FnD := [⟨("read_step", none), "read_step", "read_step", defArgs (topS 130), defBody (topS 130), defScope (topS 130)⟩, ⟨("read_program", none), "read_program", "read_program", defArgs (topS 131), defBody (topS 131), defScope (topS 131)⟩, ⟨("CardRun", some "__init__"), "__init__", "CardRun.__init__", defArgs (inClass (topS 87) 0), defBody (inClass (topS 87) 0), defScope (inClass (topS 87) 0)⟩, ⟨("power_of_ten", none), "power_of_ten", "power_of_ten", defArgs (topS 88), defBody (topS 88), defScope (topS 88)⟩, ⟨("quotient_of", none), "quotient_of", "quotient_of", defArgs (topS 89), defBody (topS 89), defScope (topS 89)⟩, ⟨("rounded_quotient", none), "rounded_quotient", "rounded_quotient", defArgs (topS 90), defBody (topS 90), defScope (topS 90)⟩, ⟨("put", none), "put", "put", defArgs (topS 91), defBody (topS 91), defScope (topS 91)⟩, ⟨("read_field", none), "read_field", "read_field", defArgs (topS 92), defBody (topS 92), defScope (topS 92)⟩, ⟨("divide", none), "divide", "divide", defArgs (topS 93), defBody (topS 93), defScope (topS 93)⟩, ⟨("punch_field", none), "punch_field", "punch_field", defArgs (topS 94), defBody (topS 94), defScope (topS 94)⟩, ⟨("reckoned", none), "reckoned", "reckoned", defArgs (topS 95), defBody (topS 95), defScope (topS 95)⟩, ⟨("do_step", none), "do_step", "do_step", defArgs (topS 96), defBody (topS 96), defScope (topS 96)⟩]
def lkB7 : List He.FnD := [⟨("is_done", none), "is_done", "is_done", defArgs (topS 97), defBody (topS 97), defScope (topS 97)⟩, ⟨("CalculatingPunch", some "__init__"), "__init__", "CalculatingPunch.__init__", defArgs (inClass (topS 86) 0), defBody (inClass (topS 86) 0), defScope (inClass (topS 86) 0)⟩, ⟨("begin_card", none), "begin_card", "begin_card", defArgs (topS 98), defBody (topS 98), defScope (topS 98)⟩, ⟨("keep_counters", none), "keep_counters", "keep_counters", defArgs (topS 100), defBody (topS 100), defScope (topS 100)⟩, ⟨("run_steps", none), "run_steps", "run_steps", defArgs (topS 99), defBody (topS 99), defScope (topS 99)⟩, ⟨("ReproducingPunch", some "__init__"), "__init__", "ReproducingPunch.__init__", defArgs (inClass (topS 136) 0), defBody (inClass (topS 136) 0), defScope (inClass (topS 136) 0)⟩, ⟨("run_pair", none), "run_pair", "run_pair", defArgs (topS 137), defBody (topS 137), defScope (topS 137)⟩, ⟨("place_that_differs", none), "place_that_differs", "place_that_differs", defArgs (topS 138), defBody (topS 138), defScope (topS 138)⟩, ⟨("stops_behind", none), "stops_behind", "stops_behind", defArgs (topS 139), defBody (topS 139), defScope (topS 139)⟩, ⟨("punch_card", none), "punch_card", "punch_card", defArgs (topS 140), defBody (topS 140), defScope (topS 140)⟩, ⟨("Desk", some "__init__"), "__init__", "Desk.__init__", defArgs (inClass (topS 173) 0), defBody (inClass (topS 173) 0), defScope (inClass (topS 173) 0)⟩, ⟨("answer_setcopy", none), "answer_setcopy", "answer_setcopy", defArgs (topS 179), defBody (topS 179), defScope (topS 179)⟩]
def lkB8 : List He.FnD := [⟨("answer_counters", none), "answer_counters", "answer_counters", defArgs (topS 183), defBody (topS 183), defScope (topS 183)⟩, ⟨("answer_copy", none), "answer_copy", "answer_copy", defArgs (topS 180), defBody (topS 180), defScope (topS 180)⟩, ⟨("answer_setwork", none), "answer_setwork", "answer_setwork", defArgs (topS 181), defBody (topS 181), defScope (topS 181)⟩, ⟨("answer_work", none), "answer_work", "answer_work", defArgs (topS 182), defBody (topS 182), defScope (topS 182)⟩, ⟨("answer_punch_call", none), "answer_punch_call", "answer_punch_call", defArgs (topS 184), defBody (topS 184), defScope (topS 184)⟩, ⟨("answer_call", none), "answer_call", "answer_call", defArgs (topS 185), defBody (topS 185), defScope (topS 185)⟩, ⟨("answers", none), "answers", "answers", defArgs (topS 186), defBody (topS 186), defScope (topS 186)⟩]
def look : Look := ⟨[lkA0, lkA1, lkA2, lkA3, lkA4, lkA5, lkA6, lkA7, lkA8, lkA9, lkA10, lkA11, lkA12, lkA13, lkA14], [lkC0, lkC1, lkC2, lkC3, lkC4, lkC5], [lkB0, lkB1, lkB2, lkB3, lkB4, lkB5, lkB6, lkB7, lkB8], [("Z_OF_ROWS", tbZOFROWS), ("V_OF_ROWS", tbVOFROWS), ("BOX_THAT_SENDS", tbBOXTHATSENDS), ("BOX_THAT_TAKES", tbBOXTHATTAKES), ("FIGURE_OF_HOLES", tbFIGUREOFHOLES), ("MOST_S", tbMOSTS)], [("SENDERS", taSENDERS, tnSENDERS), ("TAKERS", taTAKERS, tnTAKERS)]⟩
end CP
/-! HRunB -/
namespace CPR
open PySem PySem.W PySem.Calls PyProof.Rows
abbrev R : OpenSpec := PySem.Challenge.rw_cardpunches_s01_answers
abbrev qv : Program := view R.prog [186]
def nm0 : List PySem.Str := ["COLUMNS", "MOST_HOLES", "MOST_CARDS", "Z_OF_ROWS", "V_OF_ROWS", "figure_hole", "code_holes", "column_rank", "is_column", "is_field", "comes_before", "out_of_sequence", "blank_card", "read_card", "read_deck"]
def nm1 : List PySem.Str := ["tell_card", "tell_deck", "BELOW_HOLE", "FIGURE_OF_HOLES", "number_of_figures", "read_amount", "figures_of", "amount_fits", "write_amount", "MOST_WIRES", "LINE_END", "NOUGHT", "NINE", "SENDERS", "TAKERS"]
def nm2 : List PySem.Str := ["lines_of", "shared_signs", "is_figure", "LineScan", "take_hub", "take_wire", "text_fault", "wires_of", "LONGEST_TEXT", "UPPER_ROWS", "LOWER_ROWS", "PLACES", "BOX_THAT_SENDS", "BOX_THAT_TAKES", "sending_box"]
def nm3 : List PySem.Str := ["taking_box", "joins_boxes", "leads_to", "wire_fault", "panel_refusal", "count_into_boxes", "in_running_order", "read_panel", "machine_sending", "silent_machine", "machine_gets", "sent_by_box", "sent", "run_panel", "FIRST_KEPT"]
def nm4 : List PySem.Str := ["KEPT", "COUNTER_LIMIT", "READ", "MORE", "LESS", "TIMES", "DIVIDE", "SET", "MOVE", "SHORTEN", "PUNCH", "SKIP", "IF_BELOW", "IF_NOUGHT", "IF_ABOVE"]
def nm5 : List PySem.Str := ["IF_SOMETHING", "IF_NOTHING", "NO_AMOUNT", "TOO_GREAT", "BY_NOUGHT", "TOO_LONG", "CalculatingPunch", "CardRun", "power_of_ten", "quotient_of", "rounded_quotient", "put", "read_field", "divide", "punch_field"]
def nm6 : List PySem.Str := ["reckoned", "do_step", "is_done", "begin_card", "run_steps", "keep_counters", "MERGED", "MATCHED", "MERGED_WHERE_MATCHED", "is_collation", "merge", "fields_of", "cards_like", "cards_unlike", "collate"]
def nm7 : List PySem.Str := ["STEP_NUMBERS", "MOST_STEPS", "MOST_OP", "MOST_WHEN", "MOST_HUB", "MOST_COUNTER", "LONGEST_AMOUNT", "LEAST_X", "MOST_X", "USES", "MOST_S", "Step", "asks_counter", "asks_panel", "number_fits"]
def nm8 : List PySem.Str := ["field_fits", "x_fits", "is_as_it_should_be", "read_step", "read_program", "STOP", "FIRST_COMPARED", "FIRST_COMPARED_WITH", "ReproducingPunch", "run_pair", "place_that_differs", "stops_behind", "punch_card", "is_selected", "select_cards"]
def nm9 : List PySem.Str := ["POCKETS", "REJECT", "is_order", "is_pass", "pocket_of", "drop_cards", "stack", "THE_PASS", "FOLLOW", "COLLATE", "SELECT", "SETCOPY", "COPY", "SETWORK", "WORK"]
def nm10 : List PySem.Str := ["COUNTERS", "NO_PROGRAM", "WRONG_NUMBERS", "NOT_SET_UP", "FIRST_OUT_OF_SEQUENCE", "CARDS_DIFFER", "WRONG_STEP", "SECOND_OUT_OF_SEQUENCE", "NO_DECK", "NO_CARD", "UnknownCall", "CallReader", "Desk", "tell_pockets", "answer_the_pass"]
def nm11 : List PySem.Str := ["answer_follow", "answer_collate", "answer_select", "answer_setcopy", "answer_copy", "answer_setwork", "answer_work", "answer_counters", "answer_punch_call", "answer_call"]
def names : List PySem.Str := nm0 ++ nm1 ++ nm2 ++ nm3 ++ nm4 ++ nm5 ++ nm6 ++ nm7 ++ nm8 ++ nm9 ++ nm10 ++ nm11
abbrev hk : Hook := CP.look.hook
def ob (s : SharedT) : CP.AlC := CP.look.obsG (HandSHeadRun.getT s)
theorem ob_eq (s : SharedT) : ob s = hk.obs s.abs := CP.Look.obsG_eq (HandSHeadRun.getT_eq s)
noncomputable abbrev endR (w : World) (os : OsState) : Option SharedT := HandSHeadRun.endF (HandSHeadRun.stepQ (HandSHeadRun.denQ HandSHeadRun.tabQ) R.prog w) 20000 R.prog w os
abbrev parT (s : SharedT) : Frag := CP.partG (HandSHeadRun.getT s)
abbrev EqA (w : World) (os : OsState) : Prop := (endR w os).map (fun s => (HandSHeadRun.looksF R.prog (boot_heap w.params) s.abs, CP.obD CP.look (parT s), CP.obH CP.look (parT s))) = some (true, CP.vaD CP.look w, CP.vaH CP.look w)
abbrev EqB (w : World) (os : OsState) : Prop := (endR w os).map (fun s => (HandSHeadRun.seenQ qv names (importedModules R.prog.main.body) (fun s => xlAt qv [] s && recOk [] s) s.abs, CP.obF CP.look (parT s))) = some (openGood qv names, CP.vaF CP.look)
abbrev EqC (w : World) (os : OsState) : Prop := (endR w os).map (fun s => CP.okFx CP.look.fxs (parT s)) = some true
abbrev EqD (w : World) (os : OsState) : Prop := (endR w os).map (fun s => CP.okFx CP.look.fys (parT s)) = some true
end CPR
/-! HRun_Bf -/
namespace CPR
open PySem PySem.W PySem.Calls PyProof.Rows
set_option maxHeartbeats 0 in
theorem eqB_f (w : World) (os : OsState) : EqB (w.withFollow "special-get-raises" false) os := by
  kernel_rfl
end CPR
/-! HRun_Bt -/
namespace CPR
open PySem PySem.W PySem.Calls PyProof.Rows
set_option maxHeartbeats 0 in
theorem eqB_t (w : World) (os : OsState) : EqB (w.withFollow "special-get-raises" true) os := by
  kernel_rfl
end CPR
/-! HRun_Af -/
namespace CPR
open PySem PySem.W PySem.Calls PyProof.Rows
set_option maxHeartbeats 0 in
theorem eqA_f (w : World) (os : OsState) : EqA (w.withFollow "special-get-raises" false) os := by
  kernel_rfl
end CPR
/-! HRun_At -/
namespace CPR
open PySem PySem.W PySem.Calls PyProof.Rows
set_option maxHeartbeats 0 in
theorem eqA_t (w : World) (os : OsState) : EqA (w.withFollow "special-get-raises" true) os := by
  kernel_rfl
end CPR
/-! HRun_Cf -/
namespace CPR
open PySem PySem.W PySem.Calls PyProof.Rows
set_option maxHeartbeats 0 in
theorem eqC_f (w : World) (os : OsState) : EqC (w.withFollow "special-get-raises" false) os := by
  kernel_rfl
end CPR
/-! HRun_Ct -/
namespace CPR
open PySem PySem.W PySem.Calls PyProof.Rows
set_option maxHeartbeats 0 in
theorem eqC_t (w : World) (os : OsState) : EqC (w.withFollow "special-get-raises" true) os := by
  kernel_rfl
end CPR
/-! HRun_Df -/
namespace CPR
open PySem PySem.W PySem.Calls PyProof.Rows
set_option maxHeartbeats 0 in
theorem eqD_f (w : World) (os : OsState) : EqD (w.withFollow "special-get-raises" false) os := by
  kernel_rfl
end CPR
/-! HRun_Dt -/
namespace CPR
open PySem PySem.W PySem.Calls PyProof.Rows
set_option maxHeartbeats 0 in
theorem eqD_t (w : World) (os : OsState) : EqD (w.withFollow "special-get-raises" true) os := by
  kernel_rfl
end CPR
/-! HRun1 -/
namespace CPR
open PySem PySem.W PySem.Calls PyProof.Rows
theorem run_of {w : World} (a : ∀ os, EqA w os) (b : ∀ os, EqB w os) (c : ∀ os, EqC w os) (d : ∀ os, EqD w os) : HandSHeadRun.RunEqS R qv hk ob 20000 names w := fun os =>
  CP.run_pair_ (CP.run_fst (a os)) (CP.run_pair_ (CP.run_fst (b os)) (CP.run_pair_ (c os) (CP.run_pair_ (d os) (CP.run_pair_ (CP.run_snd (b os)) (CP.run_snd (a os))))))
theorem run (w : World) : HandSHeadRun.RunEqS R qv hk ob 20000 names w :=
  byRow2 "special-get-raises" (P := fun w => HandSHeadRun.RunEqS R qv hk ob 20000 names w) (fun w => run_of (eqA_f w) (eqB_f w) (eqC_f w) (eqD_f w)) (fun w => run_of (eqA_t w) (eqB_t w) (eqC_t w) (eqD_t w)) w
end CPR
/-! HSide -/
namespace CPR
open PySem PySem.W PySem.Calls PyProof.Rows
noncomputable abbrev dA : DefRec := HandSHeadRun.topDef R.prog 186
theorem side_e : opening R.prog = plainProg R.prog.main.scope.names := by kernel_rfl
theorem side_f (s : Shared) : fenceModules? R.prog s = some s := by kernel_rfl
theorem side_def : defOf qv R.name = some (dA, []) := by kernel_rfl
theorem side_p : R.prog.theDef R.name = some (dA.params, dA.body, dA.scope) := by kernel_rfl
theorem side_k : kwWritten? dA.params.kwonlyargs dA.params.kw_defaults = some [] := by kernel_rfl
theorem side_s1 : sreFenced R.prog.main = true := by kernel_rfl
theorem side_s2 : ((moduleNames R.prog.main.body).isEmpty || lookedIntoSs (moduleNames R.prog.main.body) R.prog.main.body) = true := by kernel_rfl
theorem side_s3 : namesResolve R.prog = true := by kernel_rfl
theorem side_s4 : R.prog.boundNames.all (fun n => !worldNames.contains n) = true := by kernel_rfl
theorem side_s5 : noRoadLSs { strict := !(importedModules R.prog.main.body).all cThrough.contains, foot := none, bare := (["vars", "dir", "locals"] : List PySem.Str).filter (readsOut R.prog R.prog.main.body) } R.prog.main.body = true := by kernel_rfl
theorem side_s6 : (namesMeet R.prog R.prog.main.body fun _ n => attrL n) = true := by kernel_rfl
theorem side_s7 : (R.prog.boundNames.contains R.name && !startupNames.contains R.name && specDef R.prog R.name R.args.length && R.args.all Codec.fits && R.ret.ok) = true := by kernel_rfl
theorem side_look : looksOpen R.prog = true := by
  unfold looksOpen
  rw [side_s1, side_s2, side_s3, side_s4, side_s5, side_s6]
  rfl
theorem side_well : R.wellSaid = true := by
  unfold OpenSpec.wellSaid
  rw [side_look, Bool.true_and]
  exact side_s7
theorem side_ok : (chainsOk qv && opensWell R.prog) = true := by decide +kernel
theorem side_tab : R.prog.tablesWhole = true := by kernel_rfl
theorem side_bare : R.prog.bare := ⟨rfl, rfl, rfl, rfl, rfl, side_tab⟩
theorem side_dfl : dA.params.defaults = [] := by kernel_rfl
theorem side_name : dA.name = ("answers" : PySem.Str) := by kernel_rfl
theorem side_w : ∃ args, R.pre args = true ∧ WData.layableAll args = true := ⟨[.list [.int 9]], by decide +kernel, by decide +kernel⟩
end CPR
/-! MathA -/
namespace CP
open Pu Machines

/-! ## the code, ranks -/
def zOf (h : Nat) : Option Nat := match h % 8 with
  | 0 => some 0 | 1 => some 1 | 2 => some 2 | 4 => some 3 | _ => none
def vTab : List (Nat × Nat) := [(0, 0), (1, 1), (2, 2), (4, 3), (8, 4), (16, 5), (32, 6), (64, 7), (128, 8), (256, 9), (130, 10), (132, 11), (136, 12), (144, 13), (160, 14), (192, 15)]
def rankM (h : Nat) : Nat := match zOf h, vTab.lookup (h / 8) with
  | some z, some v => 16 * z + v
  | _, _ => 64 + h
def rankBad (n : Nat) : Bool := (List.range n).all fun h => rankM h == rank h
theorem rank_all : rankBad 4096 = true := by decide +kernel
theorem rank_eq {h : Nat} (hh : h < 4096) : rankM h = rank h := by
  have := rank_all
  unfold rankBad at this
  rw [List.all_eq_true] at this
  have := this h (List.mem_range.mpr hh)
  exact eq_of_beq this

def codeM (n : Nat) : Nat :=
  let holes := if n / 16 > 0 then 2 ^ (n / 16 - 1) else 0
  if n % 16 > 9 then holes ||| 2 ^ (8 + 2) ||| 2 ^ (n % 16 - 8 + 2) else if n % 16 > 0 then holes ||| 2 ^ (n % 16 + 2) else holes
theorem code_all : ((List.range 64).all fun n => codeM n == code n) = true := by decide +kernel
theorem code_eq {n : Nat} (hn : n < 64) : codeM n = code n := by
  have := code_all
  rw [List.all_eq_true] at this
  exact eq_of_beq (this n (List.mem_range.mpr hn))
theorem code_lt_all : ((List.range 64).all fun n => decide (code n < 4096)) = true := by decide +kernel
theorem code_lt {n : Nat} (hn : n < 64) : code n < 4096 := by
  have := code_lt_all
  rw [List.all_eq_true] at this
  exact of_decide_eq_true (this n (List.mem_range.mpr hn))

theorem coded_some {h n : Nat} (e : coded h = some n) : code n = h ∧ n < 64 := by
  unfold coded at e
  have h1 := List.find?_some e
  have h2 := List.mem_of_find?_eq_some e
  exact ⟨eq_of_beq h1, List.mem_range.mp h2⟩
theorem rank_inj {a b : Nat} (e : rank a = rank b) : a = b := by
  unfold rank at e
  cases ha : coded a with
  | none =>
    cases hb : coded b with
    | none =>
      rw [ha, hb] at e
      simp only [Option.getD_none] at e
      omega
    | some m =>
      rw [ha, hb] at e
      simp only [Option.getD_none, Option.getD_some] at e
      have := (coded_some hb).2
      unfold NUMBERS at e
      omega
  | some n =>
    cases hb : coded b with
    | none =>
      rw [ha, hb] at e
      simp only [Option.getD_none, Option.getD_some] at e
      have := (coded_some ha).2
      unfold NUMBERS at e
      omega
    | some m =>
      rw [ha, hb] at e
      simp only [Option.getD_some] at e
      rw [← (coded_some ha).1, ← (coded_some hb).1, e]

/-! ## order by a field -/
theorem map_rank_inj : ∀ {l r : List Nat}, l.map rank = r.map rank → l = r
  | [], [], _ => rfl
  | [], _ :: _, h => by simp at h
  | _ :: _, [], h => by simp at h
  | a :: l, b :: r, h => by
    simp only [List.map_cons, List.cons.injEq] at h
    rw [rank_inj h.1, map_rank_inj h.2]
theorem key_beq {c e n : Nat} {x y : Card} : (keyBy e n y == keyBy c n x) = decide (fieldOf y e n = fieldOf x c n) := by
  by_cases h : fieldOf y e n = fieldOf x c n
  · have : keyBy e n y = keyBy c n x := by unfold keyBy; rw [h]
    rw [this, beq_self_eq_true, decide_eq_true h]
  · rw [decide_eq_false h]
    apply Bool.eq_false_iff.mpr
    intro q
    exact h (map_rank_inj (eq_of_beq q))

theorem order_self : ∀ l : List Nat, order l l = 0
  | [] => rfl
  | a :: l => by
    show (if a < a then -1 else if a < a then 1 else order l l) = 0
    rw [if_neg (Nat.lt_irrefl a), if_neg (Nat.lt_irrefl a), order_self l]
theorem order_pre : ∀ (p l r : List Nat), order (p ++ l) (p ++ r) = order l r
  | [], _, _ => rfl
  | a :: p, l, r => by
    show (if a < a then -1 else if a < a then 1 else order (p ++ l) (p ++ r)) = _
    rw [if_neg (Nat.lt_irrefl a), if_neg (Nat.lt_irrefl a), order_pre p l r]
theorem order_head {a b : Nat} {l r : List Nat} (h : a ≠ b) : (order (a :: l) (b :: r) == -1) = decide (a < b) := by
  show ((if a < b then -1 else if b < a then 1 else order l r) == -1) = _
  by_cases q : a < b
  · rw [if_pos q, decide_eq_true q]; rfl
  · rw [if_neg q, if_pos (by omega : b < a), decide_eq_false q]; rfl
theorem field_take {x : Card} {c n : Nat} (h : c + n ≤ x.length) : (fieldOf x c n).length = n := by
  unfold fieldOf
  rw [List.length_take, List.length_drop]
  omega
theorem field_get {x : Card} {c n k : Nat} (hk : k < n) : (fieldOf x c n)[k]? = x[c + k]? := by
  unfold fieldOf
  rw [List.getElem?_take_of_lt hk, List.getElem?_drop]
/-- columns alike up to k: the same front -/
theorem field_split {x : Card} {c n k : Nat} (hk : k < n) (h : c + n ≤ x.length) :
    fieldOf x c n = fieldOf x c k ++ x.getD (c + k) 0 :: fieldOf x (c + k + 1) (n - k - 1) := by
  apply List.ext_getElem?
  intro i
  by_cases h1 : i < k
  · rw [field_get (by omega), List.getElem?_append_left (by rw [field_take (by omega)]; exact h1), field_get h1]
  · rw [List.getElem?_append_right (by rw [field_take (by omega)]; omega), field_take (by omega)]
    by_cases h2 : i = k
    · subst h2
      rw [Nat.sub_self, List.getElem?_cons_zero, field_get hk, List.getD_eq_getElem?_getD, List.getElem?_eq_getElem (by omega)]
      rfl
    · obtain ⟨j, rfl⟩ : ∃ j, i = k + 1 + j := ⟨i - (k + 1), by omega⟩
      rw [show k + 1 + j - k = j + 1 by omega, List.getElem?_cons_succ]
      by_cases h3 : j < n - k - 1
      · rw [field_get (by omega), field_get h3]
        congr 1; omega
      · rw [List.getElem?_eq_none (by rw [field_take h]; omega), List.getElem?_eq_none (by rw [field_take (by omega)]; omega)]
theorem field_eq {x y : Card} {c e k : Nat} (hx : c + k ≤ x.length) (hy : e + k ≤ y.length) (h : ∀ j, j < k → x.getD (c + j) 0 = y.getD (e + j) 0) : fieldOf x c k = fieldOf y e k := by
  apply List.ext_getElem?
  intro i
  by_cases q : i < k
  · rw [field_get q, field_get q]
    have := h i q
    rw [List.getD_eq_getElem?_getD, List.getD_eq_getElem?_getD, List.getElem?_eq_getElem (by omega), List.getElem?_eq_getElem (by omega)] at this
    rw [List.getElem?_eq_getElem (by omega), List.getElem?_eq_getElem (by omega)]
    exact congrArg some this
  · rw [List.getElem?_eq_none (by rw [field_take hx]; omega), List.getElem?_eq_none (by rw [field_take hy]; omega)]
theorem before_at {x y : Card} {c e n k : Nat} (hk : k < n) (hx : c + n ≤ x.length) (hy : e + n ≤ y.length) (h : ∀ j, j < k → x.getD (c + j) 0 = y.getD (e + j) 0)
    (d : x.getD (c + k) 0 ≠ y.getD (e + k) 0) : comesBefore (keyBy c n x) (keyBy e n y) = decide (rank (x.getD (c + k) 0) < rank (y.getD (e + k) 0)) := by
  unfold comesBefore keyBy
  rw [field_split hk hx, field_split hk hy, field_eq (by omega) (by omega) h, List.map_append, List.map_append, order_pre, List.map_cons, List.map_cons]
  exact order_head fun q => d (rank_inj q)
theorem before_none {x y : Card} {c e n : Nat} (hx : c + n ≤ x.length) (hy : e + n ≤ y.length) (h : ∀ j, j < n → x.getD (c + j) 0 = y.getD (e + j) 0) :
    comesBefore (keyBy c n x) (keyBy e n y) = false := by
  unfold comesBefore keyBy
  rw [field_eq hx hy h, order_self]
  rfl

/-! ## out of sequence -/
theorem find_range_some {n p : Nat} {f : Nat → Bool} (hp : p < n) (h : f p = true) (hn : ∀ i, i < p → f i = false) : (List.range n).find? f = some p := by
  rw [List.find?_range_eq_some]
  refine ⟨h, List.mem_range.mpr hp, fun j hj => ?_⟩
  rw [hn j hj]; rfl
theorem find_range_none {n : Nat} {f : Nat → Bool} (hn : ∀ i, i < n → f i = false) : (List.range n).find? f = none := by
  rw [List.find?_eq_none]
  intro x hx
  rw [hn x (List.mem_range.mp hx)]
  exact Bool.false_ne_true
def bef (c n : Nat) (d : Deck) (i : Nat) : Bool := comesBefore (keyBy c n (d.getD i [])) (keyBy c n (d.getD (i - 1) []))
theorem outOf_some {c n p : Nat} {d : Deck} (h1 : 1 ≤ p) (hp : p < d.length) (h : bef c n d p = true) (hn : ∀ i, 1 ≤ i → i < p → bef c n d i = false) : outOf c n d = some p := by
  unfold outOf
  refine find_range_some hp ?_ fun i hi => ?_
  · rw [decide_eq_true h1]; exact h
  · by_cases q : 1 ≤ i
    · rw [decide_eq_true q]; exact hn i q hi
    · rw [decide_eq_false q]; rfl
theorem outOf_none {c n : Nat} {d : Deck} (hn : ∀ i, 1 ≤ i → i < d.length → bef c n d i = false) : outOf c n d = none := by
  unfold outOf
  refine find_range_none fun i hi => ?_
  by_cases q : 1 ≤ i
  · rw [decide_eq_true q]; exact hn i q hi
  · rw [decide_eq_false q]; rfl
end CP
/-! MathB -/
namespace CP
open Pu Machines

/-! ## a card read -/
def rcM : Int → Card → List Int → Option Card
  | _, y, [] => some y
  | _, _, [_] => none
  | last, y, a :: b :: l => if a ≤ last ∨ ¬ (0 ≤ a ∧ a < 80) ∨ b < 1 ∨ 4095 < b then none else rcM a (y.set a.toNat b.toNat) l
def pOk (x : Nat × Nat) : Bool := decide (x.1 < COLUMNS) && (decide (1 ≤ x.2) && decide (x.2 < HOLES))
def cardFrom (y : Card) (l : List Nat) : Option Card := (twos l).bind fun p => if (rising (p.map Prod.fst) && p.all pOk) = true then some (p.foldl (fun (y : Card) (x : Nat × Nat) => y.set x.1 x.2) y) else none
theorem cardOf_from (l : List Nat) : cardOf l = cardFrom blankCard l := rfl
theorem nats_nil : nats [] = some [] := rfl
theorem nats_cons_neg {a : Int} {l : List Int} (h : a < 0) : nats (a :: l) = none := by
  unfold nats
  rw [List.all_cons, decide_eq_false (by omega), Bool.false_and, if_neg Bool.false_ne_true]
theorem nats_cons_pos {a : Int} {l : List Int} (h : 0 ≤ a) : nats (a :: l) = (nats l).map (a.toNat :: ·) := by
  unfold nats
  rw [List.all_cons, decide_eq_true h, Bool.true_and]
  by_cases q : (l.all fun n => decide (0 ≤ n)) = true
  · rw [if_pos q, if_pos q]; rfl
  · rw [if_neg q, if_neg q]; rfl
theorem nats_some {l : List Int} {m : List Nat} (h : nats l = some m) : m = l.map Int.toNat ∧ ∀ x ∈ l, 0 ≤ x := by
  unfold nats at h
  split at h
  · rename_i q
    rw [List.all_eq_true] at q
    exact ⟨(Option.some.inj h).symm, fun x hx => of_decide_eq_true (q x hx)⟩
  · cases h
theorem nats_of {l : List Int} (h : ∀ x ∈ l, 0 ≤ x) : nats l = some (l.map Int.toNat) := by
  unfold nats
  rw [if_pos]
  rw [List.all_eq_true]
  intro x hx
  exact decide_eq_true (h x hx)
def firstOver (last : Int) (l : List Nat) : Bool := match l with
  | [] => true
  | a :: _ => decide (last < (a : Int))
/-- from any state: the numbers' rest, the first one above the last -/
theorem rc_from : ∀ (l : List Int) (last : Int) (y : Card), -1 ≤ last → rcM last y l = (nats l).bind fun m => if firstOver last m = true then cardFrom y m else none
  | [], last, y, _ => rfl
  | [a], last, y, hl => by
    show none = _
    by_cases h : 0 ≤ a
    · rw [nats_cons_pos h, nats_nil]
      show none = if firstOver last [a.toNat] = true then cardFrom y [a.toNat] else none
      by_cases q : firstOver last [a.toNat] = true
      · rw [if_pos q]; rfl
      · rw [if_neg q]
    · rw [nats_cons_neg (by omega)]; rfl
  | a :: b :: l, last, y, hl => by
    rw [rcM]
    by_cases ha : 0 ≤ a
    · by_cases hb : 0 ≤ b
      · rw [nats_cons_pos ha, nats_cons_pos hb]
        by_cases c : a ≤ last ∨ ¬ (0 ≤ a ∧ a < 80) ∨ b < 1 ∨ 4095 < b
        · rw [if_pos c]
          cases hn : nats l with
          | none => rfl
          | some m =>
            show none = if firstOver last (a.toNat :: b.toNat :: m) = true then cardFrom y (a.toNat :: b.toNat :: m) else none
            by_cases q : firstOver last (a.toNat :: b.toNat :: m) = true
            · rw [if_pos q]
              have q' : last < ((a.toNat : Nat) : Int) := of_decide_eq_true q
              have bad : pOk (a.toNat, b.toNat) = false := by
                apply Bool.eq_false_iff.mpr
                intro z
                unfold pOk COLUMNS HOLES at z
                rw [Bool.and_eq_true, Bool.and_eq_true] at z
                have z1 := of_decide_eq_true z.1
                have z2 := of_decide_eq_true z.2.1
                have z3 := of_decide_eq_true z.2.2
                simp only at z1 z2 z3
                omega
              unfold cardFrom
              show none = ((twos m).map fun r => (a.toNat, b.toNat) :: r).bind _
              cases twos m with
              | none => rfl
              | some p =>
                show none = if (rising (((a.toNat, b.toNat) :: p).map Prod.fst) && ((a.toNat, b.toNat) :: p).all pOk) = true then _ else none
                rw [List.all_cons, bad, Bool.false_and, Bool.and_false, if_neg Bool.false_ne_true]
            · rw [if_neg q]
        · rw [if_neg c, rc_from l a _ (by omega)]
          cases hn : nats l with
          | none => rfl
          | some m =>
            show (if firstOver a m = true then cardFrom (y.set a.toNat b.toNat) m else none) = if firstOver last (a.toNat :: b.toNat :: m) = true then cardFrom y (a.toNat :: b.toNat :: m) else none
            rw [if_pos (show firstOver last (a.toNat :: b.toNat :: m) = true from decide_eq_true (by omega))]
            have good : pOk (a.toNat, b.toNat) = true := by
              unfold pOk COLUMNS HOLES
              rw [Bool.and_eq_true, Bool.and_eq_true]
              refine ⟨decide_eq_true ?_, decide_eq_true ?_, decide_eq_true ?_⟩ <;> simp only <;> omega
            unfold cardFrom
            show _ = ((twos m).map fun r => (a.toNat, b.toNat) :: r).bind _
            cases ht : twos m with
            | none =>
              by_cases q : firstOver a m = true
              · rw [if_pos q]; rfl
              · rw [if_neg q]; rfl
            | some p =>
              show (if firstOver a m = true then (if (rising (p.map Prod.fst) && p.all pOk) = true then _ else none) else none) = if (rising (((a.toNat, b.toNat) :: p).map Prod.fst) && ((a.toNat, b.toNat) :: p).all pOk) = true then _ else none
              rw [List.all_cons, good, Bool.true_and]
              have hr : rising (((a.toNat, b.toNat) :: p).map Prod.fst) = (firstOver a m && rising (p.map Prod.fst)) := by
                cases m with
                | nil =>
                  have : p = [] := by
                    simp only [twos] at ht
                    exact (Option.some.inj ht).symm
                  subst this
                  rfl
                | cons u m =>
                  cases m with
                  | nil => simp [twos] at ht
                  | cons v m =>
                    simp only [twos] at ht
                    cases h5 : twos m with
                    | none => rw [h5] at ht; cases ht
                    | some p' =>
                      rw [h5] at ht
                      have : p = (u, v) :: p' := (Option.some.inj ht).symm
                      subst this
                      show (decide (a.toNat < u) && rising (u :: p'.map Prod.fst)) = (decide (a < (u : Int)) && rising (u :: p'.map Prod.fst))
                      congr 1
                      rw [decide_eq_decide]
                      omega
              rw [hr]
              by_cases q : firstOver a m = true
              · rw [if_pos q, q, Bool.true_and]; rfl
              · rw [if_neg q, Bool.eq_false_iff.mpr q, Bool.false_and, Bool.false_and, if_neg Bool.false_ne_true]
      · rw [nats_cons_pos ha, nats_cons_neg (by omega), if_pos (by omega)]; rfl
    · rw [nats_cons_neg (by omega), if_pos (by omega)]; rfl
theorem rc_is (l : List Int) : rcM (-1) blankCard l = cardOf_ l := by
  rw [rc_from l (-1) blankCard (by omega)]
  unfold cardOf_
  cases nats l with
  | none => rfl
  | some m =>
    show (if firstOver (-1) m = true then cardFrom blankCard m else none) = cardOf m
    rw [if_pos]
    · rfl
    · cases m with
      | nil => rfl
      | cons a m =>
        show decide ((-1 : Int) < (a : Int)) = true
        exact decide_eq_true (by omega)
theorem rc_odd : ∀ (l : List Int) (last : Int) (y : Card), l.length % 2 ≠ 0 → rcM last y l = none
  | [], _, _, h => by simp at h
  | [_], _, _, _ => rfl
  | a :: b :: l, last, y, h => by
    rw [rcM]
    split
    · rfl
    · apply rc_odd l
      simp only [List.length_cons] at h
      omega
theorem rc_ok : ∀ (l : List Int) (last : Int) (y x : Card), y.length = 80 → (∀ h ∈ y, h < 4096) → rcM last y l = some x → x.length = 80 ∧ ∀ h ∈ x, h < 4096
  | [], _, y, x, h1, h2, e => by
    simp only [rcM, Option.some.injEq] at e
    subst e
    exact ⟨h1, h2⟩
  | [_], _, _, _, _, _, e => by simp [rcM] at e
  | a :: b :: l, last, y, x, h1, h2, e => by
    rw [rcM] at e
    split at e
    · cases e
    · refine rc_ok l a _ x (by rw [List.length_set]; exact h1) ?_ e
      intro h hh
      rcases List.mem_or_eq_of_mem_set hh with q | q
      · exact h2 h q
      · omega
/-- a card as it should be -/
def COk (x : Card) : Prop := x.length = 80 ∧ ∀ h ∈ x, h < 4096
theorem blank_ok : COk blankCard := ⟨rfl, by decide⟩
theorem card_ok {l : List Int} {x : Card} (h : cardOf_ l = some x) : COk x := by
  rw [← rc_is] at h
  exact rc_ok l (-1) blankCard x blank_ok.1 blank_ok.2 h
theorem COk.get {x : Card} (h : COk x) (k : Nat) : x.getD k 0 < 4096 := by
  rw [List.getD_eq_getElem?_getD]
  by_cases q : k < x.length
  · rw [List.getElem?_eq_getElem q]
    exact h.2 _ (List.getElem_mem q)
  · rw [List.getElem?_eq_none (by omega)]
    exact Nat.zero_lt_succ _

/-! ## a deck read -/
def rdM : Nat → Nat → List Int → Option Deck
  | _, _, [] => some []
  | 0, _, _ :: _ => none
  | f + 1, k, n :: l => if n < 0 ∨ (l.length : Int) < 2 * n ∨ k = 1000 then none else (cardOf_ (l.take (2 * n.toNat))).bind fun x => (rdM f (k + 1) (l.drop (2 * n.toNat))).map (x :: ·)
theorem nats_take {l : List Int} {m : List Nat} {k : Nat} (h : nats l = some m) : nats (l.take k) = some (m.take k) := by
  obtain ⟨e, p⟩ := nats_some h
  rw [nats_of fun x hx => p x (List.mem_of_mem_take hx), e, List.map_take]
theorem nats_drop {l : List Int} {m : List Nat} {k : Nat} (h : nats l = some m) : nats (l.drop k) = some (m.drop k) := by
  obtain ⟨e, p⟩ := nats_some h
  rw [nats_of fun x hx => p x (List.mem_of_mem_drop hx), e, List.map_drop]
theorem nats_split {l : List Int} (k : Nat) (h : nats l = none) : nats (l.take k) = none ∨ nats (l.drop k) = none := by
  cases h1 : nats (l.take k) with
  | none => exact Or.inl rfl
  | some a =>
    cases h2 : nats (l.drop k) with
    | none => exact Or.inr rfl
    | some b =>
      have : nats l = some (l.map Int.toNat) := nats_of fun x hx => by
        rw [← List.take_append_drop k l] at hx
        rcases List.mem_append.mp hx with q | q
        · exact (nats_some h1).2 x q
        · exact (nats_some h2).2 x q
      rw [this] at h
      cases h
theorem rd_from : ∀ (f : Nat) (l : List Int) (k : Nat), k ≤ 1000 → rdM f k l = (nats l).bind fun m => (deckFrom f m).bind fun d => if k + d.length ≤ 1000 then some d else none
  | f, [], k, hk => by
    rw [nats_nil]
    show rdM f k [] = (deckFrom f []).bind _
    have e1 : rdM f k [] = some [] := by cases f <;> rfl
    have e2 : deckFrom f [] = some [] := by cases f <;> rfl
    rw [e1, e2]
    show some [] = if k + 0 ≤ 1000 then some [] else none
    rw [if_pos (by omega)]
  | 0, n :: l, k, _ => by
    show none = _
    cases h : nats (n :: l) with
    | none => rfl
    | some m =>
      obtain ⟨e, _⟩ := nats_some h
      rw [e]
      rfl
  | f + 1, n :: l, k, hk => by
    rw [rdM]
    by_cases hn : n < 0
    · rw [if_pos (Or.inl hn), nats_cons_neg hn]; rfl
    · rw [nats_cons_pos (by omega)]
      cases hm : nats l with
      | none =>
        show _ = none
        split
        · rfl
        · rcases nats_split (2 * n.toNat) hm with q | q
          · unfold cardOf_
            rw [q]
            rfl
          · by_cases hk' : k + 1 ≤ 1000
            · rw [rd_from f _ (k + 1) hk', q]
              cases cardOf_ (l.take (2 * n.toNat)) <;> rfl
            · rename_i c
              omega
      | some m =>
        have hlen : m.length = l.length := by rw [(nats_some hm).1, List.length_map]
        show _ = (deckFrom (f + 1) (n.toNat :: m)).bind _
        rw [deckFrom]
        by_cases c1 : (l.length : Int) < 2 * n
        · rw [if_pos (Or.inr (Or.inl c1)), if_pos (by omega)]; rfl
        · rw [if_neg (by omega : ¬ m.length < 2 * n.toNat)]
          have ec : cardOf_ (l.take (2 * n.toNat)) = cardOf (m.take (2 * n.toNat)) := by
            unfold cardOf_
            rw [nats_take hm]; rfl
          by_cases c2 : k = 1000
          · rw [if_pos (Or.inr (Or.inr c2))]
            cases cardOf (m.take (2 * n.toNat)) with
            | none => rfl
            | some x =>
              show none = ((deckFrom f (m.drop (2 * n.toNat))).map fun d => x :: d).bind _
              cases deckFrom f (m.drop (2 * n.toNat)) with
              | none => rfl
              | some d =>
                show none = if k + (d.length + 1) ≤ 1000 then some (x :: d) else none
                rw [if_neg (by omega)]
          · rw [if_neg (by omega), ec]
            cases cardOf (m.take (2 * n.toNat)) with
            | none => rfl
            | some x =>
              show (rdM f (k + 1) (l.drop (2 * n.toNat))).map (x :: ·) = ((deckFrom f (m.drop (2 * n.toNat))).map fun d => x :: d).bind _
              rw [rd_from f _ (k + 1) (by omega), nats_drop hm]
              show Option.map _ ((deckFrom f (m.drop (2 * n.toNat))).bind _) = _
              cases deckFrom f (m.drop (2 * n.toNat)) with
              | none => rfl
              | some d =>
                show Option.map (x :: ·) (if k + 1 + d.length ≤ 1000 then some d else none) = if k + (d.length + 1) ≤ 1000 then some (x :: d) else none
                by_cases q : k + 1 + d.length ≤ 1000
                · rw [if_pos q, if_pos (by omega)]; rfl
                · rw [if_neg q, if_neg (by omega)]; rfl
theorem rd_is (l : List Int) : rdM l.length 0 l = deckOf l := by
  rw [rd_from l.length l 0 (by omega)]
  unfold deckOf MOSTCARDS
  cases h : nats l with
  | none => rfl
  | some m =>
    have : l.length = m.length := by rw [(nats_some h).1, List.length_map]
    show (deckFrom l.length m).bind _ = (deckFrom m.length m).bind _
    rw [this]
    cases deckFrom m.length m with
    | none => rfl
    | some d =>
      show (if 0 + d.length ≤ 1000 then some d else none) = _
      rw [Nat.zero_add]
      rfl
/-- more fuel than numbers changes nothing -/
theorem rd_fuel : ∀ (f g : Nat) (l : List Int) (k : Nat), l.length ≤ f → l.length ≤ g → rdM f k l = rdM g k l
  | f, g, [], k, _, _ => by
    have e1 : ∀ f, rdM f k [] = some [] := fun f => by cases f <;> rfl
    rw [e1, e1]
  | 0, _, _ :: _, _, h, _ => by simp at h
  | _, 0, _ :: _, _, _, h => by simp at h
  | f + 1, g + 1, n :: l, k, hf, hg => by
    rw [rdM, rdM]
    split
    · rfl
    · congr 1
      funext x
      rw [rd_fuel f g]
      · rw [List.length_drop]; simp only [List.length_cons] at hf; omega
      · rw [List.length_drop]; simp only [List.length_cons] at hg; omega
/-- the rest of a deck, with as much fuel as it needs -/
def rdR (k : Nat) (l : List Int) : Option Deck := rdM l.length k l
theorem rdR_nil (k : Nat) : rdR k [] = some [] := rfl
theorem rdR_cons (k : Nat) (n : Int) (l : List Int) : rdR k (n :: l) = if n < 0 ∨ (l.length : Int) < 2 * n ∨ k = 1000 then none else (cardOf_ (l.take (2 * n.toNat))).bind fun x => (rdR (k + 1) (l.drop (2 * n.toNat))).map (x :: ·) := by
  show rdM (l.length + 1) k (n :: l) = _
  rw [rdM]
  split
  · rfl
  · congr 1
    funext x
    unfold rdR
    rw [rd_fuel l.length (l.drop (2 * n.toNat)).length]
    · rw [List.length_drop]; omega
    · exact Nat.le_refl _
def DOk (d : Deck) : Prop := ∀ x ∈ d, COk x
theorem rd_ok : ∀ (f : Nat) (l : List Int) (k : Nat) (d : Deck), rdM f k l = some d → DOk d ∧ d.length ≤ l.length
  | f, [], k, d, h => by
    have e1 : rdM f k [] = some [] := by cases f <;> rfl
    rw [e1] at h
    cases h
    exact ⟨fun x hx => (by cases hx), Nat.le_refl _⟩
  | 0, _ :: _, _, _, h => by simp [rdM] at h
  | f + 1, n :: l, k, d, h => by
    rw [rdM] at h
    split at h
    · cases h
    · cases hc : cardOf_ (l.take (2 * n.toNat)) with
      | none => rw [hc] at h; cases h
      | some x =>
        rw [hc] at h
        cases hr : rdM f (k + 1) (l.drop (2 * n.toNat)) with
        | none => simp only [Option.bind_some] at h; rw [hr] at h; cases h
        | some d' =>
          simp only [Option.bind_some] at h
          rw [hr] at h
          have : d = x :: d' := (Option.some.inj h).symm
          subst this
          obtain ⟨i1, i2⟩ := rd_ok f _ _ _ hr
          refine ⟨fun z hz => ?_, ?_⟩
          · rcases List.mem_cons.mp hz with q | q
            · rw [q]; exact card_ok hc
            · exact i1 z q
          · simp only [List.length_cons]
            rw [List.length_drop] at i2
            omega
theorem deck_ok {l : List Int} {d : Deck} (h : deckOf l = some d) : DOk d ∧ d.length ≤ l.length ∧ d.length ≤ 1000 := by
  have h' := h
  rw [← rd_is] at h'
  obtain ⟨a, b⟩ := rd_ok _ _ _ _ h'
  refine ⟨a, b, ?_⟩
  unfold deckOf MOSTCARDS at h
  cases hm : nats l with
  | none => rw [hm] at h; cases h
  | some m =>
    rw [hm] at h
    cases hd : deckFrom m.length m with
    | none => simp only [Option.bind_some] at h; rw [hd] at h; cases h
    | some d' =>
      simp only [Option.bind_some] at h
      rw [hd] at h
      simp only [Option.bind_some] at h
      split at h
      · cases h; assumption
      · cases h

/-! ## a card, a deck told -/
def toldTo (x : Card) (i : Nat) : List Nat := (List.range i).flatMap fun (c : Nat) => if x.getD c 0 = 0 then [] else [c, x.getD c 0]
theorem toldTo_all (x : Card) : toldTo x 80 = told x := rfl
theorem toldTo_succ (x : Card) (i : Nat) : toldTo x (i + 1) = toldTo x i ++ (if x.getD i 0 = 0 then [] else [i, x.getD i 0]) := by
  unfold toldTo
  rw [List.range_succ, List.flatMap_append]
  simp
theorem toldTo_len (x : Card) : ∀ i : Nat, (toldTo x i).length ≤ 2 * i
  | 0 => Nat.le_refl _
  | i + 1 => by
    rw [toldTo_succ, List.length_append]
    have := toldTo_len x i
    split <;> simp <;> omega
theorem told_len (x : Card) : (told x).length ≤ 160 := toldTo_len x 80
theorem deckNums_take {d : Deck} {i : Nat} {x : Card} (h : d[i]? = some x) : deckNums (d.take (i + 1)) = deckNums (d.take i) ++ ((((told x).length / 2 : Nat) : Int) :: Machines.ints (told x)) := by
  unfold deckNums
  rw [List.take_add_one, h, List.flatMap_append]
  simp
theorem deckNums_len (d : Deck) : (deckNums d).length ≤ 161 * d.length := by
  induction d with
  | nil => exact Nat.le_refl _
  | cons x d ih =>
    unfold deckNums at ih ⊢
    rw [List.flatMap_cons, List.length_append]
    have := told_len x
    unfold Machines.ints at *
    simp only [List.length_cons, List.length_map]
    omega

/-! ## the sorter -/
theorem perm_of_sub : ∀ {l s : List Int}, l.Nodup → (∀ x ∈ l, x ∈ s) → l.length = s.length → l.Perm s
  | [], s, _, _, hl => by
    have : s = [] := List.length_eq_zero_iff.mp (by simpa using hl.symm)
    rw [this]
  | a :: l, s, nd, hs, hl => by
    have ha : a ∈ s := hs a List.mem_cons_self
    have nd' := List.nodup_cons.mp nd
    have p := List.perm_cons_erase ha
    refine ((perm_of_sub nd'.2 (fun x hx => ?_) ?_).cons a).trans p.symm
    · have : x ∈ a :: s.erase a := p.mem_iff.mp (hs x (List.mem_cons_of_mem _ hx))
      rcases List.mem_cons.mp this with q | q
      · subst q; exact absurd hx nd'.1
      · exact q
    · have := p.length_eq
      simp only [List.length_cons] at this hl
      omega
def upTo13 : List Int := [0, 1, 2, 3, 4, 5, 6, 7, 8, 9, 10, 11, 12]
theorem sorted_unique : ∀ {l r : List Int}, l.Perm r → l.Pairwise (· ≤ ·) → r.Pairwise (· ≤ ·) → l = r
  | [], r, p, _, _ => (List.Perm.nil_eq p)
  | a :: l, [], p, _, _ => absurd p.length_eq (by simp)
  | a :: l, b :: r, p, h1, h2 => by
    obtain ⟨q1, q2⟩ := List.pairwise_cons.mp h1
    obtain ⟨q3, q4⟩ := List.pairwise_cons.mp h2
    have e : a = b := by
      have m1 : a ∈ b :: r := p.mem_iff.mp List.mem_cons_self
      have m2 : b ∈ a :: l := p.mem_iff.mpr List.mem_cons_self
      rcases List.mem_cons.mp m1 with z | z
      · exact z
      · rcases List.mem_cons.mp m2 with y | y
        · exact y.symm
        · have := q3 a z; have := q1 b y; omega
    subst e
    rw [sorted_unique ((List.perm_cons a).mp p) q2 q4]
theorem order_is {s t : List Int} (h13 : s.length = 13) (p : t.Perm s) (sr : t.Pairwise (· ≤ ·)) : decide (t = upTo13) = (nats s).any isStack := by
  by_cases e : t = upTo13
  · rw [decide_eq_true e]
    have hmem : ∀ x, x ∈ s ↔ x ∈ upTo13 := fun x => by rw [← e]; exact p.mem_iff.symm
    have hpos : ∀ x ∈ s, 0 ≤ x := fun x hx => by
      have := (hmem x).mp hx
      unfold upTo13 at this
      simp only [List.mem_cons, List.not_mem_nil, or_false] at this
      omega
    rw [nats_of hpos]
    show true = isStack (s.map Int.toNat)
    unfold isStack
    rw [List.length_map, h13, beq_self_eq_true, Bool.true_and]
    symm
    rw [List.all_eq_true]
    intro q hq
    rw [List.contains_iff_mem, List.mem_map]
    refine ⟨(q : Int), (hmem _).mpr ?_, by simp⟩
    have hq' := List.mem_range.mp hq
    unfold upTo13
    simp only [List.mem_cons, List.not_mem_nil, or_false]
    omega
  · rw [decide_eq_false e]
    symm
    apply Bool.eq_false_iff.mpr
    intro z
    apply e
    cases hn : nats s with
    | none => rw [hn] at z; cases z
    | some m =>
      rw [hn] at z
      have z' : isStack m = true := z
      unfold isStack at z'
      rw [Bool.and_eq_true, List.all_eq_true] at z'
      obtain ⟨em, hp⟩ := nats_some hn
      have : upTo13.Perm s := by
        refine perm_of_sub (by decide) (fun x hx => ?_) (by rw [h13]; rfl)
        have hx' : 0 ≤ x ∧ x < 13 := by
          unfold upTo13 at hx
          simp only [List.mem_cons, List.not_mem_nil, or_false] at hx
          omega
        have := z'.2 x.toNat (List.mem_range.mpr (by omega))
        rw [List.contains_iff_mem, em, List.mem_map] at this
        obtain ⟨y, hy, e⟩ := this
        have := hp y hy
        have : y = x := by omega
        rwa [← this]
      exact sorted_unique (p.trans this.symm) sr (by decide)
theorem stack_len {s : List Int} (h : (nats s).any isStack = true) : s.length = 13 := by
  cases hn : nats s with
  | none => rw [hn] at h; cases h
  | some m =>
    rw [hn] at h
    have z' : isStack m = true := h
    unfold isStack at z'
    rw [Bool.and_eq_true] at z'
    have := eq_of_beq z'.1
    rw [(nats_some hn).1, List.length_map] at this
    exact this
theorem stack_mem {s : List Int} (h : (nats s).any isStack = true) : ∀ x ∈ s, 0 ≤ x ∧ x < 13 := by
  have h13 := stack_len h
  cases hn : nats s with
  | none => rw [hn] at h; cases h
  | some m =>
    rw [hn] at h
    have z' : isStack m = true := h
    unfold isStack at z'
    rw [Bool.and_eq_true, List.all_eq_true] at z'
    obtain ⟨em, hp⟩ := nats_some hn
    have : upTo13.Perm s := by
      refine perm_of_sub (by decide) (fun x hx => ?_) (by rw [h13]; rfl)
      have hx' : 0 ≤ x ∧ x < 13 := by
        unfold upTo13 at hx
        simp only [List.mem_cons, List.not_mem_nil, or_false] at hx
        omega
      have := z'.2 x.toNat (List.mem_range.mpr (by omega))
      rw [List.contains_iff_mem, em, List.mem_map] at this
      obtain ⟨y, hy, e⟩ := this
      have := hp y hy
      have : y = x := by omega
      rwa [← this]
    intro x hx
    have := this.mem_iff.mpr hx
    unfold upTo13 at this
    simp only [List.mem_cons, List.not_mem_nil, or_false] at this
    omega
theorem pocket_is {h looked : Nat} (hh : h < 4096) : pocketOf looked h = if h &&& looked = 0 then 12 else Nat.log2 (h &&& looked) := by
  have hb : ∀ r, (looked.testBit r && h.testBit r) = (h &&& looked).testBit r := fun r => by
    rw [Nat.testBit_and, Bool.and_comm]
  have hlt : h &&& looked < 2 ^ 12 := Nat.lt_of_le_of_lt Nat.and_le_left hh
  unfold pocketOf ROWS
  by_cases e : h &&& looked = 0
  · rw [if_pos e]
    have : (List.range 12).reverse.find? (fun r => looked.testBit r && h.testBit r) = none := by
      rw [List.find?_eq_none]
      intro r _
      rw [hb, e, Nat.zero_testBit]
      exact Bool.false_ne_true
    rw [this]; rfl
  · rw [if_neg e]
    have hl : Nat.log2 (h &&& looked) < 12 := (Nat.log2_lt e).mpr hlt
    have : (List.range 12).reverse.find? (fun r => looked.testBit r && h.testBit r) = some (Nat.log2 (h &&& looked)) := by
      rw [List.find?_eq_some_iff_append]
      refine ⟨?_, ?_⟩
      · rw [hb]; exact Nat.testBit_log2 e
      · have hsplit : List.range 12 = List.range (Nat.log2 (h &&& looked)) ++ Nat.log2 (h &&& looked) :: List.range' (Nat.log2 (h &&& looked) + 1) (11 - Nat.log2 (h &&& looked)) := by
          rw [List.range_eq_range', List.range_eq_range', ← List.range'_succ]
          have := List.range'_append (s := 0) (m := Nat.log2 (h &&& looked)) (n := 12 - Nat.log2 (h &&& looked)) (step := 1)
          simp only [Nat.zero_add, Nat.one_mul] at this
          rw [show 11 - Nat.log2 (h &&& looked) + 1 = 12 - Nat.log2 (h &&& looked) by omega, this, show Nat.log2 (h &&& looked) + (12 - Nat.log2 (h &&& looked)) = 12 by omega]
        rw [hsplit]
        refine ⟨(List.range' (Nat.log2 (h &&& looked) + 1) (11 - Nat.log2 (h &&& looked))).reverse, (List.range (Nat.log2 (h &&& looked))).reverse, ?_, ?_⟩
        · rw [List.reverse_append, List.reverse_cons, List.append_assoc]; rfl
        · intro r hr
          rw [List.mem_reverse, List.mem_range'_1] at hr
          rw [hb, Nat.testBit_lt_two_pow]
          · rfl
          · exact Nat.lt_of_lt_of_le (Nat.lt_log2_self) (Nat.pow_le_pow_right (by omega) (by omega))
    rw [this]; rfl
theorem pocketOf_lt (h looked : Nat) : pocketOf looked h < 13 := by
  unfold pocketOf ROWS
  cases e : (List.range 12).reverse.find? (fun r => looked.testBit r && h.testBit r) with
  | none => decide
  | some r =>
    have := List.mem_of_find?_eq_some e
    rw [List.mem_reverse, List.mem_range] at this
    show r < 13
    omega
theorem pocket_take {c looked p i : Nat} {d : Deck} {x : Card} (h : d[i]? = some x) : pocket c looked (d.take (i + 1)) p = pocket c looked (d.take i) p ++ (if pocketOf looked (x.getD c 0) = p then [x] else []) := by
  unfold pocket
  rw [List.take_add_one, h, List.filter_append]
  congr 1
  show List.filter _ [x] = _
  rw [List.filter_cons]
  by_cases q : pocketOf looked (x.getD c 0) = p
  · rw [if_pos q, if_pos (by rw [q, beq_self_eq_true])]; rfl
  · rw [if_neg q, if_neg (by rw [beq_iff_eq]; exact q)]; rfl
theorem passed_take {c looked i q : Nat} {s : List Nat} {d : Deck} (h : s[i]? = some q) : passed c looked (s.take (i + 1)) d = passed c looked (s.take i) d ++ pocket c looked d q := by
  unfold passed
  rw [List.take_add_one, h, List.flatMap_append]
  simp
/-! ## the collator -/
theorem merged_cons (ka kb : Card → List Nat) (x y : Card) (a b : Deck) : merged ka kb (x :: a) (y :: b) = if comesBefore (kb y) (ka x) = true then y :: merged ka kb (x :: a) b else x :: merged ka kb a (y :: b) := by
  unfold merged
  rw [show (x :: a).length + (y :: b).length = ((x :: a).length + b.length) + 1 by simp only [List.length_cons]; omega, mergedF]
  congr 2
  rw [show (x :: a).length + b.length = a.length + (y :: b).length by simp only [List.length_cons]; omega]
theorem merged_nil_l (ka kb : Card → List Nat) (b : Deck) : merged ka kb [] b = b := by
  unfold merged
  cases h : ([] : Deck).length + b.length <;> simp [mergedF]
theorem merged_nil_r (ka kb : Card → List Nat) (a : Deck) : merged ka kb a [] = a := by
  unfold merged
  cases a with
  | nil => cases h : ([] : Deck).length + ([] : Deck).length <;> simp [mergedF]
  | cons x a => cases h : (x :: a).length + ([] : Deck).length <;> simp [mergedF]
theorem stands_is {c e n : Nat} {x : Card} {b : Deck} : standsIn (keyBy c n x) (keyBy e n) b = b.any fun y => decide (fieldOf y e n = fieldOf x c n) := by
  unfold standsIn
  congr 1
  funext y
  exact key_beq
end CP
/-! MathC -/
namespace CP
open Pu Machines

/-! ## numbers in tens below 256 -/
def isDig (c : UInt8) : Bool := decide (48 ≤ c.toNat) && decide (c.toNat ≤ 57)
theorem dec_tab : ((List.range 256).all fun n => (if n < 10 then dec n == [UInt8.ofNat (48 + n)] else dec n == dec (n / 10) ++ [UInt8.ofNat (48 + n % 10)]) && ((valueOf (dec n) == n) && ((dec n).all isDig && (decide ((dec n).length ≤ 3) && decide (1 ≤ (dec n).length))))) = true := by decide +kernel
theorem dec_tab' {n : Nat} (h : n < 256) : ((if n < 10 then dec n == [UInt8.ofNat (48 + n)] else dec n == dec (n / 10) ++ [UInt8.ofNat (48 + n % 10)]) && ((valueOf (dec n) == n) && ((dec n).all isDig && (decide ((dec n).length ≤ 3) && decide (1 ≤ (dec n).length))))) = true :=
  List.all_eq_true.mp dec_tab n (List.mem_range.mpr h)
theorem dec_small {n : Nat} (h : n < 10) : dec n = [UInt8.ofNat (48 + n)] := by
  have := dec_tab' (n := n) (by omega)
  rw [Bool.and_eq_true, if_pos h] at this
  exact eq_of_beq this.1
theorem dec_step {n : Nat} (h : n < 256) (h10 : 10 ≤ n) : dec n = dec (n / 10) ++ [UInt8.ofNat (48 + n % 10)] := by
  have := dec_tab' (n := n) (by omega)
  rw [Bool.and_eq_true, if_neg (by omega)] at this
  exact eq_of_beq this.1
theorem dec_val {n : Nat} (h : n < 256) : valueOf (dec n) = n := by
  have := dec_tab' h
  simp only [Bool.and_eq_true] at this
  exact eq_of_beq this.2.1
theorem dec_dig {n : Nat} (h : n < 256) : (dec n).all isDig = true := by
  have := dec_tab' h
  simp only [Bool.and_eq_true] at this
  exact this.2.2.1
theorem dec_len {n : Nat} (h : n < 256) : (dec n).length ≤ 3 ∧ 1 ≤ (dec n).length := by
  have := dec_tab' h
  simp only [Bool.and_eq_true] at this
  exact ⟨of_decide_eq_true this.2.2.2.1, of_decide_eq_true this.2.2.2.2⟩
theorem dec_inj {n m : Nat} (hn : n < 256) (hm : m < 256) (h : dec n = dec m) : n = m := by
  rw [← dec_val hn, ← dec_val hm, h]

/-- further figures of a number n so far: the number, how many -/
def goNum (most : Nat) : Nat → Bytes → Nat × Nat
  | n, [] => (n, 0)
  | n, c :: b => if 0 < n ∧ isDig c = true ∧ 10 * n + (c.toNat - 48) ≤ most then ((goNum most (10 * n + (c.toNat - 48)) b).1, (goNum most (10 * n + (c.toNat - 48)) b).2 + 1) else (n, 0)
/-- the number that a text begins with, greedily; how many figures (0: none) -/
def takeN (most : Nat) : Bytes → Nat × Nat
  | [] => (0, 0)
  | c :: b => if isDig c = true then ((goNum most (c.toNat - 48) b).1, (goNum most (c.toNat - 48) b).2 + 1) else (0, 0)
theorem isDig_iff {c : UInt8} : isDig c = true ↔ 48 ≤ c.toNat ∧ c.toNat ≤ 57 := by
  unfold isDig
  rw [Bool.and_eq_true, decide_eq_true_eq, decide_eq_true_eq]
theorem ofNat_dig {c : UInt8} (h : isDig c = true) : UInt8.ofNat (48 + (c.toNat - 48)) = c := by
  have := isDig_iff.mp h
  rw [show 48 + (c.toNat - 48) = c.toNat by omega, UInt8.ofNat_toNat]
theorem dig_ofNat {d : Nat} (h : d < 10) : isDig (UInt8.ofNat (48 + d)) = true ∧ (UInt8.ofNat (48 + d)).toNat = 48 + d := by
  have : (UInt8.ofNat (48 + d)).toNat = 48 + d := by
    rw [UInt8.toNat_ofNat']
    omega
  exact ⟨isDig_iff.mpr (by omega), this⟩
theorem goNum_le (most : Nat) : ∀ (b : Bytes) (n : Nat), (goNum most n b).2 ≤ b.length
  | [], n => Nat.le_refl _
  | c :: b, n => by
    rw [goNum]
    split
    · have := goNum_le most b (10 * n + (c.toNat - 48))
      simp only [List.length_cons]; omega
    · exact Nat.zero_le _
theorem takeN_le (most : Nat) (b : Bytes) : (takeN most b).2 ≤ b.length := by
  cases b with
  | nil => exact Nat.le_refl _
  | cons c b =>
    rw [takeN]
    split
    · have := goNum_le most b (c.toNat - 48)
      simp only [List.length_cons]; omega
    · exact Nat.zero_le _
/-- what's taken, and each beginning of it behind n, is a number of most at most -/
theorem goNum_dec {most : Nat} (hm : most < 256) : ∀ (b : Bytes) (n : Nat), n ≤ most →
    (goNum most n b).1 ≤ most ∧ dec n ++ b.take (goNum most n b).2 = dec (goNum most n b).1 ∧ ∀ j, j ≤ (goNum most n b).2 → ∃ v, v ≤ most ∧ dec n ++ b.take j = dec v
  | [], n, hn => ⟨hn, by rw [List.take_nil, List.append_nil]; rfl, fun j _ => ⟨n, hn, by rw [List.take_nil, List.append_nil]⟩⟩
  | c :: b, n, hn => by
    rw [goNum]
    by_cases q : 0 < n ∧ isDig c = true ∧ 10 * n + (c.toNat - 48) ≤ most
    · rw [if_pos q]
      have hc := isDig_iff.mp q.2.1
      have e : dec n ++ [c] = dec (10 * n + (c.toNat - 48)) := by
        rw [dec_step (n := 10 * n + (c.toNat - 48)) (by omega) (by omega), show (10 * n + (c.toNat - 48)) / 10 = n by omega, show (10 * n + (c.toNat - 48)) % 10 = c.toNat - 48 by omega, ofNat_dig q.2.1]
      obtain ⟨i1, i2, i3⟩ := goNum_dec hm b (10 * n + (c.toNat - 48)) q.2.2
      refine ⟨i1, ?_, fun j hj => ?_⟩
      · simp only [List.take_succ_cons]
        rw [← i2, ← e, List.append_assoc]; rfl
      · cases j with
        | zero => exact ⟨n, hn, by rw [List.take_zero, List.append_nil]⟩
        | succ j =>
          obtain ⟨v, hv, ev⟩ := i3 j (by simp only at hj; omega)
          refine ⟨v, hv, ?_⟩
          rw [← ev, ← e, List.take_succ_cons, List.append_assoc]; rfl
    · rw [if_neg q]
      refine ⟨hn, by simp, fun j hj => ⟨n, hn, ?_⟩⟩
      have : j = 0 := Nat.le_zero.mp hj
      rw [this, List.take_zero, List.append_nil]
theorem takeN_dec {most : Nat} (hm : most < 256) (h9 : 9 ≤ most) (b : Bytes) :
    ((takeN most b).2 ≠ 0 → (takeN most b).1 ≤ most ∧ b.take (takeN most b).2 = dec (takeN most b).1) ∧ ∀ j, 1 ≤ j → j ≤ (takeN most b).2 → ∃ v, v ≤ most ∧ b.take j = dec v := by
  cases b with
  | nil => exact ⟨fun h => absurd rfl h, fun j h1 h2 => (by simp only [takeN] at h2; omega)⟩
  | cons c b =>
    rw [takeN]
    by_cases q : isDig c = true
    · rw [if_pos q]
      have hc := isDig_iff.mp q
      have e : dec (c.toNat - 48) = [c] := by rw [dec_small (by omega), ofNat_dig q]
      obtain ⟨i1, i2, i3⟩ := goNum_dec hm b (c.toNat - 48) (by omega)
      refine ⟨fun _ => ⟨i1, ?_⟩, fun j h1 h2 => ?_⟩
      · simp only [List.take_succ_cons]
        rw [← i2, e]; rfl
      · obtain ⟨j, rfl⟩ : ∃ k, j = k + 1 := ⟨j - 1, by omega⟩
        obtain ⟨v, hv, ev⟩ := i3 j (by simp only at h2; omega)
        exact ⟨v, hv, by rw [← ev, e]; rfl⟩
    · rw [if_neg q]
      exact ⟨fun h => absurd rfl h, fun j h1 h2 => (by simp only at h2; omega)⟩
/-- a number that a text begins with is gone through by the greedy way -/
theorem takeN_of {most : Nat} (hm : most < 256) : ∀ (k n : Nat), n ≤ k → n ≤ most → ∀ r : Bytes, takeN most (dec n ++ r) = ((goNum most n r).1, (dec n).length + (goNum most n r).2)
  | k, n, hk, hn, r => by
    by_cases h10 : n < 10
    · rw [dec_small h10]
      obtain ⟨d1, d2⟩ := dig_ofNat h10
      show (if isDig (UInt8.ofNat (48 + n)) = true then ((goNum most ((UInt8.ofNat (48 + n)).toNat - 48) r).1, (goNum most ((UInt8.ofNat (48 + n)).toNat - 48) r).2 + 1) else (0, 0)) = _
      rw [if_pos d1, d2, show 48 + n - 48 = n by omega]
      show _ = ((goNum most n r).1, 1 + (goNum most n r).2)
      rw [Nat.add_comm 1]
    · obtain ⟨k, rfl⟩ : ∃ j, k = j + 1 := ⟨k - 1, by omega⟩
      obtain ⟨d1, d2⟩ := dig_ofNat (d := n % 10) (by omega)
      rw [dec_step (by omega) (by omega), List.append_assoc, takeN_of hm k (n / 10) (by omega) (by omega)]
      have : goNum most (n / 10) ([UInt8.ofNat (48 + n % 10)] ++ r) = ((goNum most n r).1, (goNum most n r).2 + 1) := by
        show goNum most (n / 10) (UInt8.ofNat (48 + n % 10) :: r) = _
        rw [goNum, d2, show 10 * (n / 10) + (48 + n % 10 - 48) = n by omega, if_pos ⟨by omega, d1, hn⟩]
      rw [this]
      simp only [List.length_append, List.length_cons, List.length_nil]
      congr 1
      omega
theorem takeN_ge {most n : Nat} (hm : most < 256) (hn : n ≤ most) {b : Bytes} {j : Nat} (h : b.take j = dec n) : j ≤ (takeN most b).2 ∨ b.length < j := by
  by_cases q : b.length < j
  · exact Or.inr q
  · left
    have hl : (dec n).length = j := by rw [← h, List.length_take]; omega
    rw [← List.take_append_drop j b, h, takeN_of hm n n (Nat.le_refl _) hn]
    simp only
    omega
theorem takeN_len3 {most : Nat} (hm : most < 256) (h9 : 9 ≤ most) (b : Bytes) : (takeN most b).2 ≤ 3 := by
  by_cases q : (takeN most b).2 = 0
  · omega
  · obtain ⟨h1, h2⟩ := (takeN_dec hm h9 b).1 q
    have := congrArg List.length h2
    rw [List.length_take] at this
    have h3 := (dec_len (n := (takeN most b).1) (by omega)).1
    have h4 := takeN_le most b
    omega
/-- which beginnings are numbers -/
theorem num_iff {most : Nat} (hm : most < 256) (h9 : 9 ≤ most) {b : Bytes} {j : Nat} (h1 : 1 ≤ j) (hj : j ≤ b.length) : (∃ v, v ≤ most ∧ b.take j = dec v) ↔ j ≤ (takeN most b).2 := by
  constructor
  · rintro ⟨v, hv, e⟩
    rcases takeN_ge hm hv e with q | q
    · exact q
    · omega
  · intro h
    exact (takeN_dec hm h9 b).2 j h1 h
theorem takeN_take {most : Nat} (hm : most < 256) (h9 : 9 ≤ most) (b : Bytes) (k : Nat) : (takeN most (b.take k)).2 = min k (takeN most b).2 := by
  apply Nat.le_antisymm
  · apply Nat.le_min.mpr
    have h0 := takeN_le most (b.take k)
    rw [List.length_take] at h0
    refine ⟨by omega, ?_⟩
    by_cases q : (takeN most (b.take k)).2 = 0
    · omega
    · have h1 := (num_iff hm h9 (b := b.take k) (j := (takeN most (b.take k)).2) (by omega) (takeN_le _ _)).mpr (Nat.le_refl _)
      rw [List.take_take, Nat.min_eq_left (by omega)] at h1
      exact (num_iff hm h9 (by omega) (by omega)).mp h1
  · by_cases q : min k (takeN most b).2 = 0
    · omega
    · have h0 := takeN_le most b
      have h1 := (num_iff hm h9 (b := b) (j := min k (takeN most b).2) (by omega) (by omega)).mpr (Nat.min_le_right _ _)
      have := (num_iff hm h9 (b := b.take k) (j := min k (takeN most b).2) (by omega) (by rw [List.length_take]; omega)).mp
        (by rw [List.take_take, Nat.min_eq_left (Nat.min_le_left _ _)]; exact h1)
      exact this
theorem isDig_at {most : Nat} (hm : most < 256) (h9 : 9 ≤ most) (b : Bytes) {i : Nat} (h : i < (takeN most b).2) : ∃ c, b[i]? = some c ∧ isDig c = true := by
  obtain ⟨h1, h2⟩ := (takeN_dec hm h9 b).1 (by omega)
  have hd := dec_dig (n := (takeN most b).1) (by omega)
  rw [← h2, List.all_eq_true] at hd
  have hl := takeN_le most b
  refine ⟨b[i], List.getElem?_eq_getElem _, hd _ ?_⟩
  rw [List.mem_take_iff_getElem]
  exact ⟨i, by omega, rfl⟩
/-! ## the spec's own words for numbers -/
theorem fold_val (d : Bytes) : d.foldl (fun (a : Nat) (c : UInt8) => 10 * a + (c.toNat - 48)) 0 = valueOf d := rfl
theorem numbersIn_mem {most : Nat} (hm : most < 256) (h9 : 9 ≤ most) (b r : Bytes) : r ∈ numbersIn 0 most b ↔ ∃ j, 1 ≤ j ∧ j ≤ (takeN most b).2 ∧ r = b.drop j := by
  unfold numbersIn
  rw [List.mem_filterMap]
  constructor
  · rintro ⟨i, hi, e⟩
    rw [List.mem_range] at hi
    simp only at e
    split at e
    · rename_i q
      refine ⟨i + 1, by omega, ?_, (Option.some.inj e).symm⟩
      exact (num_iff hm h9 (by omega) (by omega)).mp ⟨valueOf (b.take (i + 1)), q.2.2.2, q.2.1.symm⟩
    · cases e
  · rintro ⟨j, h1, h2, e⟩
    have hl := takeN_le most b
    have h3 := takeN_len3 hm h9 b
    obtain ⟨v, hv, ev⟩ := (num_iff hm h9 h1 (by omega)).mpr h2
    obtain ⟨i, rfl⟩ : ∃ i, j = i + 1 := ⟨j - 1, by omega⟩
    refine ⟨i, List.mem_range.mpr (by omega), ?_⟩
    refine (if_pos ?_).trans (congrArg some e.symm)
    show (b.take (i + 1)).all isDig = true ∧ dec (valueOf (b.take (i + 1))) = b.take (i + 1) ∧ 0 ≤ valueOf (b.take (i + 1)) ∧ valueOf (b.take (i + 1)) ≤ most
    rw [ev, dec_val (by omega)]
    exact ⟨dec_dig (by omega), rfl, Nat.zero_le _, hv⟩
theorem dec_prefix {v : Nat} (hv : v < 256) : ∀ {b : Bytes}, b ≠ [] → b <+: dec v → ∃ u, u ≤ v ∧ b = dec u := by
  intro b hb hp
  obtain ⟨t, ht⟩ := hp
  have h1 : 1 ≤ b.length := by
    cases b with
    | nil => exact absurd rfl hb
    | cons c b => simp
  have e := takeN_of (most := v) hv v v (Nat.le_refl _) (Nat.le_refl _) []
  rw [List.append_nil] at e
  by_cases h9 : 9 ≤ v
  · have hn := (num_iff (most := v) hv h9 (b := dec v) (j := b.length) h1 (by rw [← ht]; simp)).mpr (by
      rw [e]
      show b.length ≤ (dec v).length + 0
      rw [← ht]; simp)
    obtain ⟨u, hu, eu⟩ := hn
    refine ⟨u, hu, ?_⟩
    rw [← eu, ← ht, List.take_left]
  · have hs := dec_small (n := v) (by omega)
    have hl := congrArg List.length ht
    rw [hs] at hl
    simp only [List.length_append, List.length_cons, List.length_nil] at hl
    have : t = [] := List.length_eq_zero_iff.mp (by omega)
    rw [this, List.append_nil] at ht
    exact ⟨v, Nat.le_refl _, ht⟩
theorem numberBegins_iff {most : Nat} (hm : most < 256) (h9 : 9 ≤ most) (b : Bytes) : numberBegins 0 most b = true ↔ b = [] ∨ (takeN most b).2 = b.length := by
  unfold numberBegins
  rw [Bool.or_eq_true, Bool.and_eq_true, List.any_eq_true]
  constructor
  · rintro (h | ⟨_, n, hn, q⟩)
    · left; exact eq_of_beq h
    · by_cases hb : b = []
      · exact Or.inl hb
      · right
        rw [List.mem_range] at hn
        rw [Bool.and_eq_true, List.isPrefixOf_iff_prefix] at q
        obtain ⟨u, hu, eu⟩ := dec_prefix (v := n) (by omega) hb q.2
        have := takeN_of hm u u (Nat.le_refl _) (by omega) []
        rw [List.append_nil] at this
        rw [eu, this]
        show (dec u).length + 0 = _
        omega
  · rintro (h | h)
    · left; rw [h]; rfl
    · by_cases hb : b = []
      · left; rw [hb]; rfl
      · right
        have h1 : 1 ≤ b.length := by
          cases b with
          | nil => exact absurd rfl hb
          | cons c b => simp
        have h3 := takeN_len3 hm h9 b
        refine ⟨decide_eq_true (by omega), ?_⟩
        obtain ⟨v, hv, ev⟩ := (num_iff hm h9 h1 (Nat.le_refl _)).mpr (Nat.le_of_eq h.symm)
        rw [List.take_length] at ev
        refine ⟨v, List.mem_range.mpr (by omega), ?_⟩
        rw [Bool.and_eq_true, List.isPrefixOf_iff_prefix, ev]
        exact ⟨decide_eq_true (Nat.zero_le _), List.prefix_rfl⟩
end CP
/-! MathD -/
namespace CP
open Pu Machines

/-! ## beginnings that two texts share -/
def cpl : Bytes → Bytes → Nat
  | a :: w, c :: b => if a = c then cpl w b + 1 else 0
  | _, _ => 0
theorem cpl_nil_l (b : Bytes) : cpl [] b = 0 := by cases b <;> rfl
theorem cpl_nil_r (w : Bytes) : cpl w [] = 0 := by cases w <;> rfl
theorem cpl_le_l : ∀ w b : Bytes, cpl w b ≤ w.length
  | [], b => by rw [cpl_nil_l]; exact Nat.zero_le _
  | _ :: _, [] => Nat.zero_le _
  | a :: w, c :: b => by
    rw [cpl]
    split
    · have := cpl_le_l w b; simp only [List.length_cons]; omega
    · exact Nat.zero_le _
theorem cpl_le_r : ∀ w b : Bytes, cpl w b ≤ b.length
  | [], b => by rw [cpl_nil_l]; exact Nat.zero_le _
  | _ :: _, [] => Nat.zero_le _
  | a :: w, c :: b => by
    rw [cpl]
    split
    · have := cpl_le_r w b; simp only [List.length_cons]; omega
    · exact Nat.zero_le _
theorem take_prefix_iff : ∀ (w b : Bytes) (k : Nat), k ≤ b.length → (b.take k <+: w ↔ k ≤ cpl w b)
  | w, b, 0, _ => by simp
  | w, [], k + 1, h => by simp at h
  | [], c :: b, k + 1, _ => by simp [cpl]
  | a :: w, c :: b, k + 1, h => by
    rw [List.take_succ_cons, cpl]
    by_cases q : a = c
    · subst q
      rw [if_pos rfl, List.cons_prefix_cons]
      have := take_prefix_iff w b k (by simpa using h)
      constructor
      · rintro ⟨_, z⟩; have := this.mp z; omega
      · intro z; exact ⟨rfl, this.mpr (by omega)⟩
    · rw [if_neg q, List.cons_prefix_cons]
      constructor
      · rintro ⟨z, _⟩; exact absurd z.symm q
      · intro z; omega
theorem prefix_cpl : ∀ (w b : Bytes), w <+: b ↔ cpl w b = w.length
  | [], b => by simp [cpl_nil_l]
  | a :: w, [] => by simp [cpl]
  | a :: w, c :: b => by
    rw [cpl, List.cons_prefix_cons]
    by_cases q : a = c
    · rw [if_pos q]
      have := prefix_cpl w b
      constructor
      · rintro ⟨_, z⟩; rw [this.mp z]; rfl
      · intro z; exact ⟨q, this.mpr (by simpa using z)⟩
    · rw [if_neg q]
      constructor
      · rintro ⟨z, _⟩; exact absurd z q
      · intro z; simp at z
theorem pre_iff {w b : Bytes} : w.isPrefixOf b = true ↔ w <+: b := List.isPrefixOf_iff_prefix
theorem drop_take (b : Bytes) (k n : Nat) : (b.take k).drop n = (b.drop n).take (k - n) := by rw [List.drop_take]

/-! ## a form gone through from the left -/
def scanF : List Part → Bytes → Nat × Bool
  | [], _ => (0, true)
  | .word w :: l, b => if w.isPrefixOf b = true then (w.length + (scanF l (b.drop w.length)).1, (scanF l (b.drop w.length)).2) else (cpl w b, false)
  | .num _ most :: l, b => if (takeN most b).2 = 0 then (0, false) else ((takeN most b).2 + (scanF l (b.drop (takeN most b).2)).1, (scanF l (b.drop (takeN most b).2)).2)
  | .tray :: _, _ => (0, false)
def headNon : List Part → Bool
  | .word (c :: _) :: _ => !isDig c
  | _ => false
def okF : List Part → Bool
  | [] => true
  | .word _ :: l => okF l
  | .num least most :: l => (least == 0) && (decide (9 ≤ most) && (decide (most < 256) && (headNon l && okF l)))
  | .tray :: _ => false
theorem head_begins {l : List Part} (h : headNon l = true) {c : UInt8} (hc : isDig c = true) (b : Bytes) : beginsBy l (c :: b) = false ∧ isBy l (c :: b) = false := by
  match l, h with
  | .word (d :: w) :: l, h =>
    have hd : isDig d = false := by
      unfold headNon at h
      exact Bool.not_eq_true' _ ▸ h
    have ne : d ≠ c := fun e => by rw [e, hc] at hd; cases hd
    have e1 : (d :: w).isPrefixOf (c :: b) = false := by
      apply Bool.eq_false_iff.mpr
      intro z
      have := pre_iff.mp z
      rw [List.cons_prefix_cons] at this
      exact ne this.1
    have e2 : (c :: b).isPrefixOf (d :: w) = false := by
      apply Bool.eq_false_iff.mpr
      intro z
      have := pre_iff.mp z
      rw [List.cons_prefix_cons] at this
      exact ne this.1.symm
    constructor
    · show ((c :: b).isPrefixOf (d :: w) || (if (d :: w).isPrefixOf (c :: b) = true then [(c :: b).drop (d :: w).length] else []).any fun r => beginsBy l r) = false
      rw [e1, e2]; rfl
    · show ((if (d :: w).isPrefixOf (c :: b) = true then [(c :: b).drop (d :: w).length] else []).any fun r => isBy l r) = false
      rw [e1]; rfl
theorem drop_cons {b : Bytes} {i : Nat} {c : UInt8} (h : b[i]? = some c) : b.drop i = c :: b.drop (i + 1) := by
  have hi : i < b.length := by
    apply Classical.byContradiction
    intro q
    rw [List.getElem?_eq_none (by omega)] at h
    cases h
  rw [List.drop_eq_getElem_cons hi]
  rw [List.getElem?_eq_getElem hi] at h
  rw [Option.some.inj h]
theorem begins_iff : ∀ (f : List Part), okF f = true → ∀ (b : Bytes) (k : Nat), k ≤ b.length → (beginsBy f (b.take k) = true ↔ k ≤ (scanF f b).1)
  | [], _, b, k, hk => by
    show (b.take k == []) = true ↔ k ≤ 0
    rw [beq_iff_eq, List.take_eq_nil_iff]
    constructor
    · rintro (h | h)
      · omega
      · rw [h] at hk; exact hk
    · intro h; left; omega
  | .word w :: l, ok, b, k, hk => by
    have ih := begins_iff l ok
    show ((b.take k).isPrefixOf w || (if w.isPrefixOf (b.take k) = true then [(b.take k).drop w.length] else []).any fun r => beginsBy l r) = true ↔ _
    rw [scanF]
    by_cases hw : w.isPrefixOf b = true
    · rw [if_pos hw]
      have hp := pre_iff.mp hw
      have hc := (prefix_cpl w b).mp hp
      have hl : w.length ≤ b.length := hp.length_le
      by_cases q : k ≤ w.length
      · have : (b.take k).isPrefixOf w = true := pre_iff.mpr ((take_prefix_iff w b k hk).mpr (by omega))
        rw [this]
        simp only [Bool.true_or, true_iff]
        omega
      · have e1 : (b.take k).isPrefixOf w = false := by
          apply Bool.eq_false_iff.mpr
          intro z
          have := (take_prefix_iff w b k hk).mp (pre_iff.mp z)
          omega
        have e2 : w.isPrefixOf (b.take k) = true := by
          apply pre_iff.mpr
          obtain ⟨t, rfl⟩ := hp
          rw [List.take_append, List.take_of_length_le (by omega)]
          exact List.prefix_append _ _
        rw [e1, e2, if_pos rfl, List.any_cons, List.any_nil, Bool.or_false, Bool.false_or, drop_take]
        have := ih (b.drop w.length) (k - w.length) (by rw [List.length_drop]; omega)
        rw [this]
        simp only
        omega
    · rw [if_neg hw]
      have e2 : ¬ w.isPrefixOf (b.take k) = true := fun z => hw (pre_iff.mpr ((pre_iff.mp z).trans (List.take_prefix k b)))
      rw [if_neg e2, List.any_nil, Bool.or_false, pre_iff]
      exact take_prefix_iff w b k hk
  | .num least most :: l, ok, b, k, hk => by
    unfold okF at ok
    simp only [Bool.and_eq_true, beq_iff_eq, decide_eq_true_eq] at ok
    obtain ⟨rfl, h9, hm, hn, okl⟩ := ok
    have ih := begins_iff l okl
    show (numberBegins 0 most (b.take k) || (numbersIn 0 most (b.take k)).any fun r => beginsBy l r) = true ↔ _
    rw [Bool.or_eq_true, numberBegins_iff hm h9, takeN_take hm h9, List.length_take, Nat.min_eq_left hk, scanF]
    by_cases h0 : k = 0
    · subst h0; simp
    have hne : ¬ b.take k = [] := by
      rw [List.take_eq_nil_iff]
      rintro (h | h)
      · exact h0 h
      · rw [h] at hk; simp at hk; exact h0 hk
    by_cases hL : (takeN most b).2 = 0
    · rw [if_pos hL]
      have : (numbersIn 0 most (b.take k)) = [] := by
        apply List.eq_nil_iff_forall_not_mem.mpr
        intro r hr
        obtain ⟨j, j1, j2, _⟩ := (numbersIn_mem hm h9 _ _).mp hr
        rw [takeN_take hm h9] at j2
        omega
      rw [this, List.any_nil, hL]
      constructor
      · rintro ((h | h) | h)
        · exact absurd h hne
        · omega
        · cases h
      · intro h; exfalso; simp only at h; omega
    · rw [if_neg hL]
      have hLl := takeN_le most b
      by_cases q : k ≤ (takeN most b).2
      · constructor
        · intro _; simp only; omega
        · intro _; left; right; omega
      · have e : ((numbersIn 0 most (b.take k)).any fun r => beginsBy l r) = true ↔ beginsBy l ((b.take k).drop (takeN most b).2) = true := by
          rw [List.any_eq_true]
          constructor
          · rintro ⟨r, hr, hb⟩
            obtain ⟨j, j1, j2, rfl⟩ := (numbersIn_mem hm h9 _ _).mp hr
            rw [takeN_take hm h9] at j2
            by_cases hj : j = (takeN most b).2
            · rw [← hj]; exact hb
            · obtain ⟨c, hc, hd⟩ := isDig_at hm h9 b (i := j) (by omega)
              have : (b.take k)[j]? = some c := by rw [List.getElem?_take_of_lt (by omega)]; exact hc
              rw [drop_cons this] at hb
              rw [(head_begins hn hd _).1] at hb
              cases hb
          · intro h
            refine ⟨_, (numbersIn_mem hm h9 _ _).mpr ⟨(takeN most b).2, by omega, ?_, rfl⟩, h⟩
            rw [takeN_take hm h9]; omega
        rw [e, drop_take]
        have := ih (b.drop (takeN most b).2) (k - (takeN most b).2) (by rw [List.length_drop]; omega)
        rw [this]
        simp only
        constructor
        · rintro ((h | h) | h)
          · exact absurd h hne
          · omega
          · omega
        · intro h; right; omega
  | .tray :: _, ok, _, _, _ => by unfold okF at ok; cases ok
theorem isBy_iff : ∀ (f : List Part), okF f = true → ∀ (b : Bytes), (isBy f b = true ↔ (scanF f b).2 = true ∧ (scanF f b).1 = b.length)
  | [], _, b => by
    show (b == []) = true ↔ true = true ∧ 0 = b.length
    rw [beq_iff_eq]
    constructor
    · intro h; rw [h]; exact ⟨rfl, rfl⟩
    · intro h; exact List.length_eq_zero_iff.mp h.2.symm
  | .word w :: l, ok, b => by
    have ih := isBy_iff l ok
    show ((if w.isPrefixOf b = true then [b.drop w.length] else []).any fun r => isBy l r) = true ↔ _
    rw [scanF]
    by_cases hw : w.isPrefixOf b = true
    · rw [if_pos hw, if_pos hw, List.any_cons, List.any_nil, Bool.or_false, ih, List.length_drop]
      have := (pre_iff.mp hw).length_le
      simp only
      constructor
      · rintro ⟨h1, h2⟩; exact ⟨h1, by omega⟩
      · rintro ⟨h1, h2⟩; exact ⟨h1, by omega⟩
    · rw [if_neg hw, if_neg hw]
      simp
  | .num least most :: l, ok, b => by
    unfold okF at ok
    simp only [Bool.and_eq_true, beq_iff_eq, decide_eq_true_eq] at ok
    obtain ⟨rfl, h9, hm, hn, okl⟩ := ok
    have ih := isBy_iff l okl
    show ((numbersIn 0 most b).any fun r => isBy l r) = true ↔ _
    rw [scanF, List.any_eq_true]
    have hLl := takeN_le most b
    by_cases hL : (takeN most b).2 = 0
    · rw [if_pos hL]
      constructor
      · rintro ⟨r, hr, _⟩
        obtain ⟨j, j1, j2, _⟩ := (numbersIn_mem hm h9 _ _).mp hr
        omega
      · rintro ⟨h, _⟩; cases h
    · rw [if_neg hL]
      simp only
      constructor
      · rintro ⟨r, hr, hb⟩
        obtain ⟨j, j1, j2, rfl⟩ := (numbersIn_mem hm h9 _ _).mp hr
        by_cases hj : j = (takeN most b).2
        · rw [hj] at hb
          obtain ⟨h1, h2⟩ := (ih _).mp hb
          rw [List.length_drop] at h2
          exact ⟨h1, by omega⟩
        · obtain ⟨c, hc, hd⟩ := isDig_at hm h9 b (i := j) (by omega)
          rw [drop_cons hc, (head_begins hn hd _).2] at hb
          cases hb
      · rintro ⟨h1, h2⟩
        exact ⟨_, (numbersIn_mem hm h9 _ _).mpr ⟨_, by omega, Nat.le_refl _, rfl⟩, (ih _).mpr ⟨h1, by rw [List.length_drop]; omega⟩⟩
  | .tray :: _, ok, _ => by unfold okF at ok; cases ok
theorem scanF_le : ∀ (f : List Part) (b : Bytes), (scanF f b).1 ≤ b.length
  | [], b => Nat.zero_le _
  | .word w :: l, b => by
    rw [scanF]
    split
    · rename_i hw
      have := (pre_iff.mp hw).length_le
      have h2 := scanF_le l (b.drop w.length)
      rw [List.length_drop] at h2
      simp only; omega
    · exact cpl_le_r w b
  | .num _ most :: l, b => by
    rw [scanF]
    split
    · exact Nat.zero_le _
    · have := takeN_le most b
      have h2 := scanF_le l (b.drop (takeN most b).2)
      rw [List.length_drop] at h2
      simp only; omega
  | .tray :: _, b => Nat.zero_le _
def maxF : List Part → Nat
  | [] => 0
  | .word w :: l => w.length + maxF l
  | .num _ _ :: l => 3 + maxF l
  | .tray :: l => maxF l
theorem scanF_max : ∀ (f : List Part), okF f = true → ∀ (b : Bytes), (scanF f b).1 ≤ maxF f
  | [], _, b => Nat.zero_le _
  | .word w :: l, ok, b => by
    rw [scanF, maxF]
    split
    · have h2 := scanF_max l ok (b.drop w.length)
      simp only; omega
    · have := cpl_le_l w b
      simp only; omega
  | .num least most :: l, ok, b => by
    unfold okF at ok
    simp only [Bool.and_eq_true, beq_iff_eq, decide_eq_true_eq] at ok
    obtain ⟨rfl, h9, hm, hn, okl⟩ := ok
    rw [scanF, maxF]
    split
    · exact Nat.zero_le _
    · have := takeN_len3 hm h9 b
      have h2 := scanF_max l okl (b.drop (takeN most b).2)
      simp only; omega
  | .tray :: _, ok, b => by unfold okF at ok; cases ok
theorem scanF_append : ∀ (f g : List Part) (b : Bytes), scanF (f ++ g) b = if (scanF f b).2 = true then ((scanF f b).1 + (scanF g (b.drop (scanF f b).1)).1, (scanF g (b.drop (scanF f b).1)).2) else scanF f b
  | [], g, b => by
    show scanF g b = if true = true then (0 + (scanF g (b.drop 0)).1, (scanF g (b.drop 0)).2) else _
    rw [if_pos rfl, Nat.zero_add]
    rfl
  | .word w :: l, g, b => by
    show scanF (.word w :: (l ++ g)) b = _
    rw [scanF, scanF]
    split
    · rename_i hw
      rw [scanF_append l g]
      split
      · simp only [List.drop_drop]
        rename_i q
        simp only [Nat.add_assoc]
      · rfl
    · rfl
  | .num _ most :: l, g, b => by
    show scanF (.num _ most :: (l ++ g)) b = _
    rw [scanF, scanF]
    split
    · rfl
    · rw [scanF_append l g]
      split
      · simp only [List.drop_drop, Nat.add_assoc]
      · rfl
  | .tray :: _, g, b => rfl
/-! ## how far it's right -/
theorem find_rev {N m : Nat} {P : Nat → Bool} (h : ∀ k, k ≤ N → (P k = true ↔ k ≤ m)) (hm : m ≤ N) : (List.range (N + 1)).reverse.find? P = some m := by
  rw [List.find?_eq_some_iff_append]
  refine ⟨(h m hm).mpr (Nat.le_refl _), (List.range' (m + 1) (N - m)).reverse, (List.range m).reverse, ?_, ?_⟩
  · rw [show List.range (N + 1) = List.range m ++ m :: List.range' (m + 1) (N - m) by
      rw [List.range_eq_range', List.range_eq_range', ← List.range'_succ]
      have := List.range'_append (s := 0) (m := m) (n := N + 1 - m) (step := 1)
      simp only [Nat.zero_add, Nat.one_mul] at this
      rw [show N - m + 1 = N + 1 - m by omega, this, show m + (N + 1 - m) = N + 1 by omega]]
    rw [List.reverse_append, List.reverse_cons, List.append_assoc]; rfl
  · intro r hr
    rw [List.mem_reverse, List.mem_range'_1] at hr
    have : ¬ P r = true := fun z => by have := (h r (by omega)).mp z; omega
    rw [Bool.eq_false_iff.mpr this]; rfl
structure Best (forms : List (List Part)) (b : Bytes) (m : Nat) (r : Bool) : Prop where
  up : ∀ f ∈ forms, (scanF f b).1 ≤ m
  at_ : ∃ f ∈ forms, (scanF f b).1 = m
  ok : r = true ↔ ∃ f ∈ forms, (scanF f b).2 = true ∧ (scanF f b).1 = m
  oks : ∀ f ∈ forms, (scanF f b).2 = true → (scanF f b).1 = m
theorem Best.right {forms : List (List Part)} {b : Bytes} {m : Nat} {r : Bool} (B : Best forms b m r) (ok : ∀ f ∈ forms, okF f = true ∧ maxF f ≤ 80) : rightTo forms b = m := by
  have hm : m ≤ min b.length 80 := by
    obtain ⟨f, hf, e⟩ := B.at_
    have h1 := scanF_le f b
    have h2 := scanF_max f (ok f hf).1 b
    have h3 := (ok f hf).2
    omega
  unfold rightTo
  rw [find_rev (m := m) (fun k hk => ?_) hm]
  · rfl
  · rw [List.any_eq_true]
    constructor
    · rintro ⟨f, hf, q⟩
      exact Nat.le_trans ((begins_iff f (ok f hf).1 b k (by omega)).mp q) (B.up f hf)
    · intro q
      obtain ⟨f, hf, e⟩ := B.at_
      exact ⟨f, hf, (begins_iff f (ok f hf).1 b k (by omega)).mpr (by omega)⟩
theorem Best.isBy {forms : List (List Part)} {b : Bytes} {m : Nat} {r : Bool} (B : Best forms b m r) (ok : ∀ f ∈ forms, okF f = true ∧ maxF f ≤ 80) (hb : r = true → m = b.length) : (forms.any fun f => Pu.isBy f b) = r := by
  cases r with
  | true =>
    rw [List.any_eq_true]
    obtain ⟨f, hf, h1, h2⟩ := B.ok.mp rfl
    exact ⟨f, hf, (isBy_iff f (ok f hf).1 b).mpr ⟨h1, h2.trans (hb rfl)⟩⟩
  | false =>
    apply Bool.eq_false_iff.mpr
    intro z
    rw [List.any_eq_true] at z
    obtain ⟨f, hf, q⟩ := z
    obtain ⟨h1, h2⟩ := (isBy_iff f (ok f hf).1 b).mp q
    have : false = true := B.ok.mpr ⟨f, hf, h1, B.oks f hf h1⟩
    cases this
end CP
/-! MathE -/
namespace CP
open Pu Machines

/-! ## one of some words -/
def preFree (ws : List Bytes) : Bool := (List.range ws.length).all fun i => (List.range ws.length).all fun j => i == j || !(ws.getD i []).isPrefixOf (ws.getD j [])
def pickI (ws : List Bytes) (b : Bytes) : Option Nat := ws.findIdx? fun w => w.isPrefixOf b
def longW (ws : List Bytes) (b : Bytes) : Nat := ws.foldl (fun m w => max m (cpl w b)) 0
theorem foldl_max (b : Bytes) : ∀ (ws : List Bytes) (m : Nat), (m ≤ ws.foldl (fun m w => max m (cpl w b)) m) ∧ (∀ w ∈ ws, cpl w b ≤ ws.foldl (fun m w => max m (cpl w b)) m) ∧ (ws.foldl (fun m w => max m (cpl w b)) m = m ∨ ∃ w ∈ ws, cpl w b = ws.foldl (fun m w => max m (cpl w b)) m)
  | [], m => ⟨Nat.le_refl _, fun w h => (by cases h), Or.inl rfl⟩
  | w :: ws, m => by
    obtain ⟨h1, h2, h3⟩ := foldl_max b ws (max m (cpl w b))
    rw [List.foldl_cons]
    refine ⟨by omega, fun v hv => ?_, ?_⟩
    · rcases List.mem_cons.mp hv with q | q
      · rw [q]; omega
      · exact h2 v q
    · rcases h3 with q | ⟨v, hv, q⟩
      · by_cases z : cpl w b ≤ m
        · left; rw [q]; omega
        · right; exact ⟨w, List.mem_cons_self, by rw [q]; omega⟩
      · right; exact ⟨v, List.mem_cons_of_mem _ hv, q⟩
theorem long_up {ws : List Bytes} {b : Bytes} {w : Bytes} (h : w ∈ ws) : cpl w b ≤ longW ws b := (foldl_max b ws 0).2.1 w h
theorem long_at {ws : List Bytes} {b : Bytes} (h : ws ≠ []) : ∃ w ∈ ws, cpl w b = longW ws b := by
  rcases (foldl_max b ws 0).2.2 with q | q
  · cases ws with
    | nil => exact absurd rfl h
    | cons w ws =>
      refine ⟨w, List.mem_cons_self, ?_⟩
      have := long_up (b := b) (List.mem_cons_self (a := w) (l := ws))
      unfold longW at *
      omega
  · exact q
theorem pick_some {ws : List Bytes} {b : Bytes} {i : Nat} (h : pickI ws b = some i) : i < ws.length ∧ ws.getD i [] <+: b := by
  unfold pickI at h
  rw [List.findIdx?_eq_some_iff_getElem] at h
  obtain ⟨hi, h1, _⟩ := h
  refine ⟨hi, ?_⟩
  rw [List.getD_eq_getElem?_getD, List.getElem?_eq_getElem hi]
  exact pre_iff.mp h1
theorem pick_none {ws : List Bytes} {b : Bytes} (h : pickI ws b = none) {i : Nat} (hi : i < ws.length) : ¬ ws.getD i [] <+: b := by
  unfold pickI at h
  rw [List.findIdx?_eq_none_iff] at h
  intro z
  rw [List.getD_eq_getElem?_getD, List.getElem?_eq_getElem hi] at z
  have := h ws[i] (List.getElem_mem hi)
  rw [Option.getD_some] at z
  rw [pre_iff.mpr z] at this
  cases this
theorem free_of {ws : List Bytes} (h : preFree ws = true) {i j : Nat} (hi : i < ws.length) (hj : j < ws.length) (ne : i ≠ j) : ¬ ws.getD i [] <+: ws.getD j [] := by
  unfold preFree at h
  rw [List.all_eq_true] at h
  have := h i (List.mem_range.mpr hi)
  rw [List.all_eq_true] at this
  have := this j (List.mem_range.mpr hj)
  rw [Bool.or_eq_true, beq_iff_eq] at this
  rcases this with q | q
  · exact absurd q ne
  · intro z
    rw [pre_iff.mpr z] at q
    cases q
/-- the others share less than the one that stands there -/
theorem others_less {ws : List Bytes} (h : preFree ws = true) {b : Bytes} {i j : Nat} (hi : i < ws.length) (hj : j < ws.length) (ne : i ≠ j) (hp : ws.getD i [] <+: b) : cpl (ws.getD j []) b < (ws.getD i []).length ∧ ¬ ws.getD j [] <+: b := by
  constructor
  · apply Classical.byContradiction
    intro q
    apply free_of h hi hj ne
    have hl := hp.length_le
    have := (take_prefix_iff (ws.getD j []) b (ws.getD i []).length hl).mpr (by omega)
    obtain ⟨t, ht⟩ := hp
    have e : b.take (ws.getD i []).length = ws.getD i [] := by rw [← ht, List.take_left]
    rwa [e] at this
  · intro z
    rcases List.prefix_or_prefix_of_prefix hp z with q | q
    · exact free_of h hi hj ne q
    · exact free_of h hj hi (Ne.symm ne) q
theorem free_word {ws : List Bytes} (h : preFree ws = true) {b : Bytes} {i : Nat} (hi : i < ws.length) (hp : ws.getD i [] <+: b) : pickI ws b = some i := by
  cases e : pickI ws b with
  | none => exact absurd hp (pick_none e hi)
  | some j =>
    obtain ⟨hj, pj⟩ := pick_some e
    by_cases q : i = j
    · rw [q]
    · exact absurd hp (others_less h hj hi (Ne.symm q) pj).2

/-! ## the forms of a wire's line -/
def sendW : List Bytes := SENDS.map ascii
def takeW : List Bytes := TAKES.map ascii
theorem sendW_free : preFree sendW = true := by decide +kernel
theorem takeW_free : preFree takeW = true := by decide +kernel
def partA (k : Nat) : List Part := [word_ (SENDS.getD k ""), word_ " ", .num 0 (sendMost k - 1)] ++ ((if k = 5 then [word_ " ", .num 0 (ROWS - 1)] else []) ++ [word_ " > "])
def partB (i : Nat) : List Part := [word_ (TAKES.getD i ""), word_ " ", .num 0 (takeMost i - 1), word_ "\n"]
theorem forms_mem {f : List Part} : f ∈ wireForms ↔ ∃ k i, k < 8 ∧ i < 8 ∧ f = partA k ++ partB i := by
  unfold wireForms
  rw [List.mem_flatMap]
  constructor
  · rintro ⟨k, hk, h⟩
    rw [List.mem_map] at h
    obtain ⟨i, hi, rfl⟩ := h
    refine ⟨k, i, List.mem_range.mp hk, List.mem_range.mp hi, ?_⟩
    unfold partA partB
    simp only [List.append_assoc, List.cons_append, List.nil_append]
  · rintro ⟨k, i, hk, hi, rfl⟩
    refine ⟨k, List.mem_range.mpr hk, List.mem_map.mpr ⟨i, List.mem_range.mpr hi, ?_⟩⟩
    unfold partA partB
    simp only [List.append_assoc, List.cons_append, List.nil_append]
theorem forms_fine : (wireForms.all fun f => okF f && decide (maxF f ≤ 80)) = true := by decide +kernel
theorem forms_ok : ∀ f ∈ wireForms, okF f = true ∧ maxF f ≤ 80 := by
  intro f hf
  have := List.all_eq_true.mp forms_fine f hf
  rw [Bool.and_eq_true, decide_eq_true_eq] at this
  exact this

/-! ## the line as it's scanned -/
structure Sc where
  at_ : Nat
  right : Bool
def twS (line : Bytes) (ws : List Bytes) (s : Sc) : Sc × Option Nat :=
  if s.right = false then (s, none) else match pickI ws (line.drop s.at_) with
    | some i => (⟨s.at_ + (ws.getD i []).length, true⟩, some i)
    | none => (⟨s.at_ + longW ws (line.drop s.at_), false⟩, none)
def tnS (line : Bytes) (most : Nat) (s : Sc) : Sc × Nat :=
  if s.right = false ∨ (takeN most (line.drop s.at_)).2 = 0 then (⟨s.at_, false⟩, 0) else (⟨s.at_ + (takeN most (line.drop s.at_)).2, true⟩, (takeN most (line.drop s.at_)).1)
def numsS (line : Bytes) : List Nat → Sc → Sc × List Nat
  | [], s => (s, [])
  | m :: ms, s => ((numsS line ms (tnS line m (twS line [[32]] s).1).1).1, (tnS line m (twS line [[32]] s).1).2 :: (numsS line ms (tnS line m (twS line [[32]] s).1).1).2)
def sendN : List (List Nat) := [[79], [63], [255], [63], [63], [63, 11], [63], [63]]
def takeNs : List (List Nat) := [[255], [63], [63], [63], [63], [63], [63], [63]]
def hubS (line : Bytes) (ws : List Bytes) (ns : List (List Nat)) (s : Sc) : Sc × Option Nat × List Nat := match (twS line ws s).2 with
  | none => ((twS line ws s).1, none, [])
  | some i => ((numsS line (ns.getD i []) (twS line ws s).1).1, some i, (numsS line (ns.getD i []) (twS line ws s).1).2)
def arrow : Bytes := ascii " > "
def wireS (line : Bytes) (s : Sc) : Sc × (Option Nat × List Nat) × (Option Nat × List Nat) :=
  let a := hubS line sendW sendN s
  let s2 := (twS line [arrow] a.1).1
  let c := hubS line takeW takeNs s2
  ((twS line [[10]] c.1).1, a.2, c.2)
/-- a form's parts done one behind another -/
def runF (line : Bytes) : List Part → Sc → Sc
  | [], s => s
  | .word w :: l, s => runF line l (twS line [w] s).1
  | .num _ m :: l, s => runF line l (tnS line m s).1
  | .tray :: l, s => runF line l s
theorem tw_bad {line : Bytes} {ws : List Bytes} {s : Sc} (h : s.right = false) : twS line ws s = (s, none) := by
  unfold twS
  rw [if_pos h]
theorem tn_bad {line : Bytes} {m : Nat} {s : Sc} (h : s.right = false) : tnS line m s = (s, 0) := by
  unfold tnS
  rw [if_pos (Or.inl h)]
  obtain ⟨a, r⟩ := s
  have : r = false := h
  rw [this]
theorem pick_one {w b : Bytes} : pickI [w] b = if w.isPrefixOf b = true then some 0 else none := by
  unfold pickI
  rw [List.findIdx?_cons]
  split <;> rfl
theorem long_one {w b : Bytes} : longW [w] b = cpl w b := by
  unfold longW
  rw [List.foldl_cons, List.foldl_nil, Nat.zero_max]
theorem run_bad {line : Bytes} : ∀ {l : List Part} {s : Sc}, s.right = false → runF line l s = s
  | [], _, _ => rfl
  | .word w :: l, s, h => by rw [runF, tw_bad h]; exact run_bad h
  | .num _ m :: l, s, h => by rw [runF, tn_bad h]; exact run_bad h
  | .tray :: l, s, h => by rw [runF]; exact run_bad h
theorem run_scan {line : Bytes} : ∀ {l : List Part} {s : Sc}, okF l = true → s.right = true → runF line l s = ⟨s.at_ + (scanF l (line.drop s.at_)).1, (scanF l (line.drop s.at_)).2⟩
  | [], s, _, h => by
    obtain ⟨a, r⟩ := s
    have : r = true := h
    rw [this]; rfl
  | .word w :: l, s, ok, h => by
    rw [runF, scanF]
    unfold twS
    rw [if_neg (by rw [h]; exact Bool.noConfusion), pick_one]
    by_cases q : w.isPrefixOf (line.drop s.at_) = true
    · rw [if_pos q, if_pos q]
      show runF line l ⟨s.at_ + w.length, true⟩ = _
      rw [run_scan (l := l) ok rfl]
      simp only [List.drop_drop, Nat.add_assoc]
    · rw [if_neg q, if_neg q]
      show runF line l ⟨s.at_ + longW [w] (line.drop s.at_), false⟩ = _
      rw [run_bad rfl, long_one]
  | .num least most :: l, s, ok, h => by
    unfold okF at ok
    simp only [Bool.and_eq_true, beq_iff_eq, decide_eq_true_eq] at ok
    rw [runF, scanF]
    unfold tnS
    by_cases q : (takeN most (line.drop s.at_)).2 = 0
    · rw [if_pos (Or.inr q), if_pos q]
      show runF line l ⟨s.at_, false⟩ = _
      rw [run_bad rfl]; rfl
    · rw [if_neg (by rintro (z | z); rw [h] at z; cases z; exact q z), if_neg q]
      show runF line l ⟨s.at_ + (takeN most (line.drop s.at_)).2, true⟩ = _
      rw [run_scan (l := l) ok.2.2.2.2 rfl]
      simp only [List.drop_drop, Nat.add_assoc]
  | .tray :: _, _, ok, _ => by unfold okF at ok; cases ok
theorem run_append {line : Bytes} : ∀ {l m : List Part} {s : Sc}, runF line (l ++ m) s = runF line m (runF line l s)
  | [], _, _ => rfl
  | .word w :: l, m, s => by show runF line (l ++ m) _ = _; rw [run_append (l := l)]; rfl
  | .num _ _ :: l, m, s => by show runF line (l ++ m) _ = _; rw [run_append (l := l)]; rfl
  | .tray :: l, m, s => by show runF line (l ++ m) _ = _; rw [run_append (l := l)]; rfl
def numParts (ms : List Nat) : List Part := ms.flatMap fun m => [.word [32], .num 0 m]
theorem nums_run {line : Bytes} : ∀ (ms : List Nat) (s : Sc), (numsS line ms s).1 = runF line (numParts ms) s
  | [], s => rfl
  | m :: ms, s => by
    show (numsS line ms (tnS line m (twS line [[32]] s).1).1).1 = runF line (numParts ms) (tnS line m (twS line [[32]] s).1).1
    exact nums_run ms _
theorem partA_eq {k : Nat} (hk : k < 8) : partA k = .word (sendW.getD k []) :: (numParts (sendN.getD k []) ++ [.word arrow]) := by
  match k, hk with
  | 0, _ => rfl
  | 1, _ => rfl
  | 2, _ => rfl
  | 3, _ => rfl
  | 4, _ => rfl
  | 5, _ => rfl
  | 6, _ => rfl
  | 7, _ => rfl
theorem partB_eq {k : Nat} (hk : k < 8) : partB k = .word (takeW.getD k []) :: (numParts (takeNs.getD k []) ++ [.word [10]]) := by
  match k, hk with
  | 0, _ => rfl
  | 1, _ => rfl
  | 2, _ => rfl
  | 3, _ => rfl
  | 4, _ => rfl
  | 5, _ => rfl
  | 6, _ => rfl
  | 7, _ => rfl
theorem parts_ok : ((List.range 8).all fun k => (okF (numParts (sendN.getD k []) ++ [.word arrow])) && (okF (partA k) && okF (partB k))) = true := by decide +kernel
theorem partA_ok {k : Nat} (hk : k < 8) : okF (partA k) = true := by
  have := List.all_eq_true.mp parts_ok k (List.mem_range.mpr hk)
  simp only [Bool.and_eq_true] at this
  exact this.2.1
theorem partB_ok {k : Nat} (hk : k < 8) : okF (partB k) = true := by
  have := List.all_eq_true.mp parts_ok k (List.mem_range.mpr hk)
  simp only [Bool.and_eq_true] at this
  exact this.2.2
/-- the hub behind its word -/
theorem hub_some {line : Bytes} {ws : List Bytes} {ns : List (List Nat)} {s : Sc} {i : Nat} (hr : s.right = true) (h : pickI ws (line.drop s.at_) = some i) :
    hubS line ws ns s = ((numsS line (ns.getD i []) ⟨s.at_ + (ws.getD i []).length, true⟩).1, some i, (numsS line (ns.getD i []) ⟨s.at_ + (ws.getD i []).length, true⟩).2) := by
  have e : twS line ws s = (⟨s.at_ + (ws.getD i []).length, true⟩, some i) := by
    unfold twS
    rw [if_neg (by rw [hr]; exact Bool.noConfusion), h]
  unfold hubS
  rw [e]
theorem hub_none {line : Bytes} {ws : List Bytes} {ns : List (List Nat)} {s : Sc} (hr : s.right = true) (h : pickI ws (line.drop s.at_) = none) :
    hubS line ws ns s = (⟨s.at_ + longW ws (line.drop s.at_), false⟩, none, []) := by
  have e : twS line ws s = (⟨s.at_ + longW ws (line.drop s.at_), false⟩, none) := by
    unfold twS
    rw [if_neg (by rw [hr]; exact Bool.noConfusion), h]
  unfold hubS
  rw [e]
theorem hub_bad {line : Bytes} {ws : List Bytes} {ns : List (List Nat)} {s : Sc} (hr : s.right = false) : hubS line ws ns s = (s, none, []) := by
  unfold hubS
  rw [tw_bad hr]
/-- a word that is there: done as its own part -/
theorem word_run {line : Bytes} {w : Bytes} {l : List Part} {s : Sc} (hr : s.right = true) (h : w <+: line.drop s.at_) : runF line (.word w :: l) s = runF line l ⟨s.at_ + w.length, true⟩ := by
  rw [runF]
  unfold twS
  rw [if_neg (by rw [hr]; exact Bool.noConfusion), pick_one, if_pos (pre_iff.mpr h)]
  rfl
/-- **the scan, by its forms** -/
theorem wire_best (line : Bytes) : Best wireForms line (wireS line ⟨0, true⟩).1.at_ (wireS line ⟨0, true⟩).1.right := by
  have lenS : sendW.length = 8 := rfl
  have lenT : takeW.length = 8 := rfl
  cases hk : pickI sendW line with
  | none =>
    have e : (wireS line ⟨0, true⟩).1 = ⟨longW sendW line, false⟩ := by
      unfold wireS
      simp only
      rw [hub_none (s := ⟨0, true⟩) rfl (by exact hk)]
      simp only
      rw [tw_bad rfl, hub_bad rfl, tw_bad rfl]
      simp
    rw [e]
    have sc : ∀ k i, k < 8 → i < 8 → scanF (partA k ++ partB i) line = (cpl (sendW.getD k []) line, false) := by
      intro k i h1 h2
      rw [partA_eq h1]
      show scanF (.word (sendW.getD k []) :: _) line = _
      rw [scanF, if_neg (fun z => pick_none hk (by omega) (pre_iff.mp z))]
    refine ⟨?_, ?_, ?_, ?_⟩
    · intro f hf
      obtain ⟨k, i, h1, h2, rfl⟩ := forms_mem.mp hf
      rw [sc k i h1 h2]
      refine long_up ?_
      rw [List.getD_eq_getElem?_getD, List.getElem?_eq_getElem (by omega)]
      exact List.getElem_mem _
    · obtain ⟨w, hw, e2⟩ := long_at (ws := sendW) (b := line) (by decide)
      obtain ⟨k, h1, rfl⟩ := List.mem_iff_getElem.mp hw
      refine ⟨_, forms_mem.mpr ⟨k, 0, by omega, by omega, rfl⟩, ?_⟩
      rw [sc k 0 (by omega) (by omega)]
      rw [List.getD_eq_getElem?_getD, List.getElem?_eq_getElem h1]
      exact e2
    · constructor
      · intro z; cases z
      · rintro ⟨f, hf, z, _⟩
        obtain ⟨k, i, h1, h2, rfl⟩ := forms_mem.mp hf
        rw [sc k i h1 h2] at z
        cases z
    · intro f hf z
      obtain ⟨k, i, h1, h2, rfl⟩ := forms_mem.mp hf
      rw [sc k i h1 h2] at z
      cases z
  | some k =>
    obtain ⟨hk8, hp⟩ := pick_some hk
    have hk8 : k < 8 := hk8
    have others : ∀ k' i, k' < 8 → i < 8 → k' ≠ k → scanF (partA k' ++ partB i) line = (cpl (sendW.getD k' []) line, false) ∧ cpl (sendW.getD k' []) line < (sendW.getD k []).length := by
      intro k' i h1 h2 ne
      obtain ⟨z1, z2⟩ := others_less sendW_free (b := line) (i := k) (j := k') hk8 h1 (Ne.symm ne) hp
      refine ⟨?_, z1⟩
      rw [partA_eq h1]
      show scanF (.word (sendW.getD k' []) :: _) line = _
      rw [scanF, if_neg (fun z => z2 (pre_iff.mp z))]
    have eA : (twS line [arrow] (hubS line sendW sendN ⟨0, true⟩).1).1 = runF line (partA k) ⟨0, true⟩ := by
      rw [hub_some (s := ⟨0, true⟩) rfl (by exact hk), nums_run, partA_eq hk8, word_run rfl (by exact hp), run_append]
      rfl
    rw [run_scan (partA_ok hk8) rfl] at eA
    simp only [List.drop_zero, Nat.zero_add] at eA
    have geA : (sendW.getD k []).length ≤ (scanF (partA k) line).1 := by
      rw [partA_eq hk8, scanF, if_pos (pre_iff.mpr hp)]
      exact Nat.le_add_right _ _
    cases hA : (scanF (partA k) line).2 with
    | false =>
      rw [hA] at eA
      have e : (wireS line ⟨0, true⟩).1 = ⟨(scanF (partA k) line).1, false⟩ := by
        unfold wireS
        simp only
        rw [eA, hub_bad rfl, tw_bad rfl]
      rw [e]
      have sc : ∀ i, scanF (partA k ++ partB i) line = scanF (partA k) line := by
        intro i
        rw [scanF_append, hA, if_neg Bool.false_ne_true]
      refine ⟨?_, ⟨_, forms_mem.mpr ⟨k, 0, hk8, by omega, rfl⟩, by rw [sc]⟩, ?_, ?_⟩
      · intro f hf
        obtain ⟨k', i, h1, h2, rfl⟩ := forms_mem.mp hf
        by_cases ne : k' = k
        · rw [ne, sc]; exact Nat.le_refl _
        · obtain ⟨z1, z2⟩ := others k' i h1 h2 ne
          rw [z1]; simp only; omega
      · constructor
        · intro z; cases z
        · rintro ⟨f, hf, z, _⟩
          obtain ⟨k', i, h1, h2, rfl⟩ := forms_mem.mp hf
          by_cases ne : k' = k
          · rw [ne, sc, hA] at z; cases z
          · rw [(others k' i h1 h2 ne).1] at z; cases z
      · intro f hf z
        obtain ⟨k', i, h1, h2, rfl⟩ := forms_mem.mp hf
        by_cases ne : k' = k
        · rw [ne, sc, hA] at z; cases z
        · rw [(others k' i h1 h2 ne).1] at z; cases z
    | true =>
      rw [hA] at eA
      have sc : ∀ i, scanF (partA k ++ partB i) line = ((scanF (partA k) line).1 + (scanF (partB i) (line.drop (scanF (partA k) line).1)).1, (scanF (partB i) (line.drop (scanF (partA k) line).1)).2) := by
        intro i
        rw [scanF_append, hA, if_pos rfl]
      generalize (scanF (partA k) line).1 = n at *
      cases hi : pickI takeW (line.drop n) with
      | none =>
        have e : (wireS line ⟨0, true⟩).1 = ⟨n + longW takeW (line.drop n), false⟩ := by
          unfold wireS
          simp only
          rw [eA, hub_none (s := ⟨n, true⟩) rfl (by exact hi), tw_bad rfl]
        rw [e]
        have sc2 : ∀ i, i < 8 → scanF (partB i) (line.drop n) = (cpl (takeW.getD i []) (line.drop n), false) := by
          intro i h1
          rw [partB_eq h1, scanF, if_neg (fun z => pick_none hi (by omega) (pre_iff.mp z))]
        refine ⟨?_, ?_, ?_, ?_⟩
        · intro f hf
          obtain ⟨k', i, h1, h2, rfl⟩ := forms_mem.mp hf
          by_cases ne : k' = k
          · rw [ne, sc, sc2 i h2]
            have : cpl (takeW.getD i []) (line.drop n) ≤ longW takeW (line.drop n) := by
              refine long_up ?_
              rw [List.getD_eq_getElem?_getD, List.getElem?_eq_getElem (by omega)]
              exact List.getElem_mem _
            simp only; omega
          · obtain ⟨z1, z2⟩ := others k' i h1 h2 ne
            rw [z1]; simp only; omega
        · obtain ⟨w, hw, e2⟩ := long_at (ws := takeW) (b := line.drop n) (by decide)
          obtain ⟨i, h1, rfl⟩ := List.mem_iff_getElem.mp hw
          refine ⟨_, forms_mem.mpr ⟨k, i, hk8, by omega, rfl⟩, ?_⟩
          rw [sc, sc2 i (by omega)]
          rw [List.getD_eq_getElem?_getD, List.getElem?_eq_getElem h1]
          simp only [Option.getD_some]
          rw [e2]
        · constructor
          · intro z; cases z
          · rintro ⟨f, hf, z, _⟩
            obtain ⟨k', i, h1, h2, rfl⟩ := forms_mem.mp hf
            by_cases ne : k' = k
            · rw [ne, sc, sc2 i h2] at z; cases z
            · rw [(others k' i h1 h2 ne).1] at z; cases z
        · intro f hf z
          obtain ⟨k', i, h1, h2, rfl⟩ := forms_mem.mp hf
          by_cases ne : k' = k
          · rw [ne, sc, sc2 i h2] at z; cases z
          · rw [(others k' i h1 h2 ne).1] at z; cases z
      | some i =>
        obtain ⟨hi8, hpi⟩ := pick_some hi
        have hi8 : i < 8 := hi8
        have e : (wireS line ⟨0, true⟩).1 = ⟨n + (scanF (partB i) (line.drop n)).1, (scanF (partB i) (line.drop n)).2⟩ := by
          have : (twS line [[10]] (hubS line takeW takeNs ⟨n, true⟩).1).1 = runF line (partB i) ⟨n, true⟩ := by
            rw [hub_some (s := ⟨n, true⟩) rfl (by exact hi), nums_run, partB_eq hi8, word_run rfl (by exact hpi), run_append]
            rfl
          rw [run_scan (partB_ok hi8) rfl] at this
          rw [← this]
          unfold wireS
          simp only
          rw [eA]
        rw [e]
        have geB : (takeW.getD i []).length ≤ (scanF (partB i) (line.drop n)).1 := by
          rw [partB_eq hi8, scanF, if_pos (pre_iff.mpr hpi)]
          exact Nat.le_add_right _ _
        have oth2 : ∀ i', i' < 8 → i' ≠ i → scanF (partB i') (line.drop n) = (cpl (takeW.getD i' []) (line.drop n), false) ∧ cpl (takeW.getD i' []) (line.drop n) < (takeW.getD i []).length := by
          intro i' h1 ne
          obtain ⟨z1, z2⟩ := others_less takeW_free (b := line.drop n) (i := i) (j := i') hi8 h1 (Ne.symm ne) hpi
          refine ⟨?_, z1⟩
          rw [partB_eq h1, scanF, if_neg (fun z => z2 (pre_iff.mp z))]
        refine ⟨?_, ⟨_, forms_mem.mpr ⟨k, i, hk8, hi8, rfl⟩, by rw [sc]⟩, ?_, ?_⟩
        · intro f hf
          obtain ⟨k', i', h1, h2, rfl⟩ := forms_mem.mp hf
          by_cases ne : k' = k
          · by_cases ne2 : i' = i
            · rw [ne, ne2, sc]; exact Nat.le_refl _
            · obtain ⟨z1, z2⟩ := oth2 i' h2 ne2
              rw [ne, sc, z1]; simp only; omega
          · obtain ⟨z1, z2⟩ := others k' i' h1 h2 ne
            rw [z1]; simp only; omega
        · constructor
          · intro z
            refine ⟨_, forms_mem.mpr ⟨k, i, hk8, hi8, rfl⟩, ?_⟩
            rw [sc]; exact ⟨z, rfl⟩
          · rintro ⟨f, hf, z, _⟩
            obtain ⟨k', i', h1, h2, rfl⟩ := forms_mem.mp hf
            by_cases ne : k' = k
            · by_cases ne2 : i' = i
              · rw [ne, ne2, sc] at z; exact z
              · rw [ne, sc, (oth2 i' h2 ne2).1] at z; cases z
            · rw [(others k' i' h1 h2 ne).1] at z; cases z
        · intro f hf z
          obtain ⟨k', i', h1, h2, rfl⟩ := forms_mem.mp hf
          by_cases ne : k' = k
          · by_cases ne2 : i' = i
            · rw [ne, ne2, sc]
            · rw [ne, sc, (oth2 i' h2 ne2).1] at z; cases z
          · rw [(others k' i' h1 h2 ne).1] at z; cases z
end CP
/-! MathF -/
namespace CP
open Pu Machines

/-! ## what a right scan has read -/
theorem tw_right {line w : Bytes} {s : Sc} (h : (twS line [w] s).1.right = true) : s.right = true ∧ line.drop s.at_ = w ++ line.drop (twS line [w] s).1.at_ := by
  unfold twS at h ⊢
  by_cases q : s.right = false
  · rw [if_pos q] at h; rw [q] at h; cases h
  · rw [if_neg q] at h ⊢
    refine ⟨by cases e : s.right with | true => rfl | false => exact absurd e q, ?_⟩
    rw [pick_one] at h ⊢
    by_cases p : w.isPrefixOf (line.drop s.at_) = true
    · rw [if_pos p] at h ⊢
      obtain ⟨t, ht⟩ := pre_iff.mp p
      show line.drop s.at_ = w ++ line.drop (s.at_ + w.length)
      rw [← List.drop_drop, ← ht, List.drop_left]
    · rw [if_neg p] at h; cases h
theorem tn_right {line : Bytes} {most : Nat} (hm : most < 256) (h9 : 9 ≤ most) {s : Sc} (h : (tnS line most s).1.right = true) : s.right = true ∧ (tnS line most s).2 ≤ most ∧ line.drop s.at_ = dec (tnS line most s).2 ++ line.drop (tnS line most s).1.at_ := by
  unfold tnS at h ⊢
  by_cases q : s.right = false ∨ (takeN most (line.drop s.at_)).2 = 0
  · rw [if_pos q] at h; cases h
  · rw [if_neg q] at h ⊢
    refine ⟨by cases e : s.right with | true => rfl | false => exact absurd (Or.inl e) q, ?_⟩
    obtain ⟨h1, h2⟩ := (takeN_dec hm h9 (line.drop s.at_)).1 (fun z => q (Or.inr z))
    refine ⟨h1, ?_⟩
    show line.drop s.at_ = dec (takeN most (line.drop s.at_)).1 ++ line.drop (s.at_ + (takeN most (line.drop s.at_)).2)
    rw [← List.drop_drop, ← h2, List.take_append_drop]
def numText (ns : List Nat) : Bytes := ns.flatMap fun n => 32 :: dec n
theorem nums_right {line : Bytes} : ∀ (ms : List Nat) (s : Sc), (∀ m ∈ ms, 9 ≤ m ∧ m < 256) → (numsS line ms s).1.right = true → s.right = true ∧ (numsS line ms s).2.length = ms.length ∧ (∀ i, i < ms.length → (numsS line ms s).2.getD i 0 ≤ ms.getD i 0) ∧ line.drop s.at_ = numText (numsS line ms s).2 ++ line.drop (numsS line ms s).1.at_
  | [], s, _, h => ⟨h, rfl, fun i hi => absurd hi (Nat.not_lt_zero i), rfl⟩
  | m :: ms, s, hb, h => by
    rw [numsS] at h ⊢
    simp only at h ⊢
    obtain ⟨i1, i2, i3, i4⟩ := nums_right ms _ (fun x hx => hb x (List.mem_cons_of_mem _ hx)) h
    obtain ⟨h9, hm⟩ := hb m List.mem_cons_self
    obtain ⟨j1, j2, j3⟩ := tn_right hm h9 i1
    obtain ⟨k1, k2⟩ := tw_right j1
    refine ⟨k1, by simp only [List.length_cons, i2], ?_, ?_⟩
    · intro i hi
      cases i with
      | zero => exact j2
      | succ i => exact i3 i (by simpa using hi)
    · rw [k2, j3, i4]
      show _ = numText (_ :: _) ++ _
      unfold numText
      rw [List.flatMap_cons]
      simp only [List.append_assoc, List.cons_append, List.nil_append]
theorem nums_len {line : Bytes} : ∀ (ms : List Nat) (s : Sc), (numsS line ms s).2.length = ms.length
  | [], s => rfl
  | m :: ms, s => by
    rw [numsS]
    simp only [List.length_cons, nums_len ms]
theorem hub_right {line : Bytes} {ws : List Bytes} {ns : List (List Nat)} {s : Sc} (hb : ∀ l ∈ ns, ∀ m ∈ l, 9 ≤ m ∧ m < 256) (h : (hubS line ws ns s).1.right = true) :
    s.right = true ∧ ∃ i, (hubS line ws ns s).2.1 = some i ∧ i < ws.length ∧ (hubS line ws ns s).2.2.length = (ns.getD i []).length ∧ (∀ j, j < (ns.getD i []).length → (hubS line ws ns s).2.2.getD j 0 ≤ (ns.getD i []).getD j 0) ∧
      line.drop s.at_ = ws.getD i [] ++ (numText (hubS line ws ns s).2.2 ++ line.drop (hubS line ws ns s).1.at_) := by
  cases hr : s.right with
  | false => rw [hub_bad hr] at h; rw [hr] at h; cases h
  | true =>
    refine ⟨rfl, ?_⟩
    cases hp : pickI ws (line.drop s.at_) with
    | none => rw [hub_none hr hp] at h; cases h
    | some i =>
      rw [hub_some hr hp] at h ⊢
      simp only at h ⊢
      obtain ⟨h1, h2⟩ := pick_some hp
      have hb' : ∀ m ∈ ns.getD i [], 9 ≤ m ∧ m < 256 := by
        intro m hm
        by_cases q : i < ns.length
        · rw [List.getD_eq_getElem?_getD, List.getElem?_eq_getElem q] at hm
          exact hb _ (List.getElem_mem q) m hm
        · rw [List.getD_eq_getElem?_getD, List.getElem?_eq_none (by omega)] at hm
          cases hm
      obtain ⟨i1, i2, i3, i4⟩ := nums_right _ _ hb' h
      refine ⟨i, rfl, h1, i2, i3, ?_⟩
      simp only at i4
      rw [← i4, ← List.drop_drop]
      obtain ⟨t, ht⟩ := h2
      rw [← ht, List.drop_left]
theorem sendN_fine : ∀ l ∈ sendN, ∀ m ∈ l, 9 ≤ m ∧ m < 256 := by decide
theorem takeNs_fine : ∀ l ∈ takeNs, ∀ m ∈ l, 9 ≤ m ∧ m < 256 := by decide
/-- what the two hubs have, of a wire -/
def sendNums (w : Wire) : List Nat := if w.kind = 5 then [w.n, w.m] else [w.n]
theorem list_one {l : List Nat} (h : l.length = 1) : l = [l.getD 0 0] := by
  match l, h with
  | [a], _ => rfl
theorem list_two {l : List Nat} (h : l.length = 2) : l = [l.getD 0 0, l.getD 1 0] := by
  match l, h with
  | [a, b], _ => rfl
theorem wire_right {line : Bytes} (h : (wireS line ⟨0, true⟩).1.right = true) : ∃ w : Wire, w.ok = true ∧ (wireS line ⟨0, true⟩).2.1 = (some w.kind, sendNums w) ∧ (wireS line ⟨0, true⟩).2.2 = (some w.into, [w.k]) ∧ line = w.text ++ line.drop (wireS line ⟨0, true⟩).1.at_ := by
  unfold wireS at h ⊢
  simp only at h ⊢
  obtain ⟨a1, a2⟩ := tw_right h
  obtain ⟨b1, i, b2, b3, b4, b5, b6⟩ := hub_right takeNs_fine a1
  obtain ⟨c1, c2⟩ := tw_right b1
  obtain ⟨_, k, d2, d3, d4, d5, d6⟩ := hub_right sendN_fine c1
  generalize hub1 : hubS line sendW sendN ⟨0, true⟩ = u at *
  generalize tw1 : (twS line [arrow] u.1).1 = s1 at *
  generalize hub2 : hubS line takeW takeNs s1 = v at *
  generalize tw2 : (twS line [[10]] v.1).1 = s2 at *
  obtain ⟨u1, u2, u3⟩ := u
  obtain ⟨v1, v2, v3⟩ := v
  simp only at *
  subst d2 b2
  have hk : k < 8 := d3
  have hi : i < 8 := b3
  have ti : takeNs.getD i [] = [takeMost i - 1] := by
    match i, hi with
    | 0, _ => rfl
    | 1, _ => rfl
    | 2, _ => rfl
    | 3, _ => rfl
    | 4, _ => rfl
    | 5, _ => rfl
    | 6, _ => rfl
    | 7, _ => rfl
  rw [ti] at b4 b5
  have v3e := list_one b4
  have kb : v3.getD 0 0 < takeMost i := by
    have := b5 0 (by simp)
    simp only [List.getD_cons_zero] at this
    have : 0 < takeMost i := by unfold takeMost; split <;> decide
    omega
  have tW : takeW.getD i [] = ascii (TAKES.getD i "") := by
    match i, hi with
    | 0, _ => rfl
    | 1, _ => rfl
    | 2, _ => rfl
    | 3, _ => rfl
    | 4, _ => rfl
    | 5, _ => rfl
    | 6, _ => rfl
    | 7, _ => rfl
  have sW : sendW.getD k [] = ascii (SENDS.getD k "") := by
    match k, hk with
    | 0, _ => rfl
    | 1, _ => rfl
    | 2, _ => rfl
    | 3, _ => rfl
    | 4, _ => rfl
    | 5, _ => rfl
    | 6, _ => rfl
    | 7, _ => rfl
  have nb : u3.getD 0 0 < sendMost k := by
    have hl : 0 < (sendN.getD k []).length ∧ (sendN.getD k []).getD 0 0 = sendMost k - 1 ∧ 0 < sendMost k := by
      match k, hk with
      | 0, _ => decide
      | 1, _ => decide
      | 2, _ => decide
      | 3, _ => decide
      | 4, _ => decide
      | 5, _ => decide
      | 6, _ => decide
      | 7, _ => decide
    have := d5 0 hl.1
    omega
  simp only [List.drop_zero] at d6
  by_cases h5 : k = 5
  · subst h5
    have e2 : (sendN.getD 5 []) = [63, 11] := rfl
    rw [e2] at d4 d5
    have u3e := list_two d4
    have mb : u3.getD 1 0 < 12 := by
      have := d5 1 (by simp)
      simp only [List.getD_cons_succ, List.getD_cons_zero] at this
      omega
    refine ⟨⟨5, u3.getD 0 0, u3.getD 1 0, i, v3.getD 0 0⟩, ?_, ?_, ?_, ?_⟩
    · unfold Wire.ok ROWS
      simp only [Bool.and_eq_true, decide_eq_true_eq, if_pos]
      exact ⟨by omega, nb, mb, by omega, kb⟩
    · show (some 5, u3) = (some 5, [u3.getD 0 0, u3.getD 1 0])
      rw [← u3e]
    · show (some i, v3) = (some i, [v3.getD 0 0])
      rw [← v3e]
    · have t1 : numText u3 = 32 :: dec (u3.getD 0 0) ++ (32 :: dec (u3.getD 1 0)) := by
        rw [u3e]; simp [numText]
      have t2 : numText v3 = 32 :: dec (v3.getD 0 0) := by
        rw [v3e]; simp [numText]
      unfold Wire.text
      simp only [if_pos]
      refine d6.trans ?_
      rw [c2, b6, a2, t1, t2, tW, sW]
      unfold arrow
      simp only [List.append_assoc, List.cons_append, List.nil_append]
  · have e2 : (sendN.getD k []).length = 1 := by
      match k, hk, h5 with
      | 0, _, _ => rfl
      | 1, _, _ => rfl
      | 2, _, _ => rfl
      | 3, _, _ => rfl
      | 4, _, _ => rfl
      | 5, _, z => exact absurd rfl z
      | 6, _, _ => rfl
      | 7, _, _ => rfl
    rw [e2] at d4
    have u3e := list_one d4
    refine ⟨⟨k, u3.getD 0 0, 0, i, v3.getD 0 0⟩, ?_, ?_, ?_, ?_⟩
    · unfold Wire.ok
      simp only [Bool.and_eq_true, decide_eq_true_eq]
      rw [if_neg h5]
      exact ⟨by omega, nb, rfl, by omega, kb⟩
    · show (some k, u3) = (some k, if k = 5 then _ else [u3.getD 0 0])
      rw [if_neg h5, ← u3e]
    · show (some i, v3) = (some i, [v3.getD 0 0])
      rw [← v3e]
    · have t1 : numText u3 = 32 :: dec (u3.getD 0 0) := by
        rw [u3e]; simp [numText]
      have t2 : numText v3 = 32 :: dec (v3.getD 0 0) := by
        rw [v3e]; simp [numText]
      unfold Wire.text
      simp only [if_neg h5]
      refine d6.trans ?_
      rw [c2, b6, a2, t1, t2, tW, sW]
      unfold arrow
      simp only [List.append_assoc, List.cons_append, List.nil_append]
/-! ## a wire's line read again -/
theorem words_cut : ∀ (x r : Bytes) (c : UInt8), c = 32 ∨ c = 10 → (∀ d ∈ x, ¬ (d = 32 ∨ d = 10)) → wordsOf (x ++ c :: r) = x :: wordsOf r
  | [], r, c, hc, _ => by
    show wordsOf (c :: r) = _
    rw [wordsOf, if_pos hc]
  | d :: x, r, c, hc, h => by
    show wordsOf (d :: (x ++ c :: r)) = _
    rw [wordsOf, if_neg (h d List.mem_cons_self), words_cut x r c hc fun y hy => h y (List.mem_cons_of_mem _ hy)]
def plainB (x : Bytes) : Bool := x.all fun d => !(d == 32) && !(d == 10)
theorem plain_of {x : Bytes} (h : plainB x = true) : ∀ d ∈ x, ¬ (d = 32 ∨ d = 10) := by
  intro d hd
  have := List.all_eq_true.mp h d hd
  rw [Bool.and_eq_true] at this
  rintro (q | q)
  · rw [q] at this; cases this.1
  · rw [q] at this; cases this.2
theorem dec_plain {n : Nat} (h : n < 256) : ∀ d ∈ dec n, ¬ (d = 32 ∨ d = 10) := by
  intro d hd
  have := isDig_iff.mp (List.all_eq_true.mp (dec_dig h) d hd)
  rintro (q | q)
  · rw [q] at this; revert this; decide
  · rw [q] at this; revert this; decide
theorem names_fine : ((List.range 8).all fun k => plainB (ascii (SENDS.getD k "")) && (plainB (ascii (TAKES.getD k "")) && ((placeIn SENDS (ascii (SENDS.getD k "")) == k) && (placeIn TAKES (ascii (TAKES.getD k "")) == k)))) = true := by decide +kernel
theorem sendMost_le (k : Nat) : sendMost k ≤ 256 := by
  unfold sendMost
  split
  · decide
  · split <;> decide
theorem takeMost_le (k : Nat) : takeMost k ≤ 256 := by
  unfold takeMost
  split <;> decide
theorem wireOf_text {w : Wire} (h : w.ok = true) : wireOf w.text = w := by
  obtain ⟨kind, n, m, into, k⟩ := w
  unfold Wire.ok at h
  simp only [Bool.and_eq_true, decide_eq_true_eq] at h
  obtain ⟨hk, hn, hm, hi, hkk⟩ := h
  have f1 := List.all_eq_true.mp names_fine kind (List.mem_range.mpr (by omega))
  have f2 := List.all_eq_true.mp names_fine into (List.mem_range.mpr (by omega))
  simp only [Bool.and_eq_true, beq_iff_eq] at f1 f2
  have b1 := sendMost_le kind
  have b2 := takeMost_le into
  have e3 : ascii " > " = [32, 62, 32] := by decide +kernel
  unfold wireOf Wire.text
  simp only
  rw [e3]
  by_cases h5 : kind = 5
  · subst h5
    rw [if_pos rfl] at hm
    have hm' : m < 12 := of_decide_eq_true hm
    simp only [if_pos]
    rw [words_cut _ _ _ (Or.inl rfl) (plain_of f1.1)]
    show (match ascii (SENDS.getD 5 "") :: wordsOf (dec n ++ 32 :: (dec m ++ 32 :: ([62] ++ 32 :: (ascii (TAKES.getD into "") ++ 32 :: (dec k ++ 10 :: []))))) with
      | [s, n, _, t, k] => _
      | [s, n, m, _, t, k] => _
      | _ => _) = _
    rw [words_cut _ _ _ (Or.inl rfl) (dec_plain (by omega)), words_cut _ _ _ (Or.inl rfl) (dec_plain (by omega)), words_cut [62] _ _ (Or.inl rfl) (by decide), words_cut _ _ _ (Or.inl rfl) (plain_of f2.2.1), words_cut _ _ _ (Or.inr rfl) (dec_plain (by omega))]
    show (if placeIn SENDS (ascii (SENDS.getD 5 "")) = 5 then (⟨5, valueOf (dec n), valueOf (dec m), placeIn TAKES (ascii (TAKES.getD into "")), valueOf (dec k)⟩ : Wire) else _) = _
    rw [if_pos f1.2.2.1, f2.2.2.2, dec_val (by omega), dec_val (by omega), dec_val (by omega)]
  · rw [if_neg h5] at hm
    have hm' : m = 0 := eq_of_beq hm
    subst hm'
    simp only [if_neg h5]
    rw [words_cut _ _ _ (Or.inl rfl) (plain_of f1.1)]
    show (match ascii (SENDS.getD kind "") :: wordsOf (dec n ++ 32 :: ([62] ++ 32 :: (ascii (TAKES.getD into "") ++ 32 :: (dec k ++ 10 :: [])))) with
      | [s, n, _, t, k] => _
      | [s, n, m, _, t, k] => _
      | _ => _) = _
    rw [words_cut _ _ _ (Or.inl rfl) (dec_plain (by omega)), words_cut [62] _ _ (Or.inl rfl) (by decide), words_cut _ _ _ (Or.inl rfl) (plain_of f2.2.1), words_cut _ _ _ (Or.inr rfl) (dec_plain (by omega))]
    show (⟨placeIn SENDS (ascii (SENDS.getD kind "")), valueOf (dec n), 0, placeIn TAKES (ascii (TAKES.getD into "")), valueOf (dec k)⟩ : Wire) = _
    rw [f1.2.2.1, f2.2.2.2, dec_val (by omega), dec_val (by omega)]

/-! ## lines -/
/-- a line end stands at most at the end -/
def Piece (b : Bytes) : Prop := ∀ i, b[i]? = some 10 → i + 1 = b.length
theorem pieces_cut : ∀ (x r : Bytes), (∀ d ∈ x, d ≠ 10) → pieces (x ++ 10 :: r) = (x ++ [10]) :: pieces r
  | [], r, _ => by
    show pieces (10 :: r) = _
    rw [pieces, if_pos rfl]; rfl
  | d :: x, r, h => by
    show pieces (d :: (x ++ 10 :: r)) = _
    rw [pieces, if_neg (h d List.mem_cons_self), pieces_cut x r fun y hy => h y (List.mem_cons_of_mem _ hy)]
    rfl
theorem pieces_last : ∀ (x : Bytes), (∀ d ∈ x, d ≠ 10) → pieces x = if x = [] then [] else [x]
  | [], _ => rfl
  | d :: x, h => by
    rw [pieces, if_neg (h d List.mem_cons_self), pieces_last x fun y hy => h y (List.mem_cons_of_mem _ hy), if_neg (List.cons_ne_nil d x)]
    by_cases q : x = []
    · rw [if_pos q, q]
    · rw [if_neg q]
theorem pieces_piece : ∀ (b : Bytes), ∀ p ∈ pieces b, Piece p ∧ p ≠ []
  | [], p, hp => by cases hp
  | c :: r, p, hp => by
    rw [pieces] at hp
    by_cases q : c = 10
    · rw [if_pos q] at hp
      rcases List.mem_cons.mp hp with e | e
      · rw [e]
        refine ⟨fun i hi => ?_, by simp⟩
        cases i with
        | zero => rfl
        | succ i => simp at hi
      · exact pieces_piece r p e
    · rw [if_neg q] at hp
      cases e : pieces r with
      | nil =>
        rw [e] at hp
        rcases List.mem_cons.mp hp with z | z
        · rw [z]
          refine ⟨fun i hi => ?_, by simp⟩
          cases i with
          | zero => rfl
          | succ i => simp at hi
        · cases z
      | cons p' l =>
        rw [e] at hp
        have ih := pieces_piece r
        rw [e] at ih
        rcases List.mem_cons.mp hp with z | z
        · rw [z]
          refine ⟨fun i hi => ?_, by simp⟩
          cases i with
          | zero => simp only [List.getElem?_cons_zero, Option.some.injEq] at hi; exact absurd hi q
          | succ i =>
            have := (ih p' List.mem_cons_self).1 i (by simpa using hi)
            simp only [List.length_cons]; omega
        · exact ih p (List.mem_cons_of_mem _ z)
theorem piece_end {line : Bytes} (hp : Piece line) {t r : Bytes} (h : line = (t ++ [10]) ++ r) : r = [] := by
  have := hp t.length (by rw [h, List.append_assoc, List.getElem?_append_right (Nat.le_refl _), Nat.sub_self]; rfl)
  rw [h] at this
  simp only [List.length_append, List.length_cons, List.length_nil] at this
  exact List.length_eq_zero_iff.mp (by omega)
theorem text_end (w : Wire) : ∃ t, w.text = t ++ [10] := by
  unfold Wire.text
  refine ⟨ascii (SENDS.getD w.kind "") ++ (32 :: (dec w.n ++ ((if w.kind = 5 then 32 :: dec w.m else []) ++ (ascii " > " ++ (ascii (TAKES.getD w.into "") ++ (32 :: dec w.k)))))), ?_⟩
  simp only [List.append_assoc, List.cons_append]
/-- **a line**: what the scan says of it -/
theorem line_right {line : Bytes} (hp : Piece line) : (wireForms.any fun f => isBy f line) = (wireS line ⟨0, true⟩).1.right ∧
    ((wireS line ⟨0, true⟩).1.right = false → rightTo wireForms line = (wireS line ⟨0, true⟩).1.at_) ∧
    ((wireS line ⟨0, true⟩).1.right = true → (wireOf line).ok = true ∧ (wireS line ⟨0, true⟩).2.1 = (some (wireOf line).kind, sendNums (wireOf line)) ∧ (wireS line ⟨0, true⟩).2.2 = (some (wireOf line).into, [(wireOf line).k])) := by
  have B := wire_best line
  have full : (wireS line ⟨0, true⟩).1.right = true → ∃ w : Wire, w.ok = true ∧ (wireS line ⟨0, true⟩).2.1 = (some w.kind, sendNums w) ∧ (wireS line ⟨0, true⟩).2.2 = (some w.into, [w.k]) ∧ line = w.text ∧ (wireS line ⟨0, true⟩).1.at_ = line.length := by
    intro h
    obtain ⟨w, h1, h2, h3, h4⟩ := wire_right h
    obtain ⟨t, ht⟩ := text_end w
    have e := piece_end hp (t := t) (r := line.drop (wireS line ⟨0, true⟩).1.at_) (by rw [← ht]; exact h4)
    rw [e, List.append_nil] at h4
    refine ⟨w, h1, h2, h3, h4, ?_⟩
    have z := List.drop_eq_nil_iff.mp e
    obtain ⟨f, hf, q⟩ := B.at_
    have := scanF_le f line
    omega
  refine ⟨B.isBy forms_ok fun h => ?_, fun _ => B.right forms_ok, fun h => ?_⟩
  · obtain ⟨w, _, _, _, _, h5⟩ := full h
    exact h5
  · obtain ⟨w, h1, h2, h3, h4, _⟩ := full h
    have e : wireOf line = w := by rw [h4]; exact wireOf_text h1
    rw [e]
    exact ⟨h1, h2, h3⟩
def lineOk (p : Bytes) : Bool := (wireS p ⟨0, true⟩).1.right
theorem textFault_none {b : Bytes} (hl : (pieces b).length ≤ 256) (h : ∀ p ∈ pieces b, lineOk p = true) : textFault wireForms WIRES b = none := by
  unfold textFault
  rw [Option.map_eq_none_iff, List.find?_eq_none]
  rintro ⟨p, i⟩ hx
  obtain ⟨h1, h2⟩ := List.mem_zipIdx_iff_getElem?.mp hx |> fun q => (⟨List.mem_of_getElem? q, q⟩ : p ∈ pieces b ∧ (pieces b)[i]? = some p)
  have hi : i < (pieces b).length := by
    apply Classical.byContradiction
    intro q
    rw [List.getElem?_eq_none (by omega)] at h2
    cases h2
  simp only
  rw [(line_right (pieces_piece b p h1).1).1]
  have := h p h1
  unfold lineOk at this
  rw [this]
  unfold WIRES
  rw [decide_eq_false (by omega)]
  decide
theorem textFault_some {b : Bytes} {i : Nat} {p : Bytes} (hp : (pieces b)[i]? = some p) (hi : i ≤ 256) (hb : ∀ j q, j < i → (pieces b)[j]? = some q → lineOk q = true) (h : i = 256 ∨ lineOk p = false) :
    textFault wireForms WIRES b = some (i, if 256 ≤ i then 0 else (wireS p ⟨0, true⟩).1.at_) := by
  have hil : i < (pieces b).length := by
    apply Classical.byContradiction
    intro q
    rw [List.getElem?_eq_none (by omega)] at hp
    cases hp
  have e : (pieces b).zipIdx.find? (fun (x : Bytes × Nat) => decide (WIRES ≤ x.2) || !wireForms.any fun (f : List Part) => isBy f x.1) = some (p, i) := by
    rw [List.find?_eq_some_iff_getElem]
    refine ⟨?_, i, by simpa using hil, ?_, ?_⟩
    · simp only
      rw [(line_right (pieces_piece b p (List.mem_of_getElem? hp)).1).1]
      rcases h with q | q
      · rw [q]; rfl
      · unfold lineOk at q
        rw [q]
        simp
    · rw [List.getElem_zipIdx]
      rw [List.getElem?_eq_getElem hil] at hp
      rw [Option.some.inj hp, Nat.zero_add]
    · intro j hj
      rw [List.getElem_zipIdx]
      simp only [Nat.zero_add]
      have hjl : j < (pieces b).length := by omega
      rw [(line_right (pieces_piece b _ (List.getElem_mem hjl)).1).1]
      have := hb j _ hj (List.getElem?_eq_getElem hjl)
      unfold lineOk at this
      rw [this]
      unfold WIRES
      rw [decide_eq_false (by omega)]
      rfl
  unfold textFault
  rw [e]
  show some (i, if WIRES ≤ i then 0 else rightTo wireForms p) = _
  congr 2
  unfold WIRES
  by_cases q : 256 ≤ i
  · rw [if_pos q, if_pos q]
  · rw [if_neg q, if_neg q]
    apply (line_right (pieces_piece b p (List.mem_of_getElem? hp)).1).2.1
    rcases h with z | z
    · omega
    · exact z
end CP
/-! MathG -/
namespace CP
open Pu Machines

/-! ## boxes that come to one another -/
def Edge (l : List Wire) (a b : Box) : Prop := ∃ w ∈ l, w.outOf = some a ∧ w.inTo = some b
inductive Reach (l : List Wire) : Box → Box → Prop
  | refl (a : Box) : Reach l a a
  | step {a b c : Box} : Reach l a b → Edge l b c → Reach l a c
theorem Reach.head {l : List Wire} {a b c : Box} (e : Edge l a b) (h : Reach l b c) : Reach l a c := by
  induction h with
  | refl => exact .step (.refl a) e
  | step _ e2 ih => exact .step ih e2
theorem Reach.trans {l : List Wire} {a b c : Box} (h : Reach l a b) (k : Reach l b c) : Reach l a c := by
  induction k with
  | refl => exact h
  | step _ e2 ih => exact .step ih e2
theorem sentTo_mem {l : List Wire} {bs : List Box} {y : Box} : y ∈ sentTo l bs ↔ ∃ x ∈ bs, Edge l x y := by
  unfold sentTo
  rw [List.mem_filterMap]
  constructor
  · rintro ⟨w, hw, e⟩
    cases ho : w.outOf with
    | none => rw [ho] at e; cases e
    | some a =>
      rw [ho] at e
      simp only at e
      split at e
      · rename_i q
        exact ⟨a, List.contains_iff_mem.mp q, w, hw, ho, e⟩
      · cases e
  · rintro ⟨x, hx, w, hw, ho, hi⟩
    refine ⟨w, hw, ?_⟩
    rw [ho]
    simp only
    rw [if_pos (List.contains_iff_mem.mpr hx)]
    exact hi
def newOf (l : List Wire) (bs : List Box) : List Box := (sentTo l bs).eraseDups.filter fun (b : Box) => !bs.contains b
theorem newOf_mem {l : List Wire} {bs : List Box} {y : Box} : y ∈ newOf l bs ↔ (∃ x ∈ bs, Edge l x y) ∧ y ∉ bs := by
  unfold newOf
  rw [List.mem_filter, List.mem_eraseDups, sentTo_mem]
  constructor
  · rintro ⟨h, q⟩
    refine ⟨h, fun z => ?_⟩
    rw [List.contains_iff_mem.mpr z] at q
    cases q
  · rintro ⟨h, q⟩
    refine ⟨h, ?_⟩
    cases e : bs.contains y with
    | true => exact absurd (List.contains_iff_mem.mp e) q
    | false => rfl
theorem comeTo_succ (l : List Wire) (f : Nat) (bs : List Box) : comeTo l (f + 1) bs = if newOf l bs = [] then bs else comeTo l f (bs ++ newOf l bs) := rfl
theorem comeTo_sub (l : List Wire) : ∀ (f : Nat) (bs : List Box), ∀ x ∈ bs, x ∈ comeTo l f bs
  | 0, bs, x, h => h
  | f + 1, bs, x, h => by
    rw [comeTo_succ]
    split
    · exact h
    · exact comeTo_sub l f _ x (List.mem_append_left _ h)
theorem comeTo_reach (l : List Wire) : ∀ (f : Nat) (bs : List Box), ∀ y ∈ comeTo l f bs, ∃ x ∈ bs, Reach l x y
  | 0, bs, y, h => ⟨y, h, .refl y⟩
  | f + 1, bs, y, h => by
    rw [comeTo_succ] at h
    split at h
    · exact ⟨y, h, .refl y⟩
    · obtain ⟨x, hx, r⟩ := comeTo_reach l f _ y h
      rcases List.mem_append.mp hx with q | q
      · exact ⟨x, q, r⟩
      · obtain ⟨⟨z, hz, e⟩, _⟩ := newOf_mem.mp q
        exact ⟨z, hz, r.head e⟩
def ins (l : List Wire) : List Box := l.filterMap Wire.inTo
def fresh (l : List Wire) (bs : List Box) : Nat := ((ins l).filter fun b => !bs.contains b).length
theorem filter_less {α : Type} {p q : α → Bool} : ∀ {l : List α}, (∀ x ∈ l, q x = true → p x = true) → ∀ {y : α}, y ∈ l → p y = true → q y = false → (l.filter q).length < (l.filter p).length
  | [], _, y, hy, _, _ => by cases hy
  | a :: l, h, y, hy, hp, hq => by
    have le : ∀ {l : List α}, (∀ x ∈ l, q x = true → p x = true) → (l.filter q).length ≤ (l.filter p).length := by
      intro l
      induction l with
      | nil => intro _; exact Nat.le_refl _
      | cons a l ih =>
        intro h
        have i := ih fun x hx => h x (List.mem_cons_of_mem _ hx)
        rw [List.filter_cons, List.filter_cons]
        by_cases z : q a = true
        · rw [if_pos z, if_pos (h a List.mem_cons_self z)]
          simp only [List.length_cons]; omega
        · rw [if_neg z]
          split
          · simp only [List.length_cons]; omega
          · exact i
    have h' : ∀ x ∈ l, q x = true → p x = true := fun x hx => h x (List.mem_cons_of_mem _ hx)
    rw [List.filter_cons, List.filter_cons]
    rcases List.mem_cons.mp hy with e | e
    · subst e
      rw [if_neg (by rw [hq]; exact Bool.false_ne_true), if_pos hp]
      have := le h'
      simp only [List.length_cons]; omega
    · have i := filter_less h' e hp hq
      by_cases z : q a = true
      · rw [if_pos z, if_pos (h a List.mem_cons_self z)]
        simp only [List.length_cons]; omega
      · rw [if_neg z]
        split
        · simp only [List.length_cons]; omega
        · exact i
theorem comeTo_closed (l : List Wire) : ∀ (f : Nat) (bs : List Box), fresh l bs < f → ∀ x ∈ comeTo l f bs, ∀ y, Edge l x y → y ∈ comeTo l f bs
  | 0, _, h, _, _, _, _ => absurd h (Nat.not_lt_zero _)
  | f + 1, bs, h, x, hx, y, e => by
    rw [comeTo_succ] at hx ⊢
    by_cases q : newOf l bs = []
    · rw [if_pos q] at hx ⊢
      apply Classical.byContradiction
      intro z
      have : y ∈ newOf l bs := newOf_mem.mpr ⟨⟨x, hx, e⟩, z⟩
      rw [q] at this
      cases this
    · rw [if_neg q] at hx ⊢
      refine comeTo_closed l f _ ?_ x hx y e
      obtain ⟨z, hz⟩ := List.exists_mem_of_ne_nil _ q
      obtain ⟨⟨u, hu, w, hw, ho, hi⟩, hn⟩ := newOf_mem.mp hz
      have : fresh l (bs ++ newOf l bs) < fresh l bs := by
        unfold fresh
        refine filter_less (y := z) ?_ (List.mem_filterMap.mpr ⟨w, hw, hi⟩) ?_ ?_
        · intro x _ hx
          cases e : bs.contains x with
          | false => rfl
          | true =>
            have : (bs ++ newOf l bs).contains x = true := List.contains_iff_mem.mpr (List.mem_append_left _ (List.contains_iff_mem.mp e))
            rw [this] at hx
            cases hx
        · cases e : bs.contains z with
          | false => rfl
          | true => exact absurd (List.contains_iff_mem.mp e) hn
        · have : (bs ++ newOf l bs).contains z = true := List.contains_iff_mem.mpr (List.mem_append_right _ hz)
          rw [this]; rfl
      omega
theorem come_iff {l : List Wire} (hl : l.length ≤ 256) (b a : Box) : (comeTo l 260 [b]).contains a = true ↔ Reach l b a := by
  rw [List.contains_iff_mem]
  constructor
  · intro h
    obtain ⟨x, hx, r⟩ := comeTo_reach l _ _ a h
    have : x = b := by simpa using hx
    rwa [this] at r
  · intro h
    have hf : fresh l [b] < 260 := by
      unfold fresh
      have h1 := List.length_filter_le (fun c => !([b] : List Box).contains c) (ins l)
      have h2 : (ins l).length ≤ l.length := List.length_filterMap_le _ _
      omega
    induction h with
    | refl => exact comeTo_sub l _ _ _ (by simp)
    | step _ e ih => exact comeTo_closed l 260 [b] hf _ ih _ e
theorem closes_iff {l : List Wire} (hl : l.length ≤ 256) (w : Wire) : closes l w = true ↔ ∃ a b, w.outOf = some a ∧ w.inTo = some b ∧ Reach l b a := by
  unfold closes
  cases ho : w.outOf with
  | none => simp
  | some a =>
    cases hi : w.inTo with
    | none => simp
    | some b =>
      simp only [Option.some.injEq]
      rw [come_iff hl]
      constructor
      · intro h; exact ⟨a, b, rfl, rfl, h⟩
      · rintro ⟨a', b', rfl, rfl, h⟩; exact h
/-! ## the fault of wires -/
theorem fault_some {l : List Wire} {j x : Nat} (hj : j < l.length) (hb : ∀ i, i < j → wrongAt l i = none) (h : wrongAt l j = some x) : faultIn_ l = some (j, x) := by
  unfold faultIn_
  rw [List.findSome?_eq_some_iff]
  refine ⟨List.range j, j, List.range' (j + 1) (l.length - j - 1), ?_, ?_, ?_⟩
  · rw [List.range_eq_range', List.range_eq_range', ← List.range'_succ]
    have := List.range'_append (s := 0) (m := j) (n := l.length - j) (step := 1)
    simp only [Nat.zero_add, Nat.one_mul] at this
    rw [show l.length - j - 1 + 1 = l.length - j by omega, this, show j + (l.length - j) = l.length by omega]
  · rw [h]; rfl
  · intro i hi
    rw [hb i (List.mem_range.mp hi)]; rfl
theorem fault_none {l : List Wire} (hb : ∀ i, i < l.length → wrongAt l i = none) : faultIn_ l = none := by
  unfold faultIn_
  rw [List.findSome?_eq_none_iff]
  intro i hi
  rw [hb i (List.mem_range.mp hi)]; rfl
theorem none_fault {l : List Wire} (h : faultIn_ l = none) : ∀ i, i < l.length → wrongAt l i = none := by
  intro i hi
  unfold faultIn_ at h
  rw [List.findSome?_eq_none_iff] at h
  have := h i (List.mem_range.mpr hi)
  cases e : wrongAt l i with
  | none => rfl
  | some x => rw [e] at this; cases this
def sameTo (v w : Wire) : Bool := v.into == w.into && v.k == w.k
theorem wrongAt_eq {l : List Wire} {j : Nat} {w : Wire} (h : l[j]? = some w) : wrongAt l j = if ((l.take j).any fun v => sameTo v w) = true then some 2 else if closes (l.take j) w = true then some 3 else none := by
  unfold wrongAt
  rw [h]
  rfl
/-- **A sound panel's wires**: no two to one hub, none closes a round with those before it. -/
structure Sound (l : List Wire) : Prop where
  len : l.length ≤ 256
  one : ∀ (i j : Nat) (v w : Wire), i < j → l[i]? = some v → l[j]? = some w → ¬ (v.into = w.into ∧ v.k = w.k)
  open_ : ∀ (j : Nat) (w : Wire), l[j]? = some w → closes (l.take j) w = false
theorem sound_of {l : List Wire} (hl : l.length ≤ 256) (h : faultIn_ l = none) : Sound l := by
  have h' := none_fault h
  refine ⟨hl, fun i j v w hij hv hw => ?_, fun j w hw => ?_⟩
  · have hj : j < l.length := by
      apply Classical.byContradiction; intro q
      rw [List.getElem?_eq_none (by omega)] at hw; cases hw
    have := h' j hj
    rw [wrongAt_eq hw] at this
    rintro ⟨e1, e2⟩
    rw [if_pos] at this
    · cases this
    · rw [List.any_eq_true]
      refine ⟨v, ?_, ?_⟩
      · rw [List.mem_take_iff_getElem]
        have hi : i < l.length := by omega
        rw [List.getElem?_eq_getElem hi] at hv
        exact ⟨i, by omega, Option.some.inj hv⟩
      · unfold sameTo
        rw [e1, e2, beq_self_eq_true, beq_self_eq_true]; rfl
  · have hj : j < l.length := by
      apply Classical.byContradiction; intro q
      rw [List.getElem?_eq_none (by omega)] at hw; cases hw
    have := h' j hj
    rw [wrongAt_eq hw] at this
    split at this
    · cases this
    · split at this
      · cases this
      · rename_i q
        exact Bool.eq_false_iff.mpr q
/-- one wire for a hub -/
theorem Sound.uniq {l : List Wire} (S : Sound l) {v w : Wire} (hv : v ∈ l) (hw : w ∈ l) (e1 : v.into = w.into) (e2 : v.k = w.k) : v = w := by
  obtain ⟨i, hi, rfl⟩ := List.mem_iff_getElem.mp hv
  obtain ⟨j, hj, rfl⟩ := List.mem_iff_getElem.mp hw
  rcases Nat.lt_trichotomy i j with q | q | q
  · exact absurd ⟨e1, e2⟩ (S.one i j _ _ q (List.getElem?_eq_getElem hi) (List.getElem?_eq_getElem hj))
  · subst q; rfl
  · exact absurd ⟨e1.symm, e2.symm⟩ (S.one j i _ _ q (List.getElem?_eq_getElem hj) (List.getElem?_eq_getElem hi))
theorem Sound.nodup {l : List Wire} (S : Sound l) : l.Nodup := by
  rw [List.nodup_iff_pairwise_ne, List.pairwise_iff_getElem]
  intro i j hi hj hij e
  exact S.one i j _ _ hij (List.getElem?_eq_getElem hi) (List.getElem?_eq_getElem hj) ⟨by rw [e], by rw [e]⟩
/-! ## a rank of the boxes -/
open Classical in
theorem rank_exists {l : List Wire} (S : Sound l) : ∀ j, j ≤ l.length → ∃ r : Box → Nat, ∀ a b, Edge (l.take j) a b → r a < r b
  | 0, _ => ⟨fun _ => 0, fun a b ⟨w, hw, _⟩ => by rw [List.take_zero] at hw; cases hw⟩
  | j + 1, hj => by
    obtain ⟨r, hr⟩ := rank_exists S j (by omega)
    have hjl : j < l.length := by omega
    have eq : l.take (j + 1) = l.take j ++ [l[j]] := by rw [List.take_add_one, List.getElem?_eq_getElem hjl]; rfl
    have hc := S.open_ j _ (List.getElem?_eq_getElem hjl)
    by_cases q : ∃ a b, l[j].outOf = some a ∧ l[j].inTo = some b
    · obtain ⟨a, b, ho, hi⟩ := q
      have nr : ¬ Reach (l.take j) b a := fun z => by
        have := (closes_iff (l := l.take j) (by rw [List.length_take]; have := S.len; omega) l[j]).mpr ⟨a, b, ho, hi, z⟩
        rw [hc] at this; cases this
      refine ⟨fun x => if Reach (l.take j) b x then r x + (r a + 1) else r x, ?_⟩
      rintro x y ⟨w, hw, wo, wi⟩
      rw [eq] at hw
      rcases List.mem_append.mp hw with z | z
      · have e : Edge (l.take j) x y := ⟨w, z, wo, wi⟩
        have lt := hr x y e
        by_cases p : Reach (l.take j) b x
        · simp only
          rw [if_pos p, if_pos (p.step e)]; omega
        · simp only
          rw [if_neg p]
          split <;> omega
      · have : w = l[j] := by simpa using z
        subst this
        have e1 : a = x := Option.some.inj (ho.symm.trans wo)
        have e2 : b = y := Option.some.inj (hi.symm.trans wi)
        subst e1 e2
        simp only
        rw [if_neg nr, if_pos (Reach.refl b)]; omega
    · refine ⟨r, ?_⟩
      rintro x y ⟨w, hw, wo, wi⟩
      rw [eq] at hw
      rcases List.mem_append.mp hw with z | z
      · exact hr x y ⟨w, z, wo, wi⟩
      · have : w = l[j] := by simpa using z
        subst this
        exact absurd ⟨x, y, wo, wi⟩ q
theorem Sound.rank {l : List Wire} (S : Sound l) : ∃ r : Box → Nat, ∀ a b, Edge l a b → r a < r b := by
  obtain ⟨r, h⟩ := rank_exists S l.length (Nat.le_refl _)
  rw [List.take_length] at h
  exact ⟨r, h⟩
/-! ## an order in which a panel can be run -/
def blocked (un : List Wire) (w : Wire) : Bool := match w.outOf with
  | none => false
  | some b => un.any fun u => u.inTo == some b
def passM : List Wire → List Wire → List Wire → List Wire × List Wire
  | later, ord, [] => (later, ord)
  | later, ord, w :: r => if blocked (later ++ w :: r) w = true then passM (later ++ [w]) ord r else passM later (ord ++ [w]) r
def orderM : Nat → List Wire → List Wire → List Wire
  | 0, _, ord => ord
  | f + 1, left, ord => if left = [] then ord else orderM f (passM [] ord left).1 (passM [] ord left).2
/-- each wire stands behind all that lead into the box that sends to it -/
def Topo (l ord : List Wire) : Prop := ∀ (i : Nat) (w : Wire), ord[i]? = some w → ∀ b, w.outOf = some b → ∀ u ∈ l, u.inTo = some b → u ∈ ord.take i
theorem Topo.nil (l : List Wire) : Topo l [] := fun i w h => by simp at h
theorem Topo.push {l ord : List Wire} {w : Wire} (T : Topo l ord) (h : ∀ b, w.outOf = some b → ∀ u ∈ l, u.inTo = some b → u ∈ ord) : Topo l (ord ++ [w]) := by
  intro i v hv b ho u hu hi
  by_cases q : i < ord.length
  · rw [List.getElem?_append_left q] at hv
    have := T i v hv b ho u hu hi
    rw [List.take_append_of_le_length (by omega)]
    exact this
  · have hi' : i = ord.length := by
      apply Classical.byContradiction
      intro z
      rw [List.getElem?_eq_none (by simp only [List.length_append, List.length_cons, List.length_nil]; omega)] at hv
      cases hv
    subst hi'
    rw [List.getElem?_append_right (Nat.le_refl _), Nat.sub_self] at hv
    have : w = v := by simpa using hv
    subst this
    rw [List.take_append_of_le_length (Nat.le_refl _), List.take_length]
    exact h b ho u hu hi
theorem blocked_false {un : List Wire} {w : Wire} (h : blocked un w = false) : ∀ b, w.outOf = some b → ∀ u ∈ un, u.inTo ≠ some b := by
  intro b ho u hu e
  unfold blocked at h
  rw [ho] at h
  simp only at h
  rw [List.any_eq_false] at h
  exact h u hu (by rw [e, beq_self_eq_true])
theorem blocked_of {un : List Wire} {w : Wire} (h : ∀ b, w.outOf = some b → ∀ u ∈ un, u.inTo ≠ some b) : blocked un w = false := by
  unfold blocked
  cases ho : w.outOf with
  | none => rfl
  | some b =>
    simp only
    rw [List.any_eq_false]
    intro u hu z
    exact h b ho u hu (eq_of_beq z)
theorem pass_inv {l : List Wire} : ∀ (rest later ord : List Wire), (ord ++ (later ++ rest)).Perm l → Topo l ord → ((passM later ord rest).2 ++ (passM later ord rest).1).Perm l ∧ Topo l (passM later ord rest).2 ∧ (passM later ord rest).1.length ≤ later.length + rest.length
  | [], later, ord, p, T => by
    rw [List.append_nil] at p
    exact ⟨p, T, Nat.le_refl _⟩
  | w :: r, later, ord, p, T => by
    rw [passM]
    by_cases q : blocked (later ++ w :: r) w = true
    · rw [if_pos q]
      obtain ⟨h1, h2, h3⟩ := pass_inv (l := l) r (later ++ [w]) ord (by rw [List.append_assoc]; exact p) T
      refine ⟨h1, h2, ?_⟩
      simp only [List.length_append, List.length_cons, List.length_nil] at h3 ⊢
      omega
    · rw [if_neg q]
      have nb := blocked_false (Bool.eq_false_iff.mpr q)
      have p' : ((ord ++ [w]) ++ (later ++ r)).Perm l := by
        refine List.Perm.trans ?_ p
        rw [List.append_assoc]
        exact List.Perm.append_left ord (by
          show (w :: (later ++ r)).Perm (later ++ w :: r)
          exact (List.perm_middle).symm)
      obtain ⟨h1, h2, h3⟩ := pass_inv (l := l) r later (ord ++ [w]) p' (T.push fun b ho u hu hi => by
        have := p.mem_iff.mpr hu
        rcases List.mem_append.mp this with z | z
        · exact z
        · exact absurd hi (nb b ho u z))
      refine ⟨h1, h2, ?_⟩
      simp only [List.length_cons]
      omega
/-- a wire of those left that isn't blocked is put into order -/
theorem pass_less {v : Wire} : ∀ (rest later ord left : List Wire), v ∈ rest → (∀ u ∈ later ++ rest, u ∈ left) → (∀ b, v.outOf = some b → ∀ u ∈ left, u.inTo ≠ some b) → (passM later ord rest).1.length < later.length + rest.length
  | [], _, _, _, h, _, _ => by cases h
  | w :: r, later, ord, left, h, hs, hf => by
    rw [passM]
    have lenle : ∀ (r later ord : List Wire), (passM later ord r).1.length ≤ later.length + r.length := by
      intro r
      induction r with
      | nil => intro later ord; exact Nat.le_refl _
      | cons w r ih =>
        intro later ord
        rw [passM]
        split
        · have := ih (later ++ [w]) ord
          simp only [List.length_append, List.length_cons, List.length_nil] at this ⊢
          omega
        · have := ih later (ord ++ [w])
          simp only [List.length_cons]
          omega
    by_cases q : blocked (later ++ w :: r) w = true
    · rw [if_pos q]
      rcases List.mem_cons.mp h with e | e
      · subst e
        rw [blocked_of fun b ho u hu => hf b ho u (hs u hu)] at q
        cases q
      · have := pass_less r (later ++ [w]) ord left e (fun u hu => hs u (by rw [List.append_assoc] at hu; exact hu)) hf
        simp only [List.length_append, List.length_cons, List.length_nil] at this ⊢
        omega
    · rw [if_neg q]
      have := lenle r later (ord ++ [w])
      simp only [List.length_cons]
      omega
theorem min_exists (key : Wire → Nat) : ∀ (l : List Wire), l ≠ [] → ∃ v ∈ l, ∀ u ∈ l, key v ≤ key u
  | [], h => absurd rfl h
  | [a], _ => ⟨a, List.mem_cons_self, fun u hu => by
    have : u = a := by simpa using hu
    rw [this]; exact Nat.le_refl _⟩
  | a :: b :: l, _ => by
    obtain ⟨v, hv, h⟩ := min_exists key (b :: l) (List.cons_ne_nil _ _)
    by_cases q : key a ≤ key v
    · refine ⟨a, List.mem_cons_self, fun u hu => ?_⟩
      rcases List.mem_cons.mp hu with z | z
      · rw [z]; exact Nat.le_refl _
      · exact Nat.le_trans q (h u z)
    · refine ⟨v, List.mem_cons_of_mem _ hv, fun u hu => ?_⟩
      rcases List.mem_cons.mp hu with z | z
      · rw [z]; omega
      · exact h u z
/-- among those left one is free -/
theorem free_exists {l : List Wire} (S : Sound l) {left : List Wire} (hs : ∀ u ∈ left, u ∈ l) (ne : left ≠ []) : ∃ v ∈ left, ∀ b, v.outOf = some b → ∀ u ∈ left, u.inTo ≠ some b := by
  obtain ⟨r, hr⟩ := S.rank
  obtain ⟨v, hv, h⟩ := min_exists (fun w => match w.outOf with | none => 0 | some b => r b + 1) left ne
  refine ⟨v, hv, fun b ho u hu hi => ?_⟩
  have := h u hu
  simp only [ho] at this
  cases e : u.outOf with
  | none => rw [e] at this; simp only at this; omega
  | some a =>
    rw [e] at this
    simp only at this
    have := hr a b ⟨u, hs u hu, e, hi⟩
    omega
theorem order_inv {l : List Wire} (S : Sound l) : ∀ (f : Nat) (left ord : List Wire), left.length ≤ f → (ord ++ left).Perm l → Topo l ord → (orderM f left ord).Perm l ∧ Topo l (orderM f left ord)
  | 0, left, ord, hl, p, T => by
    have : left = [] := List.length_eq_zero_iff.mp (by omega)
    rw [this, List.append_nil] at p
    exact ⟨p, T⟩
  | f + 1, left, ord, hl, p, T => by
    rw [orderM]
    by_cases q : left = []
    · rw [if_pos q]
      rw [q, List.append_nil] at p
      exact ⟨p, T⟩
    · rw [if_neg q]
      obtain ⟨h1, h2, _⟩ := pass_inv left [] ord p T
      have hs : ∀ u ∈ left, u ∈ l := fun u hu => p.mem_iff.mp (List.mem_append_right _ hu)
      obtain ⟨v, hv, hf⟩ := free_exists S hs q
      have h3 := pass_less left [] ord left hv (fun u hu => hu) hf
      simp only [List.length_nil, Nat.zero_add] at h3
      exact order_inv S f _ _ (by omega) h1 h2
def runOrder (l : List Wire) : List Wire := orderM l.length l []
theorem runOrder_inv {l : List Wire} (S : Sound l) : (runOrder l).Perm l ∧ Topo l (runOrder l) := order_inv S l.length l [] (Nat.le_refl _) (List.Perm.refl _) (Topo.nil l)
/-! ## what goes into the hubs -/
def boxAt (into k : Nat) : Option Box := if into = 1 then some (1, k) else if into = 2 then some (2, k) else if 3 ≤ into ∧ into ≤ 5 then some (3, k) else if into = 6 ∨ into = 7 then some (4, k) else none
theorem inTo_box (w : Wire) : w.inTo = boxAt w.into w.k := rfl
theorem sent_congr {x frm : List Nat} {t u : Flow} {w : Wire} (hk : w.kind ≤ 7) (h : ∀ b, w.outOf = some b → ∀ i k, boxAt i k = some b → t i k = u i k) : sent x frm t w = sent x frm u w := by
  obtain ⟨kind, n, m, into, k⟩ := w
  unfold sent
  match kind with
  | 0 => rfl
  | 1 => rfl
  | 2 => rfl
  | 3 => simp only; rw [h (1, n) rfl 1 n rfl]
  | 4 => simp only; rw [h (1, n) rfl 1 n rfl]
  | 5 => simp only; rw [h (2, n) rfl 2 n rfl]
  | 6 => simp only; rw [h (3, n) rfl 3 n rfl, h (3, n) rfl 4 n rfl, h (3, n) rfl 5 n rfl]
  | 7 => simp only; rw [h (4, n) rfl 6 n rfl, h (4, n) rfl 7 n rfl]
  | z + 8 => simp only at hk; omega
end CP
/-! MathH -/
namespace CP
open Pu Machines

def setFl (t : Flow) (i k v : Nat) : Flow := fun a b => if a = i ∧ b = k then v else t a b
def goesStep (x frm : List Nat) (t : Flow) (w : Wire) : Flow := setFl t w.into w.k (sent x frm t w)
def goesL (x frm : List Nat) (l : List Wire) : Flow := l.foldl (goesStep x frm) (fun _ _ => 0)
theorem goes_push (x frm : List Nat) (l : List Wire) (w : Wire) : goesL x frm (l ++ [w]) = goesStep x frm (goesL x frm l) w := by
  unfold goesL
  rw [List.foldl_append]; rfl
theorem goes_other {x frm : List Nat} {a c : Nat} : ∀ (s : List Wire) (t : Flow), (∀ w ∈ s, ¬ (w.into = a ∧ w.k = c)) → s.foldl (goesStep x frm) t a c = t a c
  | [], _, _ => rfl
  | w :: s, t, h => by
    rw [List.foldl_cons, goes_other s _ fun v hv => h v (List.mem_cons_of_mem _ hv)]
    unfold goesStep setFl
    rw [if_neg]
    rintro ⟨e1, e2⟩
    exact h w List.mem_cons_self ⟨e1.symm, e2.symm⟩
theorem goes_none {x frm : List Nat} {l : List Wire} {a c : Nat} (h : ∀ w ∈ l, ¬ (w.into = a ∧ w.k = c)) : goesL x frm l a c = 0 := goes_other l _ h
theorem goes_at {x frm : List Nat} {p s : List Wire} {w : Wire} (h : ∀ v ∈ s, ¬ (v.into = w.into ∧ v.k = w.k)) : goesL x frm (p ++ w :: s) w.into w.k = sent x frm (goesL x frm p) w := by
  unfold goesL
  rw [List.foldl_append, List.foldl_cons, goes_other s _ h]
  unfold goesStep setFl
  rw [if_pos ⟨rfl, rfl⟩]
/-- wires of which no two lead to one hub -/
def OneTo (l : List Wire) : Prop := ∀ (i j : Nat) (v w : Wire), i < j → l[i]? = some v → l[j]? = some w → ¬ (v.into = w.into ∧ v.k = w.k)
theorem oneTo_perm {l ord : List Wire} (S : Sound l) (p : ord.Perm l) : OneTo ord := by
  intro i j v w hij hv hw e
  have hv' : v ∈ l := p.mem_iff.mp (List.mem_of_getElem? hv)
  have hw' : w ∈ l := p.mem_iff.mp (List.mem_of_getElem? hw)
  have eq := S.uniq hv' hw' e.1 e.2
  have nd : ord.Nodup := p.nodup_iff.mpr S.nodup
  rw [List.nodup_iff_pairwise_ne, List.pairwise_iff_getElem] at nd
  have hj : j < ord.length := by
    apply Classical.byContradiction; intro q
    rw [List.getElem?_eq_none (by omega)] at hw; cases hw
  have hi : i < ord.length := by omega
  rw [List.getElem?_eq_getElem hi] at hv
  rw [List.getElem?_eq_getElem hj] at hw
  exact nd i j hi hj hij ((Option.some.inj hv).trans (eq.trans (Option.some.inj hw).symm))
theorem split_at {l : List Wire} {i : Nat} {w : Wire} (h : l[i]? = some w) : l = l.take i ++ w :: l.drop (i + 1) := by
  have hi : i < l.length := by
    apply Classical.byContradiction; intro q
    rw [List.getElem?_eq_none (by omega)] at h; cases h
  rw [List.getElem?_eq_getElem hi] at h
  rw [← Option.some.inj h, ← List.drop_eq_getElem_cons hi, List.take_append_drop]
theorem OneTo.rest {l : List Wire} (O : OneTo l) {i : Nat} {w : Wire} (h : l[i]? = some w) : ∀ v ∈ l.drop (i + 1), ¬ (v.into = w.into ∧ v.k = w.k) := by
  intro v hv e
  obtain ⟨j, hj, rfl⟩ := List.mem_iff_getElem.mp hv
  rw [List.getElem_drop] at e
  rw [List.length_drop] at hj
  exact O i (i + 1 + j) w _ (by omega) h (List.getElem?_eq_getElem (by omega)) ⟨e.1.symm, e.2.symm⟩
theorem goes_wire {x frm : List Nat} {l : List Wire} (O : OneTo l) {i : Nat} {w : Wire} (h : l[i]? = some w) : goesL x frm l w.into w.k = sent x frm (goesL x frm (l.take i)) w := by
  have := goes_at (x := x) (frm := frm) (p := l.take i) (s := l.drop (i + 1)) (w := w) (O.rest h)
  rwa [← split_at h] at this
theorem OneTo.take {l : List Wire} (O : OneTo l) (n : Nat) : OneTo (l.take n) := by
  intro i j v w hij hv hw
  rw [List.getElem?_take] at hv hw
  split at hw
  · rw [if_pos (by omega)] at hv
    exact O i j v w hij hv hw
  · cases hw
/-- what has gone in stays -/
theorem goes_stays {x frm : List Nat} {l : List Wire} (O : OneTo l) {i n : Nat} {w : Wire} (h : l[i]? = some w) (hn : i < n) : goesL x frm (l.take n) w.into w.k = goesL x frm l w.into w.k := by
  have h' : (l.take n)[i]? = some w := by rw [List.getElem?_take_of_lt hn]; exact h
  rw [goes_wire (O.take n) h', goes_wire O h, List.take_take, Nat.min_eq_left (by omega)]
/-- **the hubs' flow**: each wire carries what its hub sends by all that goes in -/
theorem goes_fix {x frm : List Nat} {l ord : List Wire} (S : Sound l) (p : ord.Perm l) (T : Topo l ord) (ok : ∀ w ∈ l, w.ok = true) {i : Nat} {w : Wire} (h : ord[i]? = some w) :
    goesL x frm ord w.into w.k = sent x frm (goesL x frm ord) w := by
  have O := oneTo_perm S p
  rw [goes_wire O h]
  have hk : w.kind ≤ 7 := by
    have := ok w (p.mem_iff.mp (List.mem_of_getElem? h))
    unfold Wire.ok at this
    simp only [Bool.and_eq_true, decide_eq_true_eq] at this
    exact this.1
  refine sent_congr hk fun b ho a c hb => ?_
  by_cases q : ∃ u ∈ l, u.into = a ∧ u.k = c
  · obtain ⟨u, hu, rfl, rfl⟩ := q
    have := T i w h b ho u hu (by rw [inTo_box]; exact hb)
    rw [List.mem_take_iff_getElem] at this
    obtain ⟨j, hj, e⟩ := this
    have hj' : ord[j]? = some u := by rw [List.getElem?_eq_getElem (by omega), e]
    exact goes_stays O hj' (by omega)
  · have n1 : ∀ u ∈ ord, ¬ (u.into = a ∧ u.k = c) := fun u hu z => q ⟨u, p.mem_iff.mp hu, z⟩
    rw [goes_none n1, goes_none fun u hu => n1 u (List.mem_of_mem_take hu)]
/-! ## the specification's flow -/
theorem okw {w : Wire} (h : w.ok = true) : w.kind ≤ 7 ∧ w.n < 256 ∧ w.m < 12 ∧ w.into ≤ 7 ∧ w.k < 256 := by
  unfold Wire.ok ROWS at h
  simp only [Bool.and_eq_true, decide_eq_true_eq] at h
  obtain ⟨h1, h2, h3, h4, h5⟩ := h
  have b1 := sendMost_le w.kind
  have b2 := takeMost_le w.into
  refine ⟨h1, by omega, ?_, h4, by omega⟩
  split at h3
  · exact of_decide_eq_true h3
  · have := eq_of_beq h3; omega
def cStep (x frm : List Nat) (t : Array Nat) (u : Array Nat) (w : Wire) : Array Nat := u.setIfInBounds (256 * w.into + w.k) (sent x frm (flowOf t) w)
theorem carried_def (l : List Wire) (x frm : List Nat) (t : Array Nat) : carried l x frm t = l.foldl (cStep x frm t) noFlow := rfl
theorem c_size {x frm : List Nat} {t : Array Nat} : ∀ (l : List Wire) (u : Array Nat), (l.foldl (cStep x frm t) u).size = u.size
  | [], _ => rfl
  | w :: l, u => by
    rw [List.foldl_cons, c_size l]
    unfold cStep
    exact Array.size_setIfInBounds
theorem c_other {x frm : List Nat} {t : Array Nat} {n : Nat} : ∀ (l : List Wire) (u : Array Nat), (∀ w ∈ l, 256 * w.into + w.k ≠ n) → (l.foldl (cStep x frm t) u).getD n 0 = u.getD n 0
  | [], _, _ => rfl
  | w :: l, u, h => by
    rw [List.foldl_cons, c_other l _ fun v hv => h v (List.mem_cons_of_mem _ hv)]
    unfold cStep
    have := h w List.mem_cons_self
    rw [Array.getD_eq_getD_getElem?, Array.getD_eq_getD_getElem?, Array.getElem?_setIfInBounds, if_neg this]
theorem noFlow_get (n : Nat) : noFlow.getD n 0 = 0 := by
  unfold noFlow
  rw [Array.getD_eq_getD_getElem?, Array.getElem?_replicate]
  split <;> rfl
theorem carried_no {l : List Wire} {x frm : List Nat} {t : Array Nat} (ok : ∀ w ∈ l, w.ok = true) {a c : Nat} (h : ∀ w ∈ l, ¬ (w.into = a ∧ w.k = c)) : flowOf (carried l x frm t) a c = 0 := by
  unfold flowOf HUBS
  by_cases q : c < 256
  · rw [if_pos q, carried_def, c_other l _ (fun w hw e => ?_), noFlow_get]
    obtain ⟨_, _, _, _, h5⟩ := okw (ok w hw)
    exact h w hw ⟨by omega, by omega⟩
  · rw [if_neg q]
theorem carried_at {l : List Wire} {x frm : List Nat} {t : Array Nat} (O : OneTo l) (ok : ∀ w ∈ l, w.ok = true) {i : Nat} {w : Wire} (h : l[i]? = some w) : flowOf (carried l x frm t) w.into w.k = sent x frm (flowOf t) w := by
  obtain ⟨_, _, _, h4, h5⟩ := okw (ok w (List.mem_of_getElem? h))
  unfold flowOf
  rw [show HUBS = 256 from rfl, if_pos h5, carried_def, split_at h, List.foldl_append, List.foldl_cons, c_other]
  · unfold cStep
    rw [Array.getD_eq_getD_getElem?, Array.getElem?_setIfInBounds, if_pos rfl, if_pos]
    · rfl
    · have := c_size (x := x) (frm := frm) (t := t) (l.take i) noFlow
      rw [show (List.foldl (fun u w => u.setIfInBounds (256 * w.into + w.k) (sent x frm (flowOf t) w)) noFlow (l.take i)) = List.foldl (cStep x frm t) noFlow (l.take i) from rfl, this]
      show _ < (Array.replicate 2048 0).size
      rw [Array.size_replicate]
      omega
  · intro v hv e
    obtain ⟨_, _, _, _, g5⟩ := okw (ok v (List.mem_of_mem_drop hv))
    exact O.rest h v hv ⟨by omega, by omega⟩
def iterC (l : List Wire) (x frm : List Nat) : Nat → Array Nat → Array Nat
  | 0, t => t
  | f + 1, t => iterC l x frm f (carried l x frm t)
theorem iterC_fix {l : List Wire} {x frm : List Nat} {t : Array Nat} (h : carried l x frm t = t) : ∀ f, iterC l x frm f t = t
  | 0 => rfl
  | f + 1 => by rw [iterC, h, iterC_fix h f]
theorem settled_iter (l : List Wire) (x frm : List Nat) : ∀ (f : Nat) (t : Array Nat), settled l x frm f t = iterC l x frm f t
  | 0, t => rfl
  | f + 1, t => by
    rw [settled, iterC]
    by_cases q : (carried l x frm t == t) = true
    · rw [if_pos q, eq_of_beq q, iterC_fix (eq_of_beq q)]
    · rw [if_neg q, settled_iter l x frm f]
theorem iterC_succ (l : List Wire) (x frm : List Nat) : ∀ (f : Nat) (t : Array Nat), iterC l x frm (f + 1) t = carried l x frm (iterC l x frm f t)
  | 0, t => rfl
  | f + 1, t => by
    rw [iterC, iterC_succ l x frm f]; rfl
theorem iter_at {x frm : List Nat} {l ord : List Wire} (S : Sound l) (p : ord.Perm l) (T : Topo l ord) (ok : ∀ w ∈ l, w.ok = true) : ∀ (n i : Nat) (w : Wire), i < n → ord[i]? = some w → ∀ j, i + 1 ≤ j → flowOf (iterC l x frm j noFlow) w.into w.k = goesL x frm ord w.into w.k
  | 0, i, _, h, _, _, _ => absurd h (Nat.not_lt_zero i)
  | n + 1, i, w, hi, h, j, hj => by
    obtain ⟨j, rfl⟩ : ∃ k, j = k + 1 := ⟨j - 1, by omega⟩
    have O := oneTo_perm S p
    have hw : w ∈ l := p.mem_iff.mp (List.mem_of_getElem? h)
    obtain ⟨m, hm, e⟩ := List.mem_iff_getElem.mp hw
    rw [iterC_succ, carried_at S.one ok (i := m) (by rw [List.getElem?_eq_getElem hm, e]), goes_fix S p T ok h]
    refine sent_congr (okw (ok w hw)).1 fun b ho a c hb => ?_
    by_cases q : ∃ u ∈ l, u.into = a ∧ u.k = c
    · obtain ⟨u, hu, rfl, rfl⟩ := q
      have := T i w h b ho u hu (by rw [inTo_box]; exact hb)
      rw [List.mem_take_iff_getElem] at this
      obtain ⟨i', hi', e'⟩ := this
      exact iter_at S p T ok n i' u (by omega) (by rw [List.getElem?_eq_getElem (by omega), e']) j (by omega)
    · have n1 : ∀ u ∈ l, ¬ (u.into = a ∧ u.k = c) := fun u hu z => q ⟨u, hu, z⟩
      rw [goes_none fun u hu => n1 u (p.mem_iff.mp hu)]
      cases j with
      | zero =>
        show flowOf noFlow a c = 0
        unfold flowOf
        split
        · exact noFlow_get _
        · rfl
      | succ j => rw [iterC_succ, carried_no ok n1]
theorem flow_is {x frm : List Nat} {l ord : List Wire} (S : Sound l) (p : ord.Perm l) (T : Topo l ord) (ok : ∀ w ∈ l, w.ok = true) (a c : Nat) : flow l x frm a c = goesL x frm ord a c := by
  unfold flow
  rw [settled_iter]
  by_cases q : ∃ u ∈ l, u.into = a ∧ u.k = c
  · obtain ⟨u, hu, rfl, rfl⟩ := q
    have hu' : u ∈ ord := p.mem_iff.mpr hu
    obtain ⟨i, hi, e⟩ := List.mem_iff_getElem.mp hu'
    refine iter_at S p T ok (i + 1) i u (by omega) (by rw [List.getElem?_eq_getElem hi, e]) _ ?_
    have := p.length_eq
    omega
  · have n1 : ∀ u ∈ l, ¬ (u.into = a ∧ u.k = c) := fun u hu z => q ⟨u, hu, z⟩
    rw [goes_none fun u hu => n1 u (p.mem_iff.mp hu), iterC_succ, carried_no ok n1]
/-! ## what's sent is holes; the program's own words for it -/
theorem sent_lt {x frm : List Nat} {t : Flow} {w : Wire} (ok : w.ok = true) (hx : ∀ k, x.getD k 0 < 4096) (hf : ∀ k, frm.getD k 0 < 4096) (ht : ∀ a c, t a c < 4096) : sent x frm t w < 4096 := by
  have h := okw ok
  unfold Wire.ok at ok
  simp only [Bool.and_eq_true, decide_eq_true_eq] at ok
  obtain ⟨kind, n, m, into, k⟩ := w
  simp only at h ok
  unfold sent
  match kind, h, ok with
  | 0, _, _ => exact hx n
  | 1, _, ok => exact code_lt ok.2.1
  | 2, _, _ => exact hf n
  | 3, _, _ => simp only; omega
  | 4, _, _ => simp only; have := ht 1 n; omega
  | 5, h, _ =>
    simp only
    split
    · exact Nat.pow_lt_pow_right (by decide) h.2.2.1
    · decide
  | 6, _, _ =>
    simp only
    split
    · exact ht 5 n
    · exact ht 4 n
  | 7, _, _ => simp only; exact Nat.or_lt_two_pow (n := 12) (ht 6 n) (ht 7 n)
  | z + 8, h, _ => omega
theorem goes_lt {x frm : List Nat} (hx : ∀ k, x.getD k 0 < 4096) (hf : ∀ k, frm.getD k 0 < 4096) : ∀ (l : List Wire) (t : Flow), (∀ w ∈ l, w.ok = true) → (∀ a c, t a c < 4096) → ∀ a c, l.foldl (goesStep x frm) t a c < 4096
  | [], _, _, ht => ht
  | w :: l, t, ok, ht => by
    rw [List.foldl_cons]
    refine goes_lt hx hf l _ (fun v hv => ok v (List.mem_cons_of_mem _ hv)) fun a c => ?_
    unfold goesStep setFl
    split
    · exact sent_lt (ok w List.mem_cons_self) hx hf ht
    · exact ht a c
theorem goesL_lt {x frm : List Nat} (hx : ∀ k, x.getD k 0 < 4096) (hf : ∀ k, frm.getD k 0 < 4096) {l : List Wire} (ok : ∀ w ∈ l, w.ok = true) (a c : Nat) : goesL x frm l a c < 4096 :=
  goes_lt hx hf l _ ok (fun _ _ => by decide) a c
def maskTab : Bool := (List.range 4096).all fun t => (t &&& 3 == t % 4) && (t &&& 4092 == t / 4 * 4)
theorem mask_all : maskTab = true := by decide +kernel
theorem mask3 {t : Nat} (h : t < 4096) : t &&& 3 = t % 4 := by
  have := List.all_eq_true.mp mask_all t (List.mem_range.mpr h)
  rw [Bool.and_eq_true] at this
  exact eq_of_beq this.1
theorem mask4092 {t : Nat} (h : t < 4096) : t &&& 4092 = t / 4 * 4 := by
  have := List.all_eq_true.mp mask_all t (List.mem_range.mpr h)
  rw [Bool.and_eq_true] at this
  exact eq_of_beq this.2
theorem mask_row (t m : Nat) : t &&& 2 ^ m = if t.testBit m = true then 2 ^ m else 0 := by
  apply Nat.eq_of_testBit_eq
  intro i
  rw [Nat.testBit_and, Nat.testBit_two_pow]
  by_cases q : m = i
  · subst q
    cases e : t.testBit m with
    | true => simp
    | false => simp
  · rw [decide_eq_false q, Bool.and_false]
    split
    · rw [Nat.testBit_two_pow, decide_eq_false q]
    · rw [Nat.zero_testBit]
def sentP (x frm : List Nat) (t : Flow) (w : Wire) : Nat := match w.kind with
  | 0 => x.getD w.n 0
  | 1 => codeM w.n
  | 2 => frm.getD w.n 0
  | 3 => t 1 w.n &&& 3
  | 4 => t 1 w.n &&& 4092
  | 5 => t 2 w.n &&& 2 ^ w.m
  | 6 => if 0 < t 3 w.n then t 5 w.n else t 4 w.n
  | _ => t 6 w.n ||| t 7 w.n
theorem sentP_is {x frm : List Nat} {t : Flow} {w : Wire} (ok : w.ok = true) (ht : ∀ a c, t a c < 4096) : sentP x frm t w = sent x frm t w := by
  unfold Wire.ok at ok
  simp only [Bool.and_eq_true, decide_eq_true_eq] at ok
  obtain ⟨kind, n, m, into, k⟩ := w
  simp only at ok
  unfold sentP sent
  match kind, ok with
  | 0, _ => rfl
  | 1, ok => exact code_eq ok.2.1
  | 2, _ => rfl
  | 3, _ => exact mask3 (ht 1 n)
  | 4, _ => exact mask4092 (ht 1 n)
  | 5, _ => exact mask_row _ _
  | 6, _ =>
    simp only
    by_cases q : t 3 n = 0
    · rw [if_neg (by omega), if_neg (by omega)]
    · rw [if_pos (by omega), if_pos (by omega)]
  | 7, _ => rfl
  | z + 8, ok => omega
end CP
/-! MathI -/
namespace CP
open Pu Machines

/-! ## boxes looked for by a heap of waiting ones -/
structure Dfs (l : List Wire) (start goal : Box) (cur : Option Box) (waiting met : List Box) : Prop where
  sub : ∀ x ∈ waiting, x ∈ met
  reach : ∀ x ∈ met, Reach l start x
  st : start ∈ met
  done : ∀ x ∈ met, x ∉ waiting → cur ≠ some x → x ≠ goal ∧ ∀ y, Edge l x y → y ∈ met
  nd : met.Nodup
  bound : ∀ x ∈ met, x = start ∨ x ∈ ins l
theorem Dfs.begin (l : List Wire) (start goal : Box) : Dfs l start goal none [start] [start] := by
  refine ⟨fun x h => h, fun x h => ?_, List.mem_cons_self, fun x h n => absurd h n, by simp, fun x h => Or.inl (by simpa using h)⟩
  have : x = start := by simpa using h
  rw [this]; exact .refl start
theorem Dfs.pop {l : List Wire} {start goal box : Box} {ws met : List Box} (D : Dfs l start goal none (ws ++ [box]) met) : Reach l start box ∧ box ∈ met ∧ Dfs l start goal (some box) ws met := by
  have hb : box ∈ met := D.sub box (by simp)
  refine ⟨D.reach box hb, hb, fun x h => D.sub x (List.mem_append_left _ h), D.reach, D.st, fun x hx hn hc => ?_, D.nd, D.bound⟩
  refine D.done x hx (fun z => ?_) (by simp)
  rcases List.mem_append.mp z with q | q
  · exact hn q
  · have : x = box := by simpa using q
    exact hc (by rw [this])
theorem Dfs.add {l : List Wire} {start goal box y : Box} {ws met : List Box} (D : Dfs l start goal (some box) ws met) (hb : box ∈ met) (e : Edge l box y) (hy : y ∉ met) : Dfs l start goal (some box) (ws ++ [y]) (met ++ [y]) := by
  refine ⟨fun x h => ?_, fun x h => ?_, List.mem_append_left _ D.st, fun x h n c => ?_, ?_, fun x h => ?_⟩
  · rcases List.mem_append.mp h with q | q
    · exact List.mem_append_left _ (D.sub x q)
    · exact List.mem_append_right _ q
  · rcases List.mem_append.mp h with q | q
    · exact D.reach x q
    · have : x = y := by simpa using q
      rw [this]; exact (D.reach box hb).step e
  · rcases List.mem_append.mp h with q | q
    · obtain ⟨h1, h2⟩ := D.done x q (fun z => n (List.mem_append_left _ z)) c
      exact ⟨h1, fun z hz => List.mem_append_left _ (h2 z hz)⟩
    · exact absurd (List.mem_append_right _ q) n
  · rw [List.nodup_append]
    refine ⟨D.nd, by simp, fun a ha b hb' e => ?_⟩
    have : b = y := by simpa using hb'
    rw [e, this] at ha
    exact hy ha
  · rcases List.mem_append.mp h with q | q
    · exact D.bound x q
    · have : x = y := by simpa using q
      obtain ⟨w, hw, _, hi⟩ := e
      right
      rw [this]
      exact List.mem_filterMap.mpr ⟨w, hw, hi⟩
theorem Dfs.close {l : List Wire} {start goal box : Box} {ws met : List Box} (D : Dfs l start goal (some box) ws met) (ng : box ≠ goal) (h : ∀ y, Edge l box y → y ∈ met) : Dfs l start goal none ws met := by
  refine ⟨D.sub, D.reach, D.st, fun x hx hn _ => ?_, D.nd, D.bound⟩
  by_cases q : x = box
  · rw [q]; exact ⟨ng, h⟩
  · exact D.done x hx hn (fun z => q (Option.some.inj z).symm)
theorem Dfs.end_ {l : List Wire} {start goal : Box} {met : List Box} (D : Dfs l start goal none [] met) : ¬ Reach l start goal := by
  have all : ∀ x, Reach l start x → x ∈ met := by
    intro x h
    induction h with
    | refl => exact D.st
    | step _ e ih => exact (D.done _ ih (by simp) (by simp)).2 _ e
  intro h
  exact (D.done goal (all goal h) (by simp) (by simp)).1 rfl
theorem nodup_len {α : Type} [DecidableEq α] : ∀ {l s : List α}, l.Nodup → (∀ x ∈ l, x ∈ s) → l.length ≤ s.length
  | [], s, _, _ => Nat.zero_le _
  | a :: l, s, nd, hs => by
    have ha : a ∈ s := hs a List.mem_cons_self
    have nd' := List.nodup_cons.mp nd
    have p := List.perm_cons_erase ha
    have i := nodup_len (l := l) (s := s.erase a) nd'.2 (fun x hx => by
      have : x ∈ a :: s.erase a := p.mem_iff.mp (hs x (List.mem_cons_of_mem _ hx))
      rcases List.mem_cons.mp this with q | q
      · subst q; exact absurd hx nd'.1
      · exact q)
    have := p.length_eq
    simp only [List.length_cons] at this ⊢
    omega
theorem Dfs.len {l : List Wire} {start goal : Box} {cur : Option Box} {ws met : List Box} (D : Dfs l start goal cur ws met) (hl : l.length ≤ 256) : met.length ≤ 257 := by
  have := nodup_len (s := start :: ins l) D.nd fun x hx => by
    rcases D.bound x hx with q | q
    · rw [q]; exact List.mem_cons_self
    · exact List.mem_cons_of_mem _ q
  have h2 : (ins l).length ≤ l.length := List.length_filterMap_le _ _
  simp only [List.length_cons] at this
  omega
/-- the boxes that one box sends to, wire by wire -/
def follow (l : List Wire) (a : Box) : List Box := l.filterMap fun w => if w.outOf = some a then w.inTo else none
theorem follow_mem {l : List Wire} {a y : Box} : y ∈ follow l a ↔ Edge l a y := by
  unfold follow
  rw [List.mem_filterMap]
  constructor
  · rintro ⟨w, hw, e⟩
    split at e
    · rename_i q
      exact ⟨w, hw, q, e⟩
    · cases e
  · rintro ⟨w, hw, ho, hi⟩
    exact ⟨w, hw, by rw [if_pos ho]; exact hi⟩
theorem follow_push (l : List Wire) (w : Wire) (a : Box) : follow (l ++ [w]) a = follow l a ++ (if w.outOf = some a then w.inTo.toList else []) := by
  unfold follow
  rw [List.filterMap_append]
  congr 1
  by_cases q : w.outOf = some a
  · rw [if_pos q]
    cases e : w.inTo with
    | none => simp [q, e]
    | some b => simp [q, e]
  · rw [if_neg q]
    simp [q]

/-! ## a list of calls read -/
def flat1 (c : List (List Int)) : List Int := match c with
  | [] => []
  | x :: rows => x ++ rows.flatMap fun r => (r.length : Int) :: r
theorem row_flat {l x s : List Int} (h : PyFlat.row l = some (x, s)) : l = (x.length : Int) :: x ++ s := by
  cases l with
  | nil => cases h
  | cons n r =>
    rw [PyFlat.row] at h
    by_cases q : 0 ≤ n ∧ n.toNat ≤ r.length
    · rw [if_pos q] at h
      have e := Option.some.inj h
      have e1 : r.take n.toNat = x := congrArg Prod.fst e
      have e2 : r.drop n.toNat = s := congrArg Prod.snd e
      rw [← e1, ← e2, List.length_take, Nat.min_eq_left q.2]
      show n :: r = ((n.toNat : Nat) : Int) :: (r.take n.toNat ++ r.drop n.toNat)
      rw [List.take_append_drop, Int.toNat_of_nonneg q.1]
    · rw [if_neg q] at h
      cases h
theorem rows_flat : ∀ (k : Nat) {l t : List Int} {xs : List (List Int)}, PyFlat.rows k l = some (xs, t) → xs.length = k ∧ l = (xs.flatMap fun r => (r.length : Int) :: r) ++ t
  | 0, l, t, xs, h => by
    have e := Option.some.inj h
    have e1 : [] = xs := congrArg Prod.fst e
    have e2 : l = t := congrArg Prod.snd e
    rw [← e1, ← e2]; exact ⟨rfl, rfl⟩
  | k + 1, l, t, xs, h => by
    rw [PyFlat.rows] at h
    cases hr : PyFlat.row l with
    | none => rw [hr] at h; cases h
    | some p =>
      obtain ⟨x, s⟩ := p
      rw [hr] at h
      simp only at h
      cases hs : PyFlat.rows k s with
      | none => rw [hs] at h; cases h
      | some q =>
        obtain ⟨ys, u⟩ := q
        rw [hs] at h
        simp only [Option.some.injEq, Prod.mk.injEq] at h
        obtain ⟨rfl, rfl⟩ := h
        obtain ⟨i1, i2⟩ := rows_flat k hs
        refine ⟨by simp [i1], ?_⟩
        rw [row_flat hr, i2, List.flatMap_cons]
        simp [List.append_assoc]
theorem call_flat {l t : List Int} {c : List (List Int)} (h : PyFlat.call PyWrpunc.shape l = some (c, t)) : l = flat1 c ++ t ∧ ∃ p xs rows n k, c = (p :: xs) :: rows ∧ PyWrpunc.shape p = some (n, k) ∧ xs.length = n ∧ rows.length = k := by
  cases l with
  | nil => cases h
  | cons p r =>
    rw [PyFlat.call] at h
    cases hs : PyWrpunc.shape p with
    | none => rw [hs] at h; cases h
    | some nk =>
      obtain ⟨n, k⟩ := nk
      rw [hs] at h
      simp only at h
      split at h
      · cases h
      · rename_i hl
        cases hr : PyFlat.rows k (r.drop n) with
        | none => rw [hr] at h; cases h
        | some q =>
          obtain ⟨xs, u⟩ := q
          rw [hr] at h
          simp only [Option.some.injEq, Prod.mk.injEq] at h
          obtain ⟨rfl, rfl⟩ := h
          obtain ⟨i1, i2⟩ := rows_flat k hr
          refine ⟨?_, p, r.take n, xs, n, k, rfl, hs, by rw [List.length_take]; omega, i1⟩
          show p :: r = (p :: r.take n) ++ (xs.flatMap fun r => (r.length : Int) :: r) ++ u
          rw [List.append_assoc, ← i2]
          show p :: r = p :: (r.take n ++ r.drop n)
          rw [List.take_append_drop]
def Shaped (c : List (List Int)) : Prop := ∃ p xs rows n k, c = (p :: xs) :: rows ∧ PyWrpunc.shape p = some (n, k) ∧ xs.length = n ∧ rows.length = k
theorem calls_flat : ∀ (f : Nat) (l : List Int) (cs : List (List (List Int))), PyFlat.calls PyWrpunc.shape f l = some cs → l = cs.flatMap flat1 ∧ ∀ c ∈ cs, Shaped c
  | f, [], cs, h => by
    have e : PyFlat.calls PyWrpunc.shape f [] = some [] := by cases f <;> rfl
    rw [e] at h
    have := Option.some.inj h
    rw [← this]
    exact ⟨rfl, fun c hc => by cases hc⟩
  | 0, _ :: _, cs, h => by cases h
  | f + 1, p :: r, cs, h => by
    rw [PyFlat.calls] at h
    cases hc : PyFlat.call PyWrpunc.shape (p :: r) with
    | none => rw [hc] at h; cases h
    | some q =>
      obtain ⟨c, t⟩ := q
      rw [hc] at h
      simp only at h
      cases ht : PyFlat.calls PyWrpunc.shape f t with
      | none => rw [ht] at h; cases h
      | some cs' =>
        rw [ht] at h
        have := Option.some.inj h
        rw [← this]
        obtain ⟨e1, e2⟩ := call_flat hc
        obtain ⟨i1, i2⟩ := calls_flat f t cs' ht
        refine ⟨?_, fun d hd => ?_⟩
        · rw [e1, i1, List.flatMap_cons]
        · rcases List.mem_cons.mp hd with z | z
          · rw [z]; exact e2
          · exact i2 d z
/-- what a call may be -/
inductive IsCall : List (List Int) → Prop
  | pass (c looked : Int) (order deck : List Int) : IsCall [[1, c, looked], order, deck]
  | follow (c n : Int) (deck : List Int) : IsCall [[2, c, n], deck]
  | collate (c e n how : Int) (a b : List Int) : IsCall [[3, c, e, n, how], a, b]
  | select (t d : List Int) : IsCall [[4], t, d]
  | setcopy (t : List Int) : IsCall [[5], t]
  | copy (r p : List Int) : IsCall [[6], r, p]
  | setwork (g t : List Int) : IsCall [[7], g, t]
  | work (x : List Int) : IsCall [[8], x]
  | counters : IsCall [[9]]
theorem len0 {α : Type} {l : List α} (h : l.length = 0) : l = [] := List.length_eq_zero_iff.mp h
theorem len1 {α : Type} {l : List α} (h : l.length = 1) : ∃ a, l = [a] := by
  match l, h with
  | [a], _ => exact ⟨a, rfl⟩
theorem len2 {α : Type} {l : List α} (h : l.length = 2) : ∃ a b, l = [a, b] := by
  match l, h with
  | [a, b], _ => exact ⟨a, b, rfl⟩
theorem len4 {α : Type} {l : List α} (h : l.length = 4) : ∃ a b c d, l = [a, b, c, d] := by
  match l, h with
  | [a, b, c, d], _ => exact ⟨a, b, c, d, rfl⟩
theorem shaped_is {c : List (List Int)} (h : Shaped c) : IsCall c := by
  obtain ⟨p, xs, rows, n, k, rfl, hs, hn, hk⟩ := h
  unfold PyWrpunc.shape at hs
  by_cases q : p = 1
  · rw [if_pos q] at hs; cases hs
    obtain ⟨a, b, rfl⟩ := len2 hn
    obtain ⟨u, v, rfl⟩ := len2 hk
    rw [q]; exact .pass a b u v
  rw [if_neg q] at hs
  by_cases q : p = 2
  · rw [if_pos q] at hs; cases hs
    obtain ⟨a, b, rfl⟩ := len2 hn
    obtain ⟨u, rfl⟩ := len1 hk
    rw [q]; exact .follow a b u
  rw [if_neg q] at hs
  by_cases q : p = 3
  · rw [if_pos q] at hs; cases hs
    obtain ⟨a, b, c, d, rfl⟩ := len4 hn
    obtain ⟨u, v, rfl⟩ := len2 hk
    rw [q]; exact .collate a b c d u v
  rw [if_neg q] at hs
  by_cases q : p = 4
  · rw [if_pos q] at hs; cases hs
    obtain rfl := len0 hn
    obtain ⟨u, v, rfl⟩ := len2 hk
    rw [q]; exact .select u v
  rw [if_neg q] at hs
  by_cases q : p = 5
  · rw [if_pos q] at hs; cases hs
    obtain rfl := len0 hn
    obtain ⟨u, rfl⟩ := len1 hk
    rw [q]; exact .setcopy u
  rw [if_neg q] at hs
  by_cases q : p = 6
  · rw [if_pos q] at hs; cases hs
    obtain rfl := len0 hn
    obtain ⟨u, v, rfl⟩ := len2 hk
    rw [q]; exact .copy u v
  rw [if_neg q] at hs
  by_cases q : p = 7
  · rw [if_pos q] at hs; cases hs
    obtain rfl := len0 hn
    obtain ⟨u, v, rfl⟩ := len2 hk
    rw [q]; exact .setwork u v
  rw [if_neg q] at hs
  by_cases q : p = 8
  · rw [if_pos q] at hs; cases hs
    obtain rfl := len0 hn
    obtain ⟨u, rfl⟩ := len1 hk
    rw [q]; exact .work u
  rw [if_neg q] at hs
  by_cases q : p = 9
  · rw [if_pos q] at hs; cases hs
    obtain rfl := len0 hn
    obtain rfl := len0 hk
    rw [q]; exact .counters
  rw [if_neg q] at hs
  cases hs
theorem whole_is {c : List (List Int)} (h : IsCall c) : PyWrpunc.whole c = c := by cases h <;> rfl
theorem whole_map : ∀ {cs : List (List (List Int))}, (∀ c ∈ cs, IsCall c) → cs.map PyWrpunc.whole = cs
  | [], _ => rfl
  | c :: cs, h => by rw [List.map_cons, whole_is (h c List.mem_cons_self), whole_map fun d hd => h d (List.mem_cons_of_mem _ hd)]
/-- a call within its bounds -/
def InB (c : List (List Int)) : Prop := PyInside.call PyWrpunc.bound c = true
/-- **What's handed in**: calls one behind another, each in its form and bounds. -/
theorem asked_is {l : List Int} (h : PyWrpunc.answers_asked l = true) : ∃ cs, l = cs.flatMap flat1 ∧ (∀ c ∈ cs, IsCall c ∧ InB c) ∧ cs.length ≤ 100 ∧ PyWrpunc.answers l = PyFlat.told (PyFlat.played MachinesNeutral.step MachinesNeutral.start cs) ∧ (PyWrpunc.answers l).length ≤ 10000000 := by
  unfold PyWrpunc.answers_asked at h
  cases hc : PyFlat.calls PyWrpunc.shape l.length l with
  | none => rw [hc] at h; cases h
  | some cs =>
    rw [hc] at h
    simp only [Bool.and_eq_true] at h
    obtain ⟨⟨⟨⟨_, h2⟩, h3⟩, _⟩, h5⟩ := h
    obtain ⟨e1, e2⟩ := calls_flat _ _ _ hc
    have ic : ∀ c ∈ cs, IsCall c := fun c hc => shaped_is (e2 c hc)
    refine ⟨cs, e1, fun c hc => ⟨ic c hc, List.all_eq_true.mp h3 c hc⟩, of_decide_eq_true h2, ?_, of_decide_eq_true h5⟩
    unfold PyWrpunc.answers PyWrpunc.calls
    rw [hc]
    simp only
    rw [whole_map ic]
end CP
/-! MathJ -/
namespace CP
open Pu Machines

/-! ## amounts read -/
/-- figures behind columns without holes, one behind another -/
def nf : Nat → Bool → List Nat → Option Nat
  | n, b, [] => if b = true then some n else none
  | n, b, h :: t => match figureOf h with
    | some d => nf (10 * n + d) true t
    | none => if (b || decide (0 < h)) = true then none else nf n b t
theorem figureOf_zero : figureOf 0 = none := by decide
theorem nf_fig {n d h : Nat} {b : Bool} {t : List Nat} (e : figureOf h = some d) : nf n b (h :: t) = nf (10 * n + d) true t := by rw [nf, e]
theorem nf_bad {n h : Nat} {b : Bool} {t : List Nat} (e : figureOf h = none) (c : (b || decide (0 < h)) = true) : nf n b (h :: t) = none := by rw [nf, e]; exact if_pos c
theorem nf_skip {n h : Nat} {b : Bool} {t : List Nat} (e : figureOf h = none) (c : (b || decide (0 < h)) = false) : nf n b (h :: t) = nf n b t := by rw [nf, e]; exact if_neg (by rw [c]; decide)
def allF (l : List Nat) : Bool := (l.map figureOf).all fun (y : Option Nat) => y.isSome
def figs (l : List Nat) : List Nat := (l.map figureOf).filterMap fun (y : Option Nat) => y
def aOk (l : List Nat) : Option Nat := if allF l = true then some (ten (figs l)) else none
theorem allF_cons (h : Nat) (t : List Nat) : allF (h :: t) = ((figureOf h).isSome && allF t) := rfl
theorem figs_some {h d : Nat} (t : List Nat) (e : figureOf h = some d) : figs (h :: t) = d :: figs t := by
  unfold figs
  rw [List.map_cons, e]; rfl
theorem nf_true : ∀ (l : List Nat) (n : Nat), nf n true l = if allF l = true then some ((figs l).foldl (fun (n d : Nat) => 10 * n + d) n) else none
  | [], n => rfl
  | h :: t, n => by
    cases e : figureOf h with
    | some d =>
      rw [nf_fig e, nf_true t, allF_cons, e, figs_some t e]; rfl
    | none =>
      rw [nf_bad e (by rfl), allF_cons, e]; rfl
theorem behind_cons (h : Nat) (t : List Nat) : behindBlanks (h :: t) = if h = 0 then behindBlanks t else h :: t := by
  unfold behindBlanks
  rw [List.dropWhile_cons]
  by_cases c : h = 0
  · rw [if_pos c, if_pos (by rw [c]; rfl)]
  · rw [if_neg c, if_neg (by simpa using c)]
theorem nf_false : ∀ (l : List Nat), nf 0 false l = if behindBlanks l = [] then none else aOk (behindBlanks l)
  | [] => rfl
  | h :: t => by
    rw [behind_cons]
    by_cases c : h = 0
    · subst c
      rw [nf_skip figureOf_zero (by decide), nf_false t, if_pos rfl]
    · rw [if_neg c, if_neg (by simp)]
      unfold aOk
      cases e : figureOf h with
      | some d =>
        rw [nf_fig e, nf_true t, allF_cons, e, figs_some t e]
        show (if allF t = true then some ((figs t).foldl _ (10 * 0 + d)) else none) = if (true && allF t) = true then some (List.foldl _ 0 (d :: figs t)) else none
        rw [List.foldl_cons, Bool.true_and]
      | none =>
        rw [nf_bad e (by simp; omega), allF_cons, e]; rfl
theorem behind_app : ∀ (l : List Nat) (x : Nat), behindBlanks (l ++ [x]) = if behindBlanks l = [] then (if x = 0 then [] else [x]) else behindBlanks l ++ [x]
  | [], x => by rw [List.nil_append, behind_cons]; rfl
  | h :: t, x => by
    rw [List.cons_append, behind_cons, behind_cons]
    by_cases c : h = 0
    · rw [if_pos c, if_pos c, behind_app t x]
    · rw [if_neg c, if_neg c, if_neg (by simp)]; rfl
/-- an amount as the program reads it -/
def readA (l : List Nat) (last : Nat) : Option Int := match nf 0 false (l ++ [last - (last &&& 2)]) with
  | none => none
  | some n => if last &&& 2 = 0 then some (n : Int) else if 0 < n then some (-(n : Int)) else none
theorem amountOf_last {l b : List Nat} {h : Nat} (e : behindBlanks l = b ++ [h]) : amountOf l = match aOk (b ++ [if h.testBit 1 = true then h - 2 else h]) with
    | none => none
    | some n => if h.testBit 1 = true then (if n = 0 then none else some (-(n : Int))) else some (n : Int) := by
  unfold amountOf
  simp only [e, List.getLast?_append, List.getLast?_singleton, Option.or_some, List.dropLast_concat, Option.some_or]
  unfold aOk allF figs
  by_cases c : (((b ++ [if h.testBit 1 = true then h - 2 else h]).map figureOf).all fun (y : Option Nat) => y.isSome) = true
  · rw [if_pos c, if_pos c]
  · rw [if_neg c, if_neg c]
theorem amountOf_nil {l : List Nat} (e : behindBlanks l = []) : amountOf l = none := by
  unfold amountOf
  simp only [e, List.getLast?_nil]
theorem aOk_zero : aOk [0] = none := by decide
theorem amount_is (l : List Nat) (last : Nat) : amountOf (l ++ [last]) = readA l last := by
  unfold readA
  rw [nf_false, behind_app, show last &&& 2 = if last.testBit 1 = true then 2 else 0 from mask_row last 1]
  have ba := behind_app l last
  cases m : last.testBit 1 with
  | false =>
    simp only [Bool.false_eq_true, if_false, Nat.sub_zero, if_true]
    by_cases c : behindBlanks l = []
    · rw [if_pos c] at ba ⊢
      by_cases z : last = 0
      · rw [if_pos z] at ba ⊢
        rw [amountOf_nil ba]; rfl
      · rw [if_neg z] at ba ⊢
        rw [if_neg (by simp), amountOf_last (b := []) ba, m]; rfl
    · rw [if_neg c] at ba ⊢
      rw [if_neg (by simp), amountOf_last ba, m]; rfl
  | true =>
    simp only [if_true]
    have nz : last ≠ 0 := fun z => by rw [z] at m; simp at m
    have b1 : behindBlanks (l ++ [last]) = behindBlanks l ++ [last] := by
      rw [ba]
      by_cases c : behindBlanks l = []
      · rw [if_pos c, if_neg nz, c]; rfl
      · rw [if_neg c]
    rw [amountOf_last b1, m]
    simp only [if_true]
    by_cases c : behindBlanks l = []
    · rw [if_pos c, c]
      by_cases z : last - 2 = 0
      · rw [if_pos z, if_pos rfl, List.nil_append, z, aOk_zero]
      · rw [if_neg z, if_neg (by simp), List.nil_append]
        cases aOk [last - 2] with
        | none => rfl
        | some n =>
          show (if n = 0 then none else some (-(n : Int))) = if 0 < n then some (-(n : Int)) else none
          by_cases q : n = 0
          · rw [if_pos q, if_neg (by omega)]
          · rw [if_neg q, if_pos (by omega)]
    · rw [if_neg c, if_neg (by simp)]
      cases aOk (behindBlanks l ++ [last - 2]) with
      | none => rfl
      | some n =>
        show (if n = 0 then none else some (-(n : Int))) = if 0 < n then some (-(n : Int)) else none
        by_cases q : n = 0
        · rw [if_pos q, if_neg (by omega)]
        · rw [if_neg q, if_pos (by omega)]
/-- how great a number of so many figures is -/
theorem figureOf_lt {h d : Nat} (e : figureOf h = some d) : d < 10 := by
  unfold figureOf at e
  exact List.mem_range.mp (List.mem_of_find?_eq_some e)
theorem nf_lt : ∀ (l : List Nat) (n m k : Nat) (b : Bool), n < 10 ^ m → nf n b l = some k → k < 10 ^ (m + l.length)
  | [], n, m, k, b, hn, h => by
    unfold nf at h
    cases b with
    | true => rw [if_pos rfl] at h; cases h; exact hn
    | false => cases h
  | h :: t, n, m, k, b, hn, e => by
    rw [List.length_cons, show m + (t.length + 1) = (m + 1) + t.length from by omega]
    have p : 10 ^ (m + 1) = 10 * 10 ^ m := by rw [Nat.pow_succ, Nat.mul_comm]
    cases f : figureOf h with
    | some d =>
      rw [nf_fig f] at e
      have := figureOf_lt f
      exact nf_lt t _ (m + 1) k true (by omega) e
    | none =>
      by_cases c : (b || decide (0 < h)) = true
      · rw [nf_bad f c] at e; cases e
      · rw [nf_skip f (by simpa using c)] at e
        exact nf_lt t n (m + 1) k b (by omega) e

/-! ## amounts written -/
theorem figuresOf_len : ∀ (n x : Nat), (figuresOf n x).length = n
  | 0, x => rfl
  | n + 1, x => by rw [figuresOf, List.length_append, figuresOf_len n]; rfl
theorem figuresOf_lt : ∀ (n x : Nat), ∀ d ∈ figuresOf n x, d < 10
  | 0, x, d, h => by cases h
  | n + 1, x, d, h => by
    rw [figuresOf, List.mem_append] at h
    rcases h with h | h
    · exact figuresOf_lt n _ d h
    · rw [List.mem_singleton.mp h]; omega
theorem figuresOf_zero : ∀ (n : Nat), figuresOf n 0 = List.replicate n 0
  | 0 => rfl
  | n + 1 => by
    rw [figuresOf, Nat.zero_div, figuresOf_zero n, List.replicate_succ']
/-- the card a field of which becomes columns -/
theorem inField_len {x : Card} {c : Nat} {l : List Nat} (h : c + l.length ≤ x.length) : (inField x c l).length = x.length := by
  unfold inField
  rw [List.length_append, List.length_append, List.length_take, List.length_drop]
  omega
theorem inField_ok {x : Card} {c : Nat} {l : List Nat} (o : COk x) (h : c + l.length ≤ 80) (hl : ∀ v ∈ l, v < 4096) : COk (inField x c l) := by
  refine ⟨by rw [inField_len (by rw [o.1]; exact h)]; exact o.1, fun v hv => ?_⟩
  unfold inField at hv
  rw [List.mem_append, List.mem_append] at hv
  rcases hv with hv | hv | hv
  · exact o.2 v (List.mem_of_mem_take hv)
  · exact hl v hv
  · exact o.2 v (List.mem_of_mem_drop hv)
theorem inField_step {x : Card} {c i : Nat} {l : List Nat} {v : Nat} (h : c + l.length ≤ x.length) (hv : l[i]? = some v) : (inField x c (l.take i)).set (c + i) v = inField x c (l.take (i + 1)) := by
  have hi : i < l.length := by
    apply Classical.byContradiction; intro z
    rw [List.getElem?_eq_none (by omega)] at hv; cases hv
  have e1 : l.take (i + 1) = l.take i ++ [v] := by rw [List.take_add_one, hv]; rfl
  have lt1 : (l.take i).length = i := by rw [List.length_take]; omega
  unfold inField
  rw [e1, List.length_append, lt1]
  have e2 : x.drop (c + i) = x[c + i]'(by omega) :: x.drop (c + i + 1) := List.drop_eq_getElem_cons (by omega)
  rw [e2, List.set_append_right _ _ (by rw [List.length_take]; omega), List.length_take, Nat.min_eq_left (by omega), Nat.add_sub_cancel_left, List.set_append_right _ _ (by omega), lt1, Nat.sub_self, List.set_cons_zero, List.append_assoc]
  rfl
theorem inField_nil (x : Card) (c : Nat) : inField x c [] = x := by
  unfold inField
  rw [List.nil_append, List.length_nil, Nat.add_zero, List.take_append_drop]
end CP
/-! MathK -/
namespace CP
open Pu Machines

/-! ## programs read -/
def nonNeg (l : List Int) : Bool := l.all fun (n : Int) => decide (0 ≤ n)
/-- a step of nine numbers -/
def step1 : List Int → Option Pu.Step
  | [a, b, c, d, e, g, h, i, x] => if nonNeg [a, b, c, d, e, g, h, i] = true ∧ (⟨a.toNat, b.toNat, c.toNat, d.toNat, e.toNat, g.toNat, h.toNat, i.toNat, x⟩ : Pu.Step).fine = true then some ⟨a.toNat, b.toNat, c.toNat, d.toNat, e.toNat, g.toNat, h.toNat, i.toNat, x⟩ else none
  | _ => none
theorem step1_nine (a b c d e g h i x : Int) : step1 [a, b, c, d, e, g, h, i, x] = if nonNeg [a, b, c, d, e, g, h, i] = true ∧ (⟨a.toNat, b.toNat, c.toNat, d.toNat, e.toNat, g.toNat, h.toNat, i.toNat, x⟩ : Pu.Step).fine = true then some ⟨a.toNat, b.toNat, c.toNat, d.toNat, e.toNat, g.toNat, h.toNat, i.toNat, x⟩ else none := rfl
def progM : Nat → List Int → Option (List Pu.Step)
  | 0, _ => some []
  | k + 1, l => match step1 (l.take 9) with
    | none => none
    | some s => (progM k (l.drop 9)).map fun r => s :: r
def fineF (p : List Pu.Step) : Option (List Pu.Step) := if p.all Pu.Step.fine = true then some p else none
theorem nine {l : List Int} (h : 9 ≤ l.length) : ∃ a b c d e g i j x r, l = a :: b :: c :: d :: e :: g :: i :: j :: x :: r := by
  match l, h with
  | a :: b :: c :: d :: e :: g :: i :: j :: x :: r, _ => exact ⟨a, b, c, d, e, g, i, j, x, r, rfl⟩
theorem stepsOf_cons (f : Nat) (a b c d e g h i x : Int) (l : List Int) : stepsOf (f + 1) (a :: b :: c :: d :: e :: g :: h :: i :: x :: l) = if nonNeg [a, b, c, d, e, g, h, i] = true then (stepsOf f l).map fun (r : List Pu.Step) => ⟨a.toNat, b.toNat, c.toNat, d.toNat, e.toNat, g.toNat, h.toNat, i.toNat, x⟩ :: r else none := rfl
theorem stepsOf_short {f : Nat} {l : List Int} (h : l.length < 9) (h0 : l ≠ []) : stepsOf f l = none := by
  match f, l, h, h0 with
  | f, [], _, z => exact absurd rfl z
  | 0, a :: l, _, _ => rfl
  | f + 1, [_], _, _ => rfl
  | f + 1, [_, _], _, _ => rfl
  | f + 1, [_, _, _], _, _ => rfl
  | f + 1, [_, _, _, _], _, _ => rfl
  | f + 1, [_, _, _, _, _], _, _ => rfl
  | f + 1, [_, _, _, _, _, _], _, _ => rfl
  | f + 1, [_, _, _, _, _, _, _], _, _ => rfl
  | f + 1, [_, _, _, _, _, _, _, _], _, _ => rfl
theorem stepsOf_bad : ∀ (f : Nat) (l : List Int), l.length % 9 ≠ 0 → stepsOf f l = none
  | 0, [], h => absurd rfl h
  | 0, _ :: _, _ => rfl
  | f + 1, l, h => by
    by_cases c : l.length < 9
    · exact stepsOf_short c (fun z => by rw [z] at h; exact h rfl)
    · obtain ⟨a, b, c', d, e, g, i, j, x, r, rfl⟩ := nine (Nat.le_of_not_lt c)
      have hr : r.length % 9 ≠ 0 := by
        simp only [List.length_cons] at h
        omega
      rw [stepsOf_cons, stepsOf_bad f r hr]
      split <;> rfl
theorem steps_is : ∀ (k f : Nat) (l : List Int), l.length = 9 * k → k ≤ f → (stepsOf f l).bind fineF = progM k l
  | 0, f, l, h, hf => by
    have : l = [] := List.length_eq_zero_iff.mp (by omega)
    subst this
    cases f <;> rfl
  | k + 1, 0, l, h, hf => by omega
  | k + 1, f + 1, l, h, hf => by
    obtain ⟨a, b, c, d, e, g, i, j, x, r, rfl⟩ := nine (l := l) (by omega)
    have ih := steps_is k f r (by simp only [List.length_cons] at h; omega) (by omega)
    rw [stepsOf_cons]
    show _ = match step1 [a, b, c, d, e, g, i, j, x] with
      | none => none
      | some s => (progM k r).map fun q => s :: q
    rw [← ih, step1_nine]
    by_cases n : nonNeg [a, b, c, d, e, g, i, j] = true
    · rw [if_pos n]
      generalize hs : (⟨a.toNat, b.toNat, c.toNat, d.toNat, e.toNat, g.toNat, i.toNat, j.toNat, x⟩ : Pu.Step) = s
      by_cases z : s.fine = true
      · rw [if_pos ⟨n, z⟩]
        cases stepsOf f r with
        | none => rfl
        | some p =>
          show fineF (s :: p) = (fineF p).map fun q => s :: q
          unfold fineF
          rw [List.all_cons, z, Bool.true_and]
          by_cases y : p.all Pu.Step.fine = true
          · rw [if_pos y, if_pos y]; rfl
          · rw [if_neg y, if_neg y]; rfl
      · rw [if_neg (fun y => z y.2)]
        cases stepsOf f r with
        | none => rfl
        | some p =>
          show fineF (s :: p) = none
          unfold fineF
          rw [List.all_cons]
          refine if_neg fun y => z ?_
          rw [Bool.and_eq_true] at y
          exact y.1
    · rw [if_neg n, if_neg (fun y => n y.1)]
      rfl
theorem stepsOf_len : ∀ (f : Nat) (l : List Int) (p : List Pu.Step), stepsOf f l = some p → l.length = 9 * p.length
  | f, [], p, h => by
    have : stepsOf f [] = some [] := by cases f <;> rfl
    rw [this] at h
    cases h; rfl
  | 0, _ :: _, p, h => by cases h
  | f + 1, a0 :: l0, p, h => by
    by_cases c : (a0 :: l0).length < 9
    · rw [stepsOf_short c (by simp)] at h; cases h
    · obtain ⟨a, b, c', d, e, g, i, j, x, r, er⟩ := nine (Nat.le_of_not_lt c)
      rw [er] at h ⊢
      rw [stepsOf_cons] at h
      split at h
      · cases q : stepsOf f r with
        | none => rw [q] at h; cases h
        | some p' =>
          rw [q] at h
          have := stepsOf_len f r p' q
          have e2 := Option.some.inj h
          rw [← e2]
          simp only [List.length_cons]
          omega
      · cases h
theorem program_bad {l : List Int} (h : l.length % 9 ≠ 0 ∨ 576 < l.length) : programOf l = none := by
  unfold programOf
  rcases h with h | h
  · rw [stepsOf_bad _ l h]; rfl
  · cases q : stepsOf l.length l with
    | none => rfl
    | some p =>
      have := stepsOf_len _ _ _ q
      exact if_neg (fun z => by have := z.1; unfold STEPS at this; omega)
theorem program_is {l : List Int} {k : Nat} (h : l.length = 9 * k) (hk : k ≤ 64) : programOf l = progM k l := by
  rw [← steps_is k l.length l h (by omega)]
  unfold programOf
  cases q : stepsOf l.length l with
  | none => rfl
  | some p =>
    have := stepsOf_len _ _ _ q
    show (if p.length ≤ STEPS ∧ p.all Pu.Step.fine = true then some p else none) = fineF p
    unfold fineF
    by_cases z : p.all Pu.Step.fine = true
    · rw [if_pos ⟨by unfold STEPS; omega, z⟩, if_pos z]
    · rw [if_neg (fun y => z y.2), if_neg z]
theorem program_ok {l : List Int} {p : List Pu.Step} (h : programOf l = some p) : p.length ≤ 64 ∧ ∀ t ∈ p, t.fine = true := by
  unfold programOf at h
  cases q : stepsOf l.length l with
  | none => rw [q] at h; cases h
  | some p' =>
    rw [q] at h
    have h : (if p'.length ≤ STEPS ∧ p'.all Pu.Step.fine = true then some p' else none) = some p := h
    by_cases z : p'.length ≤ STEPS ∧ p'.all Pu.Step.fine = true
    · rw [if_pos z] at h
      cases h
      exact ⟨z.1, List.all_eq_true.mp z.2⟩
    · rw [if_neg z] at h; cases h
theorem progM_none {k : Nat} {l : List Int} (h : step1 (l.take 9) = none) : progM (k + 1) l = none := by rw [progM, h]
theorem progM_some {k : Nat} {l : List Int} {s : Pu.Step} (h : step1 (l.take 9) = some s) : progM (k + 1) l = (progM k (l.drop 9)).map fun r => s :: r := by rw [progM, h]

/-! ## what a fine step is -/
structure FineS (t : Pu.Step) : Prop where
  op : t.op ≤ 10
  wh : t.when_ ≤ 5
  hub : t.hub ≤ 255
  k : t.k ≤ 15
  j : t.j ≤ 15
  fld : t.op = 0 ∨ t.op = 9 → 1 ≤ t.n ∧ t.n ≤ 18 ∧ t.c + t.n ≤ 80
  s15 : t.op = 4 ∨ t.op = 7 ∨ t.op = 8 → t.s ≤ 15
  s64 : t.op = 10 → t.s ≤ 64
  x : t.op = 5 → -2147483648 ≤ t.x ∧ t.x ≤ 2147483647
theorem fine_is {t : Pu.Step} (h : t.fine = true) : FineS t := by
  unfold Pu.Step.fine at h
  simp only [Bool.and_eq_true, decide_eq_true_eq, beq_iff_eq] at h
  obtain ⟨h1, h2, h3, h4, h5, h6, h7, h8⟩ := h
  refine ⟨h1, h2, ?_, ?_, ?_, ?_, ?_, ?_, ?_⟩
  · unfold HUBS at h3
    split at h3
    · have := of_decide_eq_true h3; omega
    · have : t.hub = 0 := by simpa using h3
      omega
  · split at h4
    · have : t.k = 0 := by simpa using h4
      omega
    · simpa using h4
  · split at h5
    · simpa using h5
    · have : t.j = 0 := by simpa using h5
      omega
  · intro c
    rw [if_pos c] at h6
    unfold isField COLUMNS MOSTFIGURES at h6
    simp only [Bool.and_eq_true, decide_eq_true_eq] at h6
    omega
  · intro c
    rw [if_pos c] at h7
    simpa using h7
  · intro c
    rw [if_neg (by omega), if_pos c] at h7
    simpa using h7
  · intro c
    rw [if_pos c] at h8
    unfold XMOST at h8
    simp only [Bool.and_eq_true, decide_eq_true_eq] at h8
    omega

/-! ## counters -/
structure ZOk (z : Counters) : Prop where
  len : z.length = 16
  lt : ∀ v ∈ z, v.natAbs < 10000000000000000
theorem ZOk.ctr {z : Counters} (o : ZOk z) (k : Nat) : (Pu.ctr z k).natAbs < 10000000000000000 := by
  unfold Pu.ctr
  rw [List.getD_eq_getElem?_getD]
  by_cases q : k < z.length
  · rw [List.getElem?_eq_getElem q]
    exact o.lt _ (List.getElem_mem q)
  · rw [List.getElem?_eq_none (by omega)]
    decide
theorem ZOk.at_ {z : Counters} (o : ZOk z) {k : Nat} (h : k ≤ 15) : z[k]? = some (Pu.ctr z k) := by
  unfold Pu.ctr
  rw [List.getD_eq_getElem?_getD, List.getElem?_eq_getElem (by rw [o.len]; omega)]
  rfl
theorem ZOk.set {z : Counters} (o : ZOk z) (k : Nat) {v : Int} (h : v.natAbs < 10000000000000000) : ZOk (z.set k v) :=
  ⟨by rw [List.length_set]; exact o.len, fun w hw => by
    rcases List.mem_or_eq_of_mem_set hw with q | q
    · exact o.lt w q
    · rw [q]; exact h⟩
theorem fits_iff {v : Int} : fits16 v = true ↔ v.natAbs < 10000000000000000 := by
  unfold fits16 LIMIT
  rw [decide_eq_true_eq]
theorem setTo_ok {z : Counters} {k : Nat} {v : Int} (h : v.natAbs < 10000000000000000) : setTo z k v = .ok (z.set k v) := by
  unfold setTo
  rw [if_pos (fits_iff.mpr h)]
theorem setTo_bad {z : Counters} {k : Nat} {v : Int} (h : ¬ v.natAbs < 10000000000000000) : setTo z k v = .error 2 := by
  unfold setTo
  rw [if_neg (fun q => h (fits_iff.mp q))]
theorem quot_le (a b : Int) : (quotient a b).natAbs ≤ a.natAbs := by
  have : a.natAbs / b.natAbs ≤ a.natAbs := Nat.div_le_self _ _
  unfold quotient
  split
  · rw [Int.natAbs_natCast]; exact this
  · rw [Int.natAbs_neg, Int.natAbs_natCast]; exact this
theorem left_le (a b : Int) : (left_ a b).natAbs ≤ a.natAbs := by
  have : a.natAbs % b.natAbs ≤ a.natAbs := Nat.mod_le _ _
  unfold left_
  split
  · rw [Int.natAbs_neg, Int.natAbs_natCast]; exact this
  · rw [Int.natAbs_natCast]; exact this
theorem rest_is (a b : Int) : a - quotient a b * b = left_ a b := by
  have h := Nat.div_add_mod a.natAbs b.natAbs
  have h' : (b.natAbs : Int) * ((a.natAbs / b.natAbs : Nat) : Int) + ((a.natAbs % b.natAbs : Nat) : Int) = (a.natAbs : Int) := by exact_mod_cast h
  unfold quotient left_
  generalize ((a.natAbs / b.natAbs : Nat) : Int) = q at *
  generalize ((a.natAbs % b.natAbs : Nat) : Int) = r at *
  by_cases ha : a < 0
  · by_cases hb : b < 0
    · have e1 : (b.natAbs : Int) = -b := by omega
      have e2 : (a.natAbs : Int) = -a := by omega
      rw [e1, e2, Int.neg_mul, Int.mul_comm] at h'
      rw [decide_eq_true ha, decide_eq_true hb, if_pos (by rfl), if_pos ha]
      generalize q * b = m at *
      omega
    · have e1 : (b.natAbs : Int) = b := by omega
      have e2 : (a.natAbs : Int) = -a := by omega
      rw [e1, e2, Int.mul_comm] at h'
      rw [decide_eq_true ha, decide_eq_false hb, if_neg (by decide), if_pos ha, Int.neg_mul]
      generalize q * b = m at *
      omega
  · by_cases hb : b < 0
    · have e1 : (b.natAbs : Int) = -b := by omega
      have e2 : (a.natAbs : Int) = a := by omega
      rw [e1, e2, Int.neg_mul, Int.mul_comm] at h'
      rw [decide_eq_false ha, decide_eq_true hb, if_neg (by decide), if_neg ha, Int.neg_mul]
      generalize q * b = m at *
      omega
    · have e1 : (b.natAbs : Int) = b := by omega
      have e2 : (a.natAbs : Int) = a := by omega
      rw [e1, e2, Int.mul_comm] at h'
      rw [decide_eq_false ha, decide_eq_false hb, if_pos (by rfl), if_neg ha]
      generalize q * b = m at *
      omega
theorem nearest_le (v : Int) {d : Nat} (h : 0 < d) : (nearest v d).natAbs ≤ v.natAbs := by
  have : (2 * v.natAbs + d) / (2 * d) ≤ v.natAbs := by
    refine Nat.le_of_lt_succ ((Nat.div_lt_iff_lt_mul (by omega)).mpr ?_)
    have : v.natAbs * 1 ≤ v.natAbs * d := Nat.mul_le_mul_left _ h
    generalize v.natAbs = a at *
    have e : a.succ * (2 * d) = 2 * (a * d) + 2 * d := by rw [Nat.succ_mul, Nat.mul_left_comm]
    rw [e]
    omega
  unfold nearest
  split
  · rw [Int.natAbs_neg, Int.natAbs_natCast]; exact this
  · rw [Int.natAbs_natCast]; exact this

/-! ## what's written -/
def figL (n : Nat) (x : Int) : List Nat := (figuresOf n x.natAbs).map figure
def putL (n : Nat) (x : Int) : List Nat := if x < 0 then (figL n x).dropLast ++ [(figL n x).getLastD 0 + 2] else figL n x
theorem put_none {n : Nat} {x : Int} (h : 10 ^ n ≤ x.natAbs) : put n x = none := by
  unfold put
  exact if_pos h
theorem put_some {n : Nat} {x : Int} (h : ¬ 10 ^ n ≤ x.natAbs) : put n x = some (putL n x) := by
  unfold put
  exact if_neg h
theorem figL_len (n : Nat) (x : Int) : (figL n x).length = n := by unfold figL; rw [List.length_map, figuresOf_len]
theorem figure_lt {d : Nat} (h : d < 10) : figure d < 4094 := by
  match d, h with
  | 0, _ | 1, _ | 2, _ | 3, _ | 4, _ | 5, _ | 6, _ | 7, _ | 8, _ | 9, _ => decide
theorem figure_or {d : Nat} (h : d < 10) : figure d ||| 2 = figure d + 2 := by
  match d, h with
  | 0, _ | 1, _ | 2, _ | 3, _ | 4, _ | 5, _ | 6, _ | 7, _ | 8, _ | 9, _ => decide
theorem figL_mem {n : Nat} {x : Int} {v : Nat} (h : v ∈ figL n x) : ∃ d, d < 10 ∧ v = figure d := by
  unfold figL at h
  obtain ⟨d, hd, e⟩ := List.mem_map.mp h
  exact ⟨d, figuresOf_lt _ _ d hd, e.symm⟩
theorem putL_len {n : Nat} (x : Int) (h : 1 ≤ n) : (putL n x).length = n := by
  unfold putL
  split
  · rw [List.length_append, List.length_dropLast, figL_len]
    show n - 1 + 1 = n
    omega
  · exact figL_len n x
theorem figL_last {n : Nat} (x : Int) (h : 1 ≤ n) : ∃ d, d < 10 ∧ (figL n x)[n - 1]? = some (figure d) ∧ (figL n x).getLastD 0 = figure d := by
  have hl := figL_len n x
  have hm : (figL n x)[n - 1]? = some ((figL n x)[n - 1]'(by omega)) := List.getElem?_eq_getElem _
  obtain ⟨d, hd, e⟩ := figL_mem (List.getElem_mem (l := figL n x) (n := n - 1) (by omega))
  refine ⟨d, hd, by rw [hm, e], ?_⟩
  rw [List.getLastD_eq_getLast?, List.getLast?_eq_getElem?, hl, hm, e]
  rfl
theorem putL_set {n : Nat} {x : Int} (h : 1 ≤ n) (hx : x < 0) {v : Nat} (hv : (figL n x)[n - 1]? = some v) : (figL n x).set (n - 1) (v ||| 2) = putL n x := by
  obtain ⟨d, hd, e1, e2⟩ := figL_last x h
  rw [e1] at hv
  have := Option.some.inj hv
  subst this
  unfold putL
  rw [if_pos hx, e2, figure_or hd]
  have hl := figL_len n x
  generalize figL n x = l at *
  apply List.ext_getElem?
  intro i
  rw [List.getElem?_set, List.getElem?_append, List.length_dropLast, hl]
  by_cases c : n - 1 = i
  · subst c
    rw [if_pos rfl, if_pos (by omega), if_neg (by omega), Nat.sub_self]; rfl
  · rw [if_neg c]
    by_cases c2 : i < n - 1
    · rw [if_pos c2, List.getElem?_dropLast, if_pos (by omega)]
    · rw [if_neg c2, List.getElem?_eq_none (by omega), List.getElem?_eq_none (by simp; omega)]
theorem putL_lt {n : Nat} {x : Int} (h : 1 ≤ n) : ∀ v ∈ putL n x, v < 4096 := by
  intro v hv
  unfold putL at hv
  split at hv
  · rcases List.mem_append.mp hv with q | q
    · obtain ⟨d, hd, e⟩ := figL_mem (List.dropLast_subset _ q)
      have := figure_lt hd
      omega
    · obtain ⟨d, hd, _, e2⟩ := figL_last x h
      rw [e2] at q
      have := figure_lt hd
      rw [List.mem_singleton.mp q]
      omega
  · obtain ⟨d, hd, e⟩ := figL_mem hv
    have := figure_lt hd
    omega

/-! ## the program for a card -/
theorem done_ok {t : Pu.Step} {x : Card} {z : Counters} {y : Card × Counters} (f : FineS t) (ox : COk x) (oz : ZOk z) (h : doneStep t x z = .ok y) : COk y.1 ∧ ZOk y.2 := by
  have st : ∀ v : Int, ((setTo z t.k v).map fun (w : Counters) => (x, w)) = .ok y → COk y.1 ∧ ZOk y.2 := by
    intro v q
    by_cases c : v.natAbs < 10000000000000000
    · rw [setTo_ok c] at q
      injection q with q
      rw [← q]
      exact ⟨ox, oz.set _ c⟩
    · rw [setTo_bad c] at q
      cases q
  unfold doneStep at h
  simp only at h
  split at h
  · split at h
    · cases h
    · exact st _ h
  · exact st _ h
  · exact st _ h
  · exact st _ h
  · split at h
    · cases h
    · injection h with h
      rw [← h]
      exact ⟨ox, (oz.set _ (Nat.lt_of_le_of_lt (quot_le _ _) (oz.ctr _))).set _ (Nat.lt_of_le_of_lt (left_le _ _) (oz.ctr _))⟩
  · rename_i e
    injection h with h
    rw [← h]
    have := f.x e
    exact ⟨ox, oz.set _ (by omega)⟩
  · injection h with h
    rw [← h]
    exact ⟨ox, oz.set _ (oz.ctr _)⟩
  · injection h with h
    rw [← h]
    exact ⟨ox, oz.set _ (Nat.lt_of_le_of_lt (nearest_le _ (Nat.pow_pos (by decide))) (oz.ctr _))⟩
  · exact st _ h
  · rename_i e
    have fl := f.fld (.inr e)
    split at h
    · cases h
    · rename_i l hl
      injection h with h
      rw [← h]
      by_cases c : 10 ^ t.n ≤ (ctr z t.k).natAbs
      · rw [put_none c] at hl; cases hl
      · rw [put_some c] at hl
        cases hl
        exact ⟨inField_ok ox (by rw [putL_len _ fl.1]; exact fl.2.2) (putL_lt fl.1), oz⟩
  · injection h with h
    rw [← h]
    exact ⟨ox, oz⟩
theorem run_skip (g : Nat → Nat) : ∀ (s i : Nat) (l : List Pu.Step) (x : Card) (z : Counters), runSteps g i s l x z = runSteps g (i + s) 0 (l.drop s) x z
  | 0, i, l, x, z => rfl
  | s + 1, i, [], x, z => rfl
  | s + 1, i, t :: r, x, z => by
    show runSteps g (i + 1) s r x z = runSteps g (i + (s + 1)) 0 (r.drop s) x z
    rw [run_skip g s (i + 1) r x z, show i + 1 + s = i + (s + 1) from by omega]
theorem run_not {g : Nat → Nat} {i : Nat} {t : Pu.Step} {r : List Pu.Step} {x : Card} {z : Counters} (h : isDone t z g = false) : runSteps g i 0 (t :: r) x z = runSteps g (i + 1) 0 r x z := if_pos h
theorem run_err {g : Nat → Nat} {i w : Nat} {t : Pu.Step} {r : List Pu.Step} {x : Card} {z : Counters} (h : isDone t z g = true) (e : doneStep t x z = .error w) : runSteps g i 0 (t :: r) x z = .error (w, i) := by
  unfold runSteps
  rw [if_neg (by rw [h]; decide), e]
theorem run_ok {g : Nat → Nat} {i : Nat} {t : Pu.Step} {r : List Pu.Step} {x : Card} {z : Counters} {y : Card × Counters} (h : isDone t z g = true) (e : doneStep t x z = .ok y) : runSteps g i 0 (t :: r) x z = runSteps g (i + 1 + (if t.op = 10 then t.s else 0)) 0 (r.drop (if t.op = 10 then t.s else 0)) y.1 y.2 := by
  rw [← run_skip]
  conv => lhs; unfold runSteps
  rw [if_neg (by rw [h]; decide), e]
theorem done_ten {t : Pu.Step} {x : Card} {z : Counters} (h : t.op = 10) : doneStep t x z = .ok (x, z) := by
  unfold doneStep
  rw [h]
  rfl
theorem begun_ok {kept : List Int} (l : kept.length = 8) (h : ∀ v ∈ kept, v.natAbs < 10000000000000000) : ZOk (begun kept) := by
  unfold begun
  refine ⟨by rw [List.length_append, List.length_replicate, l], fun v hv => ?_⟩
  rcases List.mem_append.mp hv with q | q
  · rw [(List.mem_replicate.mp q).2]; decide
  · exact h v q

/-! ## the reproducing punch -/
theorem sentBy_getD {q p : Card} (hq : COk q) (hp : COk p) (k : Nat) : (q ++ p ++ List.replicate 96 0).getD k 0 = (sentBy q p).getD k 0 := by
  have lq := hq.1
  have lp := hp.1
  unfold sentBy HUBS COLUMNS
  simp only [List.getD_eq_getElem?_getD, List.getElem?_append, List.length_append, lq, lp, List.getElem?_map, List.getElem?_replicate]
  by_cases h0 : k < 256
  · rw [List.getElem?_range h0]
    simp only [Option.map_some, Option.getD_some]
    by_cases h1 : k < 80
    · rw [if_pos (by omega), if_pos h1, if_pos h1]
    · rw [if_neg h1, if_neg h1]
      by_cases h2 : k < 160
      · rw [if_pos (by omega), if_pos (by omega)]
      · rw [if_neg (show ¬ k < 80 + 80 by omega), if_neg (show ¬ k < 2 * 80 by omega)]; split <;> rfl
  · rw [if_neg (by omega), if_neg (by omega), List.getElem?_eq_none (by rw [List.length_range]; omega)]; rfl
theorem becomes_ok {p : Card} {g : Nat → Nat} (op : COk p) (hg : ∀ k, g k < 4096) : COk (becomes p g) := by
  unfold becomes
  refine ⟨by rw [List.length_map, List.length_range]; rfl, fun v hv => ?_⟩
  obtain ⟨k, hk, rfl⟩ := List.mem_map.mp hv
  have : p.getD k 0 < 4096 := by
    rw [List.getD_eq_getElem?_getD]
    by_cases c : k < p.length
    · rw [List.getElem?_eq_getElem c]; exact op.2 _ (List.getElem_mem c)
    · rw [List.getElem?_eq_none (by omega)]; decide
  exact Nat.or_lt_two_pow (n := 12) this (hg k)
end CP
/-! HBase -/
namespace CP
open PySem PySem.Spec PyProof.Rows L2
/-- a def as its callers want it -/
structure Dcl (P : Program) (w : World) (K : PySem.W.Frag) (mg : Str → Option Value) (base : Heap) (k : Nat) (name : Str) (ps : List Str) (sp : Sp) where
  f : Addr
  fd : FuncData
  ok : FnOk P w K mg base CX0 k f fd ps sp
  g : mg name = some (.ref f)
  kp : PySem.W.keepIn K (.ref f) = true
  b : Binds K fd ps []
theorem pe_gint {X : Cx} {x : Str} {i : Int} {pos : Pos} (hg : Gl X x) (h : ∃ t, X.mg x = some (.int i t)) (hd : (x == ("__debug__" : Str)) = false := by decide) : PE X (.Name x pos) (tC (.int i)) := by
  obtain ⟨t, h⟩ := h
  exact pe_glob hg h ⟨_, rfl⟩ hd
theorem pe_gref {X : Cx} {x : Str} {a : Addr} {pos : Pos} (hg : Gl X x) (h : X.mg x = some (.ref a)) (hd : (x == ("__debug__" : Str)) = false := by decide) : PE X (.Name x pos) (tC (.ref a)) :=
  pe_glob hg h (show L2.RelV (.ref a) (.ref a) from rfl) hd
theorem qint {Q : VK} {H : Hp} {a b : Int} (q : Q (.int a) H) (e : a = b) : Q (.int b) H := e ▸ q
theorem qbl {Q : VK} {H : Hp} {a b : Bool} (q : Q (.bl a) H) (e : a = b) : Q (.bl b) H := e ▸ q
theorem bor_nat (a b : Nat) : Builtin.bitOr (a : Int) (b : Int) = ((a ||| b : Nat) : Int) := by
  rw [Bits.bitOr_pp (Int.natCast_nonneg a) (Int.natCast_nonneg b), Int.toNat_natCast, Int.toNat_natCast]
theorem band_nat (a b : Nat) : Builtin.bitAnd (a : Int) (b : Int) = ((a &&& b : Nat) : Int) := by
  rw [bitAnd_pp (Int.natCast_nonneg a) (Int.natCast_nonneg b), Int.toNat_natCast, Int.toNat_natCast]
theorem ift {c : Bool} {A B : Prop} (hc : c = true) (h : A) : if c = true then A else B := by
  rw [if_pos hc]
  exact h
theorem iff_ {c : Bool} {A B : Prop} (hc : c = false) (h : B) : if c = true then A else B := by
  rw [hc, if_neg Bool.false_ne_true]
  exact h
theorem same_upd {H : Hp} {p : Addr} {o : HO} (h : H p = none) : Same H (upd H p o) := fun b x e => by
  rw [upd_ne (ne_of_none e h)]
  exact e
/-- what's new to H may change -/
theorem Same.mut {H H' : Hp} {p : Addr} {o : HO} (e : Same H H') (h : H p = none) : Same H (upd H' p o) := fun b x q => by
  rw [upd_ne (ne_of_none q h)]
  exact e b x q
/-! ### the data in the heap -/
def vN (n : Nat) : V := .int (n : Int)
def vB (c : UInt8) : V := .int (c.toNat : Int)
/-- a card, to be read -/
def CardAt (K : PySem.W.Frag) (H : Hp) (a : Addr) (x : Pu.Card) : Prop := H a = some (.lst (x.map vN))
/-- cards at addresses -/
inductive CardsAt (H : Hp) : List Addr → Pu.Deck → Prop
  | nil : CardsAt H [] []
  | cons {a : Addr} {x : Pu.Card} {as : List Addr} {d : Pu.Deck} : H a = some (.lst (x.map vN)) → CardsAt H as d → CardsAt H (a :: as) (x :: d)
/-- a deck: a list of cards' addresses -/
def DeckAt (H : Hp) (a : Addr) (d : Pu.Deck) : Prop := ∃ as, H a = some (.lst (as.map V.ref)) ∧ CardsAt H as d
theorem CardsAt.len {H : Hp} {as : List Addr} {d : Pu.Deck} (h : CardsAt H as d) : as.length = d.length := by
  induction h with
  | nil => rfl
  | cons _ _ ih => simp only [List.length_cons, ih]
theorem CardsAt.same {H H' : Hp} {as : List Addr} {d : Pu.Deck} (h : CardsAt H as d) (s : Same H H') : CardsAt H' as d := by
  induction h with
  | nil => exact .nil
  | cons e _ ih => exact .cons (s _ _ e) ih
theorem DeckAt.same {H H' : Hp} {a : Addr} {d : Pu.Deck} (h : DeckAt H a d) (s : Same H H') : DeckAt H' a d := by
  obtain ⟨as, e, c⟩ := h
  exact ⟨as, s _ _ e, c.same s⟩
theorem CardsAt.get {H : Hp} : ∀ {as : List Addr} {d : Pu.Deck} {i : Nat} {x : Pu.Card}, CardsAt H as d → d[i]? = some x → ∃ a, as[i]? = some a ∧ H a = some (.lst (x.map vN))
  | _, _, i, x, .nil, h => by simp at h
  | _, _, 0, x, .cons (a := a) e _, h => by
    have : _ = x := Option.some.inj h
    subst this
    exact ⟨a, rfl, e⟩
  | _, _, i + 1, x, .cons _ t, h => CardsAt.get (i := i) t h
theorem CardsAt.append {H : Hp} {as bs : List Addr} {d e : Pu.Deck} (h : CardsAt H as d) (k : CardsAt H bs e) : CardsAt H (as ++ bs) (d ++ e) := by
  induction h with
  | nil => exact k
  | cons q _ ih => exact .cons q ih
theorem CardsAt.take {H : Hp} {as : List Addr} {d : Pu.Deck} (h : CardsAt H as d) : ∀ n, CardsAt H (as.take n) (d.take n) := by
  induction h with
  | nil => intro n; rw [List.take_nil, List.take_nil]; exact .nil
  | cons q _ ih =>
    intro n
    cases n with
    | zero => exact .nil
    | succ n => exact .cons q (ih n)
theorem CardsAt.drop {H : Hp} {as : List Addr} {d : Pu.Deck} (h : CardsAt H as d) : ∀ n, CardsAt H (as.drop n) (d.drop n) := by
  induction h with
  | nil => intro n; rw [List.drop_nil, List.drop_nil]; exact .nil
  | cons q t ih =>
    intro n
    cases n with
    | zero => exact .cons q t
    | succ n => exact ih n
theorem COk.ne {x : Pu.Card} (o : COk x) : x ≠ [] := fun e => by rw [e] at o; cases o.1
theorem row_ne {H : Hp} {a p : Addr} {x : List Nat} {bs : List Addr} (ha : H a = some (.lst (x.map vN))) (ox : x ≠ []) (hp : H p = some (.lst (bs.map V.ref))) : a ≠ p := by
  intro e
  subst e
  rw [ha] at hp
  have e := HO.lst.inj (Option.some.inj hp)
  obtain ⟨h, t, rfl⟩ : ∃ h t, x = h :: t := by
    cases x with
    | nil => exact absurd rfl ox
    | cons h t => exact ⟨h, t, rfl⟩
  cases bs with
  | nil => cases e
  | cons b bs =>
    rw [List.map_cons, List.map_cons] at e
    have := (List.cons.inj e).1
    cases this
theorem card_ne {H : Hp} {a p : Addr} {x : Pu.Card} {bs : List Addr} (ha : H a = some (.lst (x.map vN))) (ox : COk x) (hp : H p = some (.lst (bs.map V.ref))) : a ≠ p := row_ne ha ox.ne hp
/-- a list of references changes: the rows stand -/
theorem CardsAt.updN {H : Hp} {as : List Addr} {d : List (List Nat)} {p : Addr} {o : HO} {bs : List Addr} (h : CardsAt H as d) (od : ∀ x ∈ d, x ≠ []) (hp : H p = some (.lst (bs.map V.ref))) : CardsAt (L2.upd H p o) as d := by
  induction h with
  | nil => exact .nil
  | cons e _ ih =>
    refine .cons ?_ (ih fun x hx => od x (List.mem_cons_of_mem _ hx))
    rw [upd_ne (row_ne e (od _ List.mem_cons_self) hp)]
    exact e
/-- another object changes -/
theorem CardsAt.updO {H : Hp} {as : List Addr} {d : List (List Nat)} {p : Addr} {o : HO} (h : CardsAt H as d) (hp : p ∉ as) : CardsAt (L2.upd H p o) as d := by
  induction h with
  | nil => exact .nil
  | cons e _ ih =>
    refine .cons ?_ (ih fun z => hp (List.mem_cons_of_mem _ z))
    rw [upd_ne (fun z => hp (by rw [← z]; exact List.mem_cons_self))]
    exact e
/-- a list of references changes: the cards stand -/
theorem CardsAt.upd {H : Hp} {as : List Addr} {d : Pu.Deck} {p : Addr} {o : HO} {bs : List Addr} (h : CardsAt H as d) (od : DOk d) (hp : H p = some (.lst (bs.map V.ref))) : CardsAt (L2.upd H p o) as d := by
  induction h with
  | nil => exact .nil
  | cons e _ ih =>
    refine .cons ?_ (ih fun x hx => od x (List.mem_cons_of_mem _ hx))
    rw [upd_ne (card_ne e (od _ List.mem_cons_self) hp)]
    exact e
/-- pockets: a list of decks -/
def PocketsAt (H : Hp) (p : Addr) (n : Nat) (g : Nat → Pu.Deck) : Prop := ∃ qs : List Addr, H p = some (.lst (qs.map V.ref)) ∧ qs.length = n ∧ ∀ (i : Nat) (q : Addr), qs[i]? = some q → DeckAt H q (g i)
theorem PocketsAt.same {H H' : Hp} {p : Addr} {n : Nat} {g : Nat → Pu.Deck} (h : PocketsAt H p n g) (s : Same H H') : PocketsAt H' p n g := by
  obtain ⟨qs, e, l, a⟩ := h
  exact ⟨qs, s _ _ e, l, fun i q hq => (a i q hq).same s⟩
theorem DeckAt.upd {H : Hp} {q p : Addr} {d : Pu.Deck} {o : HO} {bs : List Addr} (h : DeckAt H q d) (od : DOk d) (ne : q ≠ p) (hp : H p = some (.lst (bs.map V.ref))) : DeckAt (L2.upd H p o) q d := by
  obtain ⟨as, e, c⟩ := h
  exact ⟨as, by rw [upd_ne ne]; exact e, c.upd od hp⟩
theorem DeckAt.push {H : Hp} {q b : Addr} {d : Pu.Deck} {x : Pu.Card} {as : List Addr} (e : H q = some (.lst (as.map V.ref))) (c : CardsAt H as d) (od : DOk d) (hb : H b = some (.lst (x.map vN))) (ox : COk x) : DeckAt (L2.upd H q (.lst (as.map V.ref ++ [.ref b]))) q (d ++ [x]) := by
  refine ⟨as ++ [b], by rw [upd_same, List.map_append]; rfl, (c.upd od e).append (.cons ?_ .nil)⟩
  rw [upd_ne (card_ne hb ox e)]
  exact hb
def slotI (σ : L2.St) (i : Nat) : Int := match σ.getD i none with
  | some (.int z) => z
  | _ => 0
theorem cut_nat {xs : List V} {i j : Nat} {z z' : Int} (hi : i ≤ xs.length) (hj : j ≤ xs.length) (e : z = (i : Int)) (e' : z' = (j : Int)) : cutV xs (some z) (some z') = (xs.drop i).take (j - i) := by
  subst e e'
  unfold cutV
  rw [HT.sIx_nat, HT.sIx_nat, Nat.min_eq_left hi, Nat.min_eq_left hj]
theorem cut_from {xs : List V} {i : Nat} {z : Int} (hi : i ≤ xs.length) (e : z = (i : Int)) : cutV xs (some z) none = xs.drop i := by
  subst e
  unfold cutV
  rw [HT.sIx_nat, HT.sIx_none, Nat.min_eq_left hi, List.take_of_length_le]
  rw [List.length_drop]
  omega
/-- a new list -/
def NewL (H : Hp) (Q : VK) (xs : List V) : Prop := ∀ (H' : Hp) (p : Addr), Same H H' → H p = none → H' p = some (.lst xs) → Q (.ref p) H'
/-! ### a dict that the top has written, keys ints and texts -/
def KD (P : Program) (w : World) (K : PySem.W.Frag) (a : Addr) (kvs : List (L2.Key × V)) : Prop :=
  (a == sysModules) = false ∧ kvs.length ≤ sizeLine ∧ ∃ vs, KV kvs vs ∧ ∀ h : Heap, K.In h → h.DictOf (mixKind P w) a vs
def zKvs : List (L2.Key × V) := [(Sum.inl 0, .int 0), (Sum.inl 1, .int 1), (Sum.inl 2, .int 2), (Sum.inl 4, .int 3)]
def vKvs : List (L2.Key × V) := vTab.map fun p => (Sum.inl (p.1 : Int), .int (p.2 : Int))
def bsKvs : List (L2.Key × V) := [(Sum.inr "upper", .str "split"), (Sum.inr "lower", .str "split"), (Sum.inr "hole", .str "look"), (Sum.inr "chosen", .str "chosen"), (Sum.inr "both", .str "both")]
def btKvs : List (L2.Key × V) := [(Sum.inr "split", .str "split"), (Sum.inr "look", .str "look"), (Sum.inr "by", .str "chosen"), (Sum.inr "plain", .str "chosen"), (Sum.inr "other", .str "chosen"), (Sum.inr "one", .str "both"), (Sum.inr "two", .str "both")]
def sendS : List Str := ["read", "send", "from", "upper", "lower", "hole", "chosen", "both"]
def takeS : List Str := ["to", "split", "look", "by", "plain", "other", "one", "two"]
/-- a dict of hubs: names, and tuples at these addresses -/
def hubKvs (ws : List Str) (ts : List Addr) : List (L2.Key × V) := List.zipWith (fun x t => ((Sum.inr x : L2.Key), V.ref t)) ws ts
/-- a written tuple -/
def KTup (K : PySem.W.Frag) (t : Addr) (xs : List V) : Prop := SqT K (fun _ => none) t xs
theorem KTup.at_ {K : PySem.W.Frag} {t : Addr} {xs : List V} (h : KTup K t xs) (H : Hp) : SqT K H t xs := by
  rcases h with (h | ⟨o, h⟩) | h
  · cases h
  · cases h
  · exact .inr h
def HubTab (P : Program) (w : World) (K : PySem.W.Frag) (a : Addr) (ws : List Str) (ns : List (List Nat)) : Prop := ∃ ts : List Addr, ts.length = ws.length ∧ KD P w K a (hubKvs ws ts) ∧ ∀ (i : Nat) (t : Addr), ts[i]? = some t → KTup K t ((ns.getD i []).map vN)
/-! ### what the top has written of names -/
structure Ad where
  z : Addr
  v : Addr
  se : Addr
  ta : Addr
  bs : Addr
  bt : Addr
  cS : Addr
  cC : Addr
  cD : Addr
  cP : Addr
structure MDcl (P : Program) (w : World) (K : PySem.W.Frag) (mg : Str → Option Value) (base : Heap) (k : Nat) (C : Addr) (name : Str) (ps : List Str) (sp : Sp) where
  f : Addr
  fd : FuncData
  ok : FnOk P w K mg base CX0 k f fd ps sp
  m : Meth K C name f
  b : Binds K fd ps []
structure CDcl (P : Program) (w : World) (K : PySem.W.Frag) (mg : Str → Option Value) (base : Heap) (k : Nat) (C : Addr) (name : Str) (ps : List Str) (sp : Sp) where
  f : Addr
  fd : FuncData
  ok : FnOk P w K mg base CX0 k f fd ps sp
  make : Mk K C f
  g : mg name = some (.ref C)
  b : Binds K fd ps []
structure Txt (P : Program) (w : World) (K : PySem.W.Frag) (mg : Str → Option Value) (ad : Ad) : Prop where
  b_len : mg "len" = none
  b_range : mg "range" = none
  b_enumerate : mg "enumerate" = none
  b_max : mg "max" = none
  b_list : mg "list" = none
  b_tuple : mg "tuple" = none
  b_dict : mg "dict" = none
  b_sorted : mg "sorted" = none
  b_ord : mg "ord" = none
  g_COLUMNS : ∃ t, mg "COLUMNS" = some (.int 80 t)
  g_MOST_HOLES : ∃ t, mg "MOST_HOLES" = some (.int 4095 t)
  g_MOST_CARDS : ∃ t, mg "MOST_CARDS" = some (.int 1000 t)
  g_POCKETS : ∃ t, mg "POCKETS" = some (.int 13 t)
  g_REJECT : ∃ t, mg "REJECT" = some (.int 12 t)
  g_MERGED : ∃ t, mg "MERGED" = some (.int 0 t)
  g_MATCHED : ∃ t, mg "MATCHED" = some (.int 1 t)
  g_MERGED_WHERE_MATCHED : ∃ t, mg "MERGED_WHERE_MATCHED" = some (.int 2 t)
  g_Z_OF_ROWS : mg "Z_OF_ROWS" = some (.ref ad.z)
  d_Z : KD P w K ad.z zKvs
  g_V_OF_ROWS : mg "V_OF_ROWS" = some (.ref ad.v)
  d_V : KD P w K ad.v vKvs
  g_SENDERS : mg "SENDERS" = some (.ref ad.se)
  d_SE : HubTab P w K ad.se sendS sendN
  g_TAKERS : mg "TAKERS" = some (.ref ad.ta)
  d_TA : HubTab P w K ad.ta takeS takeNs
  g_BOX_THAT_SENDS : mg "BOX_THAT_SENDS" = some (.ref ad.bs)
  d_BS : KD P w K ad.bs bsKvs
  g_BOX_THAT_TAKES : mg "BOX_THAT_TAKES" = some (.ref ad.bt)
  d_BT : KD P w K ad.bt btKvs
  g_LONGEST_TEXT : ∃ t, mg "LONGEST_TEXT" = some (.int 16384 t)
  g_UPPER_ROWS : ∃ t, mg "UPPER_ROWS" = some (.int 3 t)
  g_LOWER_ROWS : ∃ t, mg "LOWER_ROWS" = some (.int 4092 t)
  g_PLACES : ∃ t, mg "PLACES" = some (.int 256 t)
  g_LINE_END : ∃ t, mg "LINE_END" = some (.int 10 t)
  g_NOUGHT : ∃ t, mg "NOUGHT" = some (.int 48 t)
  g_NINE : ∃ t, mg "NINE" = some (.int 57 t)
  g_MOST_WIRES : ∃ t, mg "MOST_WIRES" = some (.int 256 t)
  cl_LineScan : Cls K ad.cS
  n_line : NoAttr K ad.cS "line"
  n_at : NoAttr K ad.cS "at"
  n_right : NoAttr K ad.cS "right"
end CP
/-! HKd -/
namespace CP
open PySem PySem.Spec PyProof.Rows L2
def tKGet1 (P : Program) (w : World) (K : PySem.W.Frag) (td ty : TE) : TE := fun σ H Q => td σ H fun x H1 => ∃ a kvs, x = .ref a ∧ KD P w K a kvs ∧ ty σ H1 fun y H2 => ∃ k, y = kV k ∧ Q ((valV kvs k).getD .non) H2
def tKGet (P : Program) (w : World) (K : PySem.W.Frag) (td ty : TE) : TE := fun σ H Q => td σ H fun x H1 => ty σ H1 fun y H2 => ∃ a kvs k v, x = .ref a ∧ KD P w K a kvs ∧ y = kV k ∧ valV kvs k = some v ∧ Q v H2
def tKNotIn (P : Program) (w : World) (K : PySem.W.Frag) (ty td : TE) : TE := fun σ H Q => ty σ H fun y H1 => td σ H1 fun x H2 => ∃ a kvs k, x = .ref a ∧ KD P w K a kvs ∧ y = kV k ∧ Q (.bl (!(valV kvs k).isSome)) H2
section
variable {X : Cx} {o e i : Expr} {apos cpos pos : Pos} {td ty : TE}
theorem pe_kget1 (ho : PE X o td) (he : PE X e ty) (m : M1 X o "get" apos e cpos) : PE X (.Call (.Attribute o "get" apos) [e] [] cpos) (tKGet1 X.prog X.w X.K td ty) := by
  refine ⟨fun pins s σ H Q I h => ?_⟩
  refine wpAny_Call_method m.base m.few m.line PySem.F.plainAttrs_dict PySem.F.slot_dict_get PySem.F.type_dict_get (thn (ho.run pins s σ H _ I h) fun u s1 ⟨x, H1, I1, rx, a, kvs, ex, ⟨hd, hz, vs, rel, dk⟩, q1⟩ => ?_)
  subst ex
  obtain rfl : u = Value.ref a := rx
  have dd := dk _ I1.kIn
  refine ⟨dd.typeIs, fun b q => ?_, ?_⟩
  · cases q
    obtain ⟨ob, _, _, h1, h2, _⟩ := dd
    exact ⟨ob, h1, h2.2.1⟩
  rw [m.trees]
  refine Calls.callWith_builtin rfl (Calls.evalArgs_plain (Calls.spliced_cons (thn (he.run pins s1 σ H1 _ I1 q1) fun iv s2 ⟨y, H2, I2, ry, k, ey, q2⟩ => Calls.spliced_nil ?_)))
  subst ey
  have dd2 := dk _ I2.kIn
  exact call_meetsIn PySem.F.slot_dict_get dd2.typeIs PySem.F.entry_dict_get (PySem.F.args_dict_get_2 _ _) (meets_dict_get (mixKind X.prog X.w) a (kV_is ry) hd) ⟨_, dd2.mapOf, ⟨_, H2, I2.tok _, (rel.val k).getD (show L2.RelV V.non Value.none from rfl), q2⟩⟩
theorem pe_kget (ho : PE X o td) (hi : PE X i ty) (hs : NoSl i) : PE X (.Subscript o i pos) (tKGet X.prog X.w X.K td ty) := by
  refine ⟨fun pins s σ H Q I h => ?_⟩
  refine subD_of PySem.F.slot_dict_getitem.lookup hs (thn (ho.run pins s σ H _ I h) fun u s1 ⟨x, H1, I1, rx, q1⟩ => thn (hi.run pins s1 σ H1 _ I1 q1) fun iv s2 ⟨y, H2, I2, ry, a, kvs, k, v, ex, ⟨hd, hz, vs, rel, dk⟩, ey, l, q2⟩ => ?_)
  subst ex ey
  obtain rfl : u = Value.ref a := rx
  have dd := dk _ I2.kIn
  obtain ⟨w', hw, rw'⟩ := RelO.some_of (v := v) (o := valueAt vs k) (by rw [← l]; exact rel.val k)
  exact ⟨dd.typeIs, wpAny_getItem_of (kV_is ry) dd.mapOf hw ⟨v, H2, I2.tok _, rw', q2⟩⟩
theorem pc_knotin (hi : PE X i ty) (ho : PE X o td) : PC X .NotIn i o (tKNotIn X.prog X.w X.K ty td) := by
  refine ⟨fun pins s σ H Q I h => ?_⟩
  refine thn (hi.run pins s σ H _ I h) fun iv s1 ⟨y, H1, I1, ry, q1⟩ => thn (ho.run pins s1 σ H1 _ I1 q1) fun u s2 ⟨x, H2, I2, rx, a, kvs, k, ex, ⟨hd, hz, vs, rel, dk⟩, ey, q2⟩ => ?_
  subst ex ey
  obtain rfl : u = Value.ref a := rx
  have dd := dk _ I2.kIn
  refine wpAny_notIn_of (kV_is ry) hd dd.mapOf ?_
  rw [← (rel.val k).isSome_eq]
  exact ⟨.bl (!(valV kvs k).isSome), H2, I2.tok _, rfl, q2⟩
/-- dict(d) of a written dict: a copy -/
theorem call_dictK : CallR X (.type "dict") (fun xs H Q => ∃ (a : Addr) (kvs : List (L2.Key × V)), xs = [.ref a] ∧ KD X.prog X.w X.K a kvs ∧ ∀ p, H p = none → Q (.ref p) (upd H p (.dK kvs))) := by
  intro pins s σ H xs us Q I r q
  obtain ⟨a, kvs, ex, ⟨lo, z, vs, rel, dk⟩, q⟩ := q
  subst ex
  obtain ⟨u, eu, rx⟩ := vals1 r
  subst eu
  cases rx
  have dd := dk _ I.kIn
  refine kt_call_dict lo dd (by rw [← rel.length]; exact z) fun h' d' hs => ?_
  have hm : (s.heap.objs.size == sysModules) = false := beq_eq_false_iff_ne.mpr (Nat.ne_of_gt I.big)
  exact ⟨.ref s.heap.objs.size, upd H s.heap.objs.size (.dK kvs), I.laid (t' := s.toks) (fun b u e => (hs.2 b (Nat.ne_of_lt (Heap.lt_size e))).trans (Heap.get?_push_of_some _ e)) (Nat.le_refl _)
    (show ObjOk X.prog X.w _ _ _ (.dK kvs) from ⟨z, hm, vs, rel, d'⟩), rfl, q _ (I.hok.fresh (Nat.le_refl _))⟩
end
end CP
/-! HCards1 -/
namespace CP
open PySem PySem.Spec PyProof.Rows L2
section
variable {P : Program} {w : World} {K : PySem.W.Frag} {mg : Str → Option Value} {base : Heap} {ad : Ad}
abbrev s_is_column : Stmt := topS 9
abbrev N_is_column : List Str := ["c"]
theorem sc_is_column : FnScope N_is_column ["c"] (defScope s_is_column) := ⟨rfl, rfl, rfl, by decide +kernel, rfl, by decide +kernel, by decide +kernel⟩
def sp_is_column : Sp := fun vs H Q _ => ∃ c : Int, vs = [.int c] ∧ Q (.bl (decide (0 ≤ c ∧ c < 80))) H
theorem ok_is_column {f : Addr} {fd : FuncData} (F : Fun K "is_column" "is_column" s_is_column f fd) (T : Txt P w K mg ad) : FnOk P w K mg base CX0 1 f fd ["c"] sp_is_column := by
  refine F.ok sc_is_column (fun vs H Q E h => ?_) (fun cdv A outer s H vs Q E hr h => ?_)
  · obtain ⟨c, rfl, _⟩ := h; rfl
  · obtain ⟨c, rfl, q⟩ := h
    refine ⟨_, (pss_one (ps_ret (pe_and (pe_cmpR op_le pe_int (pv 0) (nomark _)) (pe_one (pe_cmpR op_lt (pv 0) (pe_gint (by rfl) T.g_COLUMNS) (nomark _)))))), ?_⟩
    refine ⟨_, rfl, _, _, rfl, rfl, _, rfl, ?_⟩
    by_cases c1 : 0 ≤ c
    · refine ift (decide_eq_true c1) ?_
      refine ⟨_, rfl, _, _, rfl, rfl, ?_⟩
      rw [show decide (0 ≤ c ∧ c < 80) = decide (c < 80) from decide_eq_decide.mpr ⟨fun h => h.2, fun h => ⟨c1, h⟩⟩] at q
      exact q
    · refine iff_ (decide_eq_false c1) ?_
      rw [decide_eq_false (fun h => c1 h.1)] at q
      exact q
abbrev s_is_field : Stmt := topS 10
abbrev N_is_field : List Str := ["c", "n"]
theorem sc_is_field : FnScope N_is_field ["c", "n"] (defScope s_is_field) := ⟨rfl, rfl, rfl, by decide +kernel, rfl, by decide +kernel, by decide +kernel⟩
def sp_is_field : Sp := fun vs H Q _ => ∃ c n : Int, vs = [.int c, .int n] ∧ Q (.bl (decide (0 ≤ c ∧ 1 ≤ n ∧ c + n ≤ 80))) H
theorem ok_is_field {f : Addr} {fd : FuncData} (F : Fun K "is_field" "is_field" s_is_field f fd) (T : Txt P w K mg ad) : FnOk P w K mg base CX0 1 f fd ["c", "n"] sp_is_field := by
  refine F.ok sc_is_field (fun vs H Q E h => ?_) (fun cdv A outer s H vs Q E hr h => ?_)
  · obtain ⟨c, n, rfl, _⟩ := h; rfl
  · obtain ⟨c, n, rfl, q⟩ := h
    refine ⟨_, (pss_one (ps_ret (pe_and (pe_cmpR op_ge (pv 0) pe_int (nomark _)) (pe_and (pe_cmpR op_ge (pv 1) pe_int (nomark _)) (pe_one (pe_cmpR op_le (pe_op op_add (pv 0) (pv 1)) (pe_gint (by rfl) T.g_COLUMNS) (nomark _))))))), ?_⟩
    refine ⟨_, rfl, _, _, rfl, rfl, _, rfl, ?_⟩
    by_cases c1 : 0 ≤ c
    · refine ift (decide_eq_true c1) ?_
      refine ⟨_, rfl, _, _, rfl, rfl, _, rfl, ?_⟩
      by_cases c2 : 1 ≤ n
      · refine ift (decide_eq_true c2) ?_
        refine ⟨_, rfl, _, rfl, _, _, rfl, rfl, _, _, rfl, rfl, ?_⟩
        rw [show decide (0 ≤ c ∧ 1 ≤ n ∧ c + n ≤ 80) = decide (c + n ≤ 80) from decide_eq_decide.mpr ⟨fun h => h.2.2, fun h => ⟨c1, c2, h⟩⟩] at q
        exact q
      · refine iff_ (decide_eq_false c2) ?_
        rw [decide_eq_false (fun h => c2 h.2.1)] at q
        exact q
    · refine iff_ (decide_eq_false c1) ?_
      rw [decide_eq_false (fun h => c1 h.1)] at q
      exact q
abbrev s_figure_hole : Stmt := topS 6
abbrev N_figure_hole : List Str := ["figure"]
theorem sc_figure_hole : FnScope N_figure_hole ["figure"] (defScope s_figure_hole) := ⟨rfl, rfl, rfl, by decide +kernel, rfl, by decide +kernel, by decide +kernel⟩
def sp_figure_hole : Sp := fun vs H Q _ => ∃ d : Nat, vs = [.int (d : Int)] ∧ d ≤ 100 ∧ Q (.int ((2 ^ (d + 2) : Nat) : Int)) H
theorem ok_figure_hole {f : Addr} {fd : FuncData} (F : Fun K "figure_hole" "figure_hole" s_figure_hole f fd) : FnOk P w K mg base CX0 1 f fd ["figure"] sp_figure_hole := by
  refine F.ok sc_figure_hole (fun vs H Q E h => ?_) (fun cdv A outer s H vs Q E hr h => ?_)
  · obtain ⟨d, rfl, _⟩ := h; rfl
  · obtain ⟨d, rfl, hd, q⟩ := h
    refine ⟨_, (pss_one (ps_ret (pe_op op_shl pe_int (pe_op op_add (pv 0) pe_int)))), ?_⟩
    refine ⟨_, rfl, _, _, rfl, rfl, _, _, rfl, rfl, ⟨by omega, by omega, by decide⟩, ?_⟩
    have e : (1 : Int) * 2 ^ ((d : Int) + 2).toNat = ((2 ^ (d + 2) : Nat) : Int) := by
      rw [show ((d : Int) + 2).toNat = d + 2 by omega, Int.one_mul, Int.natCast_pow]; rfl
    rw [← e] at q
    exact q
abbrev s_blank_card : Stmt := topS 13
abbrev N_blank_card : List Str := []
theorem sc_blank_card : FnScope N_blank_card [] (defScope s_blank_card) := ⟨rfl, rfl, rfl, by decide +kernel, rfl, by decide +kernel, by decide +kernel⟩
def sp_blank_card : Sp := fun vs H Q _ => vs = [] ∧ NewL H Q (Pu.blankCard.map vN)
theorem ok_blank_card {f : Addr} {fd : FuncData} (F : Fun K "blank_card" "blank_card" s_blank_card f fd) (T : Txt P w K mg ad) : FnOk P w K mg base CX0 1 f fd [] sp_blank_card := by
  refine F.ok sc_blank_card (fun vs H Q E h => ?_) (fun cdv A outer s H vs Q E hr h => ?_)
  · obtain ⟨rfl, _⟩ := h; rfl
  · obtain ⟨rfl, q⟩ := h
    refine ⟨_, (pss_one (ps_ret (pe_op op_rep (pe_lst (pa_cons pe_int pa_nil)) (pe_gint (by rfl) T.g_COLUMNS)))), ?_⟩
    refine ⟨by decide, fun l hl => ?_⟩
    refine ⟨l, _, _, rfl, rfl, upd_same, by decide, by decide, by decide, fun p hp => ?_⟩
    exact q _ p ((same_upd hl).trans (same_upd hp)) ((same_upd hl).free hp) upd_same
abbrev s_code_holes : Stmt := topS 7
abbrev N_code_holes : List Str := ["number", "z", "v", "holes"]
theorem sc_code_holes : FnScope N_code_holes ["number"] (defScope s_code_holes) := ⟨rfl, rfl, rfl, by decide +kernel, rfl, by decide +kernel, by decide +kernel⟩
def sp_code_holes : Sp := fun vs H Q _ => ∃ n : Nat, vs = [.int (n : Int)] ∧ n < 64 ∧ Q (.int (Pu.code n : Int)) H
theorem ok_code_holes {f : Addr} {fd : FuncData} (F : Fun K "code_holes" "code_holes" s_code_holes f fd) (D_figure_hole : Dcl P w K mg base 1 "figure_hole" ["figure"] sp_figure_hole) : FnOk P w K mg base CX0 2 f fd ["number"] sp_code_holes := by
  refine F.ok sc_code_holes (fun vs H Q E h => ?_) (fun cdv A outer s H vs Q E hr h => ?_)
  · obtain ⟨n, rfl, _⟩ := h; rfl
  · obtain ⟨n, rfl, hn, q⟩ := h
    refine ⟨_, (pss_cons (ps_set (i := 1) sc_code_holes.nd rfl (Or.inl rfl) (pe_op op_fdiv (pv 0) pe_int))
      (pss_cons (ps_set (i := 2) sc_code_holes.nd rfl (Or.inl rfl) (pe_op op_mod (pv 0) pe_int))
      (pss_cons (ps_set (i := 3) sc_code_holes.nd rfl (Or.inl rfl) pe_int)
      (pss_cons (ps_if (pt_cmpR op_gt (pv 1) pe_int (nomark _))
      (pss_one (ps_set (i := 3) sc_code_holes.nd rfl (Or.inl rfl) (pe_op op_shl pe_int (pe_op op_sub (pv 1) pe_int))))
      pss_nil)
      (pss_cons (ps_if (pt_cmpR op_gt (pv 2) pe_int (nomark _))
      (pss_one (ps_ret (pe_op op_or (pe_op op_or (pv 3) (pe_call D_figure_hole.ok (hr.mono (by decide)) (by rfl) D_figure_hole.g D_figure_hole.kp D_figure_hole.b .nil pass0 (pa_cons pe_int pa_nil))) (pe_call D_figure_hole.ok (hr.mono (by decide)) (by rfl) D_figure_hole.g D_figure_hole.kp D_figure_hole.b .nil pass0 (pa_cons (pe_op op_sub (pv 2) pe_int) pa_nil)))))
      pss_nil)
      (pss_cons (ps_if (pt_cmpR op_gt (pv 2) pe_int (nomark _))
      (pss_one (ps_ret (pe_op op_or (pv 3) (pe_call D_figure_hole.ok (hr.mono (by decide)) (by rfl) D_figure_hole.g D_figure_hole.kp D_figure_hole.b .nil pass0 (pa_cons (pv 2) pa_nil)))))
      pss_nil)
      (pss_one (ps_ret (pv 3))))))))), ?_⟩
    have hz : ((n : Int) / 16) = ((n / 16 : Nat) : Int) := by omega
    have hv : ((n : Int) % 16) = ((n % 16 : Nat) : Int) := by omega
    refine ⟨_, rfl, _, _, rfl, rfl, ⟨by decide, by decide⟩, ?_⟩
    refine ⟨_, rfl, _, _, rfl, rfl, (by show (0 : Int) < 16; decide), ?_⟩
    have e := code_eq hn
    unfold codeM at e
    refine ⟨_, rfl, _, _, rfl, rfl, _, rfl, ?_⟩
    by_cases c1 : (0 : Int) < (n : Int) / 16
    · refine ift (decide_eq_true c1) ?_
      refine ⟨_, rfl, _, _, rfl, rfl, _, _, rfl, rfl, ⟨by omega, by omega, by decide⟩, ?_⟩
      have eh : (1 : Int) * 2 ^ ((n : Int) / 16 - 1).toNat = ((2 ^ (n / 16 - 1) : Nat) : Int) := by
        rw [show ((n : Int) / 16 - 1).toNat = n / 16 - 1 by omega, Int.one_mul, Int.natCast_pow]; rfl
      simp only [if_pos (show n / 16 > 0 by omega)] at e
      refine ⟨_, rfl, _, _, rfl, rfl, _, rfl, ?_⟩
      by_cases c2 : (9 : Int) < (n : Int) % 16
      · refine ift (decide_eq_true c2) ?_
        refine ⟨_, rfl, 8, rfl, by decide, _, _, rfl, rfl, _, rfl, _, _, rfl, rfl, n % 16 - 8, ?_, by omega, _, _, rfl, rfl, ?_⟩
        · exact congrArg (fun z => [V.int z]) (by omega : (n : Int) % 16 - 8 = ((n % 16 - 8 : Nat) : Int))
        · refine qint q ?_
          rw [← e, if_pos (show n % 16 > 9 by omega), eh, bor_nat, bor_nat]
      · refine iff_ (decide_eq_false c2) ?_
        refine ⟨_, rfl, _, _, rfl, rfl, _, rfl, ?_⟩
        by_cases c3 : (0 : Int) < (n : Int) % 16
        · refine ift (decide_eq_true c3) ?_
          refine ⟨_, rfl, _, rfl, n % 16, ?_, by omega, _, _, rfl, rfl, ?_⟩
          · exact congrArg (fun z => [V.int z]) hv
          · refine qint q ?_
            rw [← e, if_neg (show ¬ n % 16 > 9 by omega), if_pos (show n % 16 > 0 by omega), eh, bor_nat]
        · refine iff_ (decide_eq_false c3) ?_
          refine ⟨_, rfl, ?_⟩
          refine qint q ?_
          rw [← e, if_neg (show ¬ n % 16 > 9 by omega), if_neg (show ¬ n % 16 > 0 by omega), eh]
    · refine iff_ (decide_eq_false c1) ?_
      simp only [if_neg (show ¬ n / 16 > 0 by omega)] at e
      refine ⟨_, rfl, _, _, rfl, rfl, _, rfl, ?_⟩
      by_cases c2 : (9 : Int) < (n : Int) % 16
      · refine ift (decide_eq_true c2) ?_
        refine ⟨_, rfl, 8, rfl, by decide, _, _, rfl, rfl, _, rfl, _, _, rfl, rfl, n % 16 - 8, ?_, by omega, _, _, rfl, rfl, ?_⟩
        · exact congrArg (fun z => [V.int z]) (by omega : (n : Int) % 16 - 8 = ((n % 16 - 8 : Nat) : Int))
        · refine qint q ?_
          rw [← e, if_pos (show n % 16 > 9 by omega), show (0 : Int) = ((0 : Nat) : Int) from rfl, bor_nat, bor_nat]
      · refine iff_ (decide_eq_false c2) ?_
        refine ⟨_, rfl, _, _, rfl, rfl, _, rfl, ?_⟩
        by_cases c3 : (0 : Int) < (n : Int) % 16
        · refine ift (decide_eq_true c3) ?_
          refine ⟨_, rfl, _, rfl, n % 16, ?_, by omega, _, _, rfl, rfl, ?_⟩
          · exact congrArg (fun z => [V.int z]) hv
          · refine qint q ?_
            rw [← e, if_neg (show ¬ n % 16 > 9 by omega), if_pos (show n % 16 > 0 by omega), show (0 : Int) = ((0 : Nat) : Int) from rfl, bor_nat]
        · refine iff_ (decide_eq_false c3) ?_
          refine ⟨_, rfl, ?_⟩
          refine qint q ?_
          rw [← e, if_neg (show ¬ n % 16 > 9 by omega), if_neg (show ¬ n % 16 > 0 by omega)]
          rfl
theorem val_tab (k : Nat) : ∀ l : List (Nat × Nat), valV (l.map fun p => ((Sum.inl (p.1 : Int) : L2.Key), V.int (p.2 : Int))) (Sum.inl (k : Int)) = (l.lookup k).map fun v => V.int (v : Int)
  | [] => rfl
  | (a, b) :: l => by
    rw [List.map_cons]
    by_cases q : a = k
    · subst q
      rw [valV_pos (by rfl), List.lookup_cons_self]; rfl
    · rw [valV_neg (by intro z; apply q; have := Sum.inl.inj z; omega), val_tab k l]
      have : (k == a) = false := by rw [beq_eq_false_iff_ne]; exact fun z => q z.symm
      simp only [List.lookup, this]
def zTab : List (Nat × Nat) := [(0, 0), (1, 1), (2, 2), (4, 3)]
theorem zOf_tab (h : Nat) : zOf h = zTab.lookup (h % 8) := by
  unfold zOf
  have : h % 8 < 8 := Nat.mod_lt _ (by decide)
  generalize h % 8 = r at *
  match r, this with
  | 0, _ => rfl
  | 1, _ => rfl
  | 2, _ => rfl
  | 3, _ => rfl
  | 4, _ => rfl
  | 5, _ => rfl
  | 6, _ => rfl
  | 7, _ => rfl
theorem z_val (h : Nat) : valV zKvs (Sum.inl (Builtin.bitAnd (h : Int) 7)) = (zOf h).map fun v => V.int (v : Int) := by
  rw [zOf_tab, ← val_tab, show (7 : Int) = ((7 : Nat) : Int) from rfl, band_nat, show h &&& 7 = h % 8 from Nat.and_two_pow_sub_one_eq_mod h 3]
  rfl
theorem v_val (h : Nat) : valV vKvs (Sum.inl ((h : Int) / 2 ^ Int.toNat 3)) = (vTab.lookup (h / 8)).map fun v => V.int (v : Int) := by
  rw [← val_tab, show (h : Int) / 2 ^ Int.toNat 3 = ((h / 8 : Nat) : Int) by
    show (h : Int) / 8 = _
    omega]
  rfl
abbrev s_column_rank : Stmt := topS 8
abbrev N_column_rank : List Str := ["holes", "z", "v"]
theorem sc_column_rank : FnScope N_column_rank ["holes"] (defScope s_column_rank) := ⟨rfl, rfl, rfl, by decide +kernel, rfl, by decide +kernel, by decide +kernel⟩
def sp_column_rank : Sp := fun vs H Q _ => ∃ h : Nat, vs = [.int (h : Int)] ∧ h < 4096 ∧ Q (.int (Pu.rank h : Int)) H
theorem ok_column_rank {f : Addr} {fd : FuncData} (F : Fun K "column_rank" "column_rank" s_column_rank f fd) (T : Txt P w K mg ad) : FnOk P w K mg base CX0 1 f fd ["holes"] sp_column_rank := by
  refine F.ok sc_column_rank (fun vs H Q E h => ?_) (fun cdv A outer s H vs Q E hr h => ?_)
  · obtain ⟨n, rfl, _⟩ := h; rfl
  · obtain ⟨n, rfl, hn, q⟩ := h
    refine ⟨_, (pss_cons (ps_set (i := 1) sc_column_rank.nd rfl (Or.inl rfl) (pe_kget1 (pe_gref (by rfl) T.g_Z_OF_ROWS) (pe_op op_and (pv 0) pe_int) ⟨rfl, rfl, rfl, rfl⟩))
      (pss_cons (ps_set (i := 2) sc_column_rank.nd rfl (Or.inl rfl) (pe_kget1 (pe_gref (by rfl) T.g_V_OF_ROWS) (pe_op op_shr (pv 0) pe_int) ⟨rfl, rfl, rfl, rfl⟩))
      (pss_cons (ps_if (PW.pt (pw_or (pt_cmpR op_isN (pv 1) pe_non (nomark _)) (pw_or1 (pt_cmpR op_isN (pv 2) pe_non (nomark _)))))
      (pss_one (ps_ret (pe_op op_add pe_int (pv 0))))
      pss_nil)
      (pss_one (ps_ret (pe_op op_add (pe_op op_mul pe_int (pv 1)) (pv 2))))))), ?_⟩
    refine ⟨ad.z, zKvs, rfl, T.d_Z, _, rfl, _, _, rfl, rfl, Sum.inl _, rfl, ?_⟩
    refine ⟨ad.v, vKvs, rfl, T.d_V, _, rfl, _, _, rfl, rfl, (show (0 : Int) ≤ 3 by decide), Sum.inl _, rfl, ?_⟩
    have e := rank_eq hn
    unfold rankM at e
    cases ez : zOf n with
    | none =>
      have z1 : (valV zKvs (Sum.inl (Builtin.bitAnd (n : Int) 7))).getD .non = .non := by rw [z_val, ez]; rfl
      refine ⟨_, rfl, rfl, _, rfl, ift (decide_eq_true z1) (ift rfl ⟨_, rfl, _, _, rfl, rfl, ?_⟩)⟩
      rw [ez] at e
      exact qint q (by rw [← e]; simp)
    | some z =>
      have z1 : (valV zKvs (Sum.inl (Builtin.bitAnd (n : Int) 7))).getD .non = .int (z : Int) := by rw [z_val, ez]; rfl
      have z2 : ¬ (valV zKvs (Sum.inl (Builtin.bitAnd (n : Int) 7))).getD .non = .non := by rw [z1]; exact fun h => by cases h
      refine ⟨_, rfl, rfl, _, rfl, iff_ (decide_eq_false z2) ?_⟩
      cases ev : vTab.lookup (n / 8) with
      | none =>
        have v1 : (valV vKvs (Sum.inl ((n : Int) / 2 ^ Int.toNat 3))).getD .non = .non := by rw [v_val, ev]; rfl
        refine ⟨_, rfl, rfl, _, rfl, ift (decide_eq_true v1) ⟨_, rfl, _, _, rfl, rfl, ?_⟩⟩
        rw [ez, ev] at e
        exact qint q (by rw [← e]; simp)
      | some v =>
        have v1 : (valV vKvs (Sum.inl ((n : Int) / 2 ^ Int.toNat 3))).getD .non = .int (v : Int) := by rw [v_val, ev]; rfl
        have v2 : ¬ (valV vKvs (Sum.inl ((n : Int) / 2 ^ Int.toNat 3))).getD .non = .non := by rw [v1]; exact fun h => by cases h
        refine ⟨_, rfl, rfl, _, rfl, iff_ (decide_eq_false v2) ?_⟩
        refine ⟨_, rfl, 16, (z : Int), rfl, z1, .inl ⟨by decide, by decide⟩, _, rfl, _, (v : Int), rfl, v1, ?_⟩
        rw [ez, ev] at e
        exact qint q (by rw [← e]; simp)
end
end CP
/-! HCards2 -/
namespace CP
open PySem PySem.Spec PyProof.Rows L2
/-- an item of a list of numbers -/
theorem at_nat {x : List Nat} {z : Int} {j : Nat} (hj : j < x.length) (e : z = (j : Int)) : atI (x.map vN) z = some (.int (x.getD j 0 : Int)) := by
  refine at_of e ?_
  rw [List.getElem?_map, List.getD_eq_getElem?_getD, List.getElem?_eq_getElem hj]
  rfl
theorem at_ref {as : List Addr} {z : Int} {j : Nat} {a : Addr} (h : as[j]? = some a) (e : z = (j : Int)) : atI (as.map V.ref) z = some (.ref a) := by
  refine at_of e ?_
  rw [List.getElem?_map, h]; rfl
theorem at_int {ns : List Int} {z : Int} {j : Nat} {n : Int} (h : ns[j]? = some n) (e : z = (j : Int)) : atI (ns.map V.int) z = some (.int n) := by
  refine at_of e ?_
  rw [List.getElem?_map, h]; rfl
theorem rg2 (n : Nat) (h : n ≤ 1000000) (he : n % 2 = 0) : RgC 0 (n : Int) 2 (n / 2) := by
  have hs : Builtin.Range.rangeSize 0 (n : Int) 2 = ((n / 2 : Nat) : Int) := by
    unfold Builtin.Range.rangeSize
    rw [if_pos (by decide)]
    split <;> omega
  have f : ∀ z : Int, -(2 ^ 62) ≤ z → z < 2 ^ 62 → Builtin.Range.rangeFitsLong z = true := by
    intro z h1 h2
    unfold Builtin.Range.rangeFitsLong
    rw [Bool.and_eq_true]
    exact ⟨decide_eq_true (by omega), decide_eq_true (by omega)⟩
  refine ⟨by decide, by decide, ?_, hs⟩
  unfold Builtin.Range.small
  rw [hs, f 0 (by decide) (by decide), f (n : Int) (by omega) (by omega), f 2 (by decide) (by decide), f ((n / 2 : Nat) : Int) (by omega) (by omega), if_pos (by decide), f _ (by omega) (by omega), Bool.or_true]
  rfl
/-- over enumerate of a list that the body leaves as it is -/
theorem for_enum {K : PySem.W.Frag} {a : Addr} {xs : List V} {g : TG} {tb : TS} {D : Ends} {σ : L2.St} {H : Hp} (Pv : Nat → L2.St → Hp → Prop) (h0 : Pv 0 σ H) (hl : ∀ i σ H, i ≤ xs.length → Pv i σ H → SqL K H a xs)
    (hs : ∀ i x σ H T, xs[i]? = some x → Pv i σ H → H T = none → g (.ref T) σ (upd H T (.tup [.int (i : Nat), x])) fun σ2 H2 => tb { D with nx := Pv (i + 1), ct := Pv (i + 1), bk := D.nx } σ2 H2) (hd : ∀ σ H, Pv xs.length σ H → D.nx σ H) :
    ∃ W : Nat → Nat → L2.St → Hp → Prop, (∃ m, W 0 m σ H) ∧ ∀ i m σ H, W i m σ H →
      ((Ite K a).stop i H ∧ D.nx σ H) ∨ ((Ite K a).go i H ∧ ∃ N : L2.St → Hp → Prop, (∀ σ' H', N σ' H' → ∃ m', m' < m ∧ W (i + 1) m' σ' H') ∧ ∀ x H', (Ite K a).yld i H x H' → g x σ H' fun σ2 H2 => tb { D with nx := N, ct := N, bk := D.nx } σ2 H2) := by
  refine ⟨fun i m σ H => m = xs.length - i ∧ i ≤ xs.length ∧ Pv i σ H, ⟨xs.length, by simp, Nat.zero_le _, h0⟩, ?_⟩
  rintro i m σ H ⟨rfl, hi, p⟩
  have q := hl i σ H hi p
  by_cases hlt : i < xs.length
  · refine .inr ⟨⟨xs, xs[i], q, by simp [hlt]⟩, Pv (i + 1), fun σ' H' p' => ⟨xs.length - (i + 1), by omega, rfl, hlt, p'⟩, fun x H' y => ?_⟩
    obtain ⟨T, z, rfl, hT, rfl, hz⟩ := y
    exact hs i z σ _ T (hz xs q) p hT
  · have e : i = xs.length := by omega
    subst e
    exact .inl ⟨⟨xs, q, Nat.le_refl _⟩, hd σ H p⟩
theorem ixN_nat {n j : Nat} {z : Int} (hj : j < n) (e : z = (j : Int)) : ixN n z = some j := by
  subst e
  unfold ixN
  rw [if_pos (by omega), if_pos (by omega), Int.toNat_natCast]
theorem map_set_vN (x : List Nat) (j h : Nat) : (x.map vN).set j (.int (h : Int)) = (x.set j h).map vN := by
  rw [List.map_set]; rfl
theorem drop_two {α : Type} {l : List α} {i : Nat} {a b : α} (h1 : l[i]? = some a) (h2 : l[i + 1]? = some b) : l.drop i = a :: b :: l.drop (i + 2) := by
  have hi : i + 1 < l.length := by
    apply Classical.byContradiction; intro q
    rw [List.getElem?_eq_none (by omega)] at h2; cases h2
  rw [List.drop_eq_getElem_cons (by omega), List.drop_eq_getElem_cons hi]
  rw [List.getElem?_eq_getElem (by omega)] at h1
  rw [List.getElem?_eq_getElem hi] at h2
  rw [Option.some.inj h1, Option.some.inj h2]
section
variable {P : Program} {w : World} {K : PySem.W.Frag} {mg : Str → Option Value} {base : Heap} {ad : Ad}
abbrev s_comes_before : Stmt := topS 11
abbrev N_comes_before : List Str := ["card", "c", "other", "e", "n", "k"]
theorem sc_comes_before : FnScope N_comes_before ["card", "c", "other", "e", "n"] (defScope s_comes_before) := ⟨rfl, rfl, rfl, by decide +kernel, rfl, by decide +kernel, by decide +kernel⟩
def sp_comes_before (K : PySem.W.Frag) : Sp := fun vs H Q _ => ∃ (a b : Addr) (x y : Pu.Card) (c e n : Nat), vs = [.ref a, .int (c : Int), .ref b, .int (e : Int), .int (n : Int)] ∧ SqL K H a (x.map vN) ∧ SqL K H b (y.map vN) ∧ COk x ∧ COk y ∧ c + n ≤ 80 ∧ e + n ≤ 80 ∧
  Q (.bl (Pu.comesBefore (Pu.keyBy c n x) (Pu.keyBy e n y))) H
theorem ok_comes_before {f : Addr} {fd : FuncData} (F : Fun K "comes_before" "comes_before" s_comes_before f fd) (T : Txt P w K mg ad) (D_column_rank : Dcl P w K mg base 1 "column_rank" ["holes"] sp_column_rank) : FnOk P w K mg base CX0 2 f fd ["card", "c", "other", "e", "n"] (sp_comes_before K) := by
  refine F.ok sc_comes_before (fun vs H Q E h => ?_) (fun cdv A outer s H vs Q E hr h => ?_)
  · obtain ⟨a, b, x, y, c, e, n, rfl, _⟩ := h; rfl
  · obtain ⟨a, b, x, y, c, e, n, rfl, ha, hb, ox, oy, hc, he, q⟩ := h
    have lx := ox.1
    have ly := oy.1
    refine ⟨_, (pss_cons (ps_for PassesOwn.never rfl (pi_range1 rfl T.b_range (pa_cons (pv 4) pa_nil)) (pg_name (i := 5) sc_comes_before.nd rfl (Or.inl rfl))
      (pss_one (ps_if (pt_cmpR op_ne (pe_ix ix_list (pv 0) (pe_op op_add (pv 1) (pv 5)) (fun _ _ => rfl)) (pe_ix ix_list (pv 2) (pe_op op_add (pv 3) (pv 5)) (fun _ _ => rfl)) (nomark _))
      (pss_one (ps_ret (pe_cmpR op_lt (pe_call D_column_rank.ok (hr.mono (by decide)) (by rfl) D_column_rank.g D_column_rank.kp D_column_rank.b .nil pass0 (pa_cons (pe_ix ix_list (pv 0) (pe_op op_add (pv 1) (pv 5)) (fun _ _ => rfl)) pa_nil)) (pe_call D_column_rank.ok (hr.mono (by decide)) (by rfl) D_column_rank.g D_column_rank.kp D_column_rank.b .nil pass0 (pa_cons (pe_ix ix_list (pv 2) (pe_op op_add (pv 3) (pv 5)) (fun _ _ => rfl)) pa_nil)) (nomark _))))
      pss_nil)))
      (pss_one (ps_ret pe_bl))), ?_⟩
    refine ⟨_, rfl, n, rfl, by omega, by omega, for_range (lo := 0) (n := n) (fun i σ H' => H' = H ∧ (∃ v, σ = [some (.ref a), some (.int (c : Int)), some (.ref b), some (.int (e : Int)), some (.int (n : Int)), v]) ∧ ∀ j, j < i → x.getD (c + j) 0 = y.getD (e + j) 0) ⟨rfl, ⟨none, rfl⟩, fun j hj => absurd hj (Nat.not_lt_zero j)⟩ ?_ ?_⟩
    · rintro i σ H' hi ⟨rfl, ⟨v, rfl⟩, hal⟩
      have g1 := at_nat (x := x) (z := (c : Int) + (0 + (i : Int))) (j := c + i) (by omega) (by omega)
      have g2 := at_nat (x := y) (z := (e : Int) + (0 + (i : Int))) (j := e + i) (by omega) (by omega)
      refine ⟨_, rfl, _, rfl, _, rfl, _, _, rfl, rfl, a, _, _, _, rfl, rfl, ha, g1, _, rfl, _, rfl, _, rfl, _, _, rfl, rfl, b, _, _, _, rfl, rfl, hb, g2, rfl, _, rfl, ?_⟩
      by_cases d : x.getD (c + i) 0 = y.getD (e + i) 0
      · refine iff_ ?_ ?_
        · rw [d, decide_eq_true rfl]; rfl
        · refine ⟨rfl, ⟨_, rfl⟩, fun j hj => ?_⟩
          by_cases z : j = i
          · rw [z]; exact d
          · exact hal j (by omega)
      · refine ift ?_ ?_
        · rw [decide_eq_false]
          · rfl
          · intro z
            apply d
            have := V.int.inj z
            omega
        · refine ⟨_, rfl, _, rfl, _, rfl, _, _, rfl, rfl, a, _, _, _, rfl, rfl, ha, g1, _, rfl, ox.get _, ?_⟩
          refine ⟨_, rfl, _, rfl, _, rfl, _, _, rfl, rfl, b, _, _, _, rfl, rfl, hb, g2, _, rfl, oy.get _, ?_⟩
          refine ⟨_, _, rfl, rfl, ?_⟩
          refine qbl q ?_
          rw [before_at hi (by omega) (by omega) hal d, decide_eq_decide]
          omega
    · rintro σ H' ⟨rfl, ⟨v, rfl⟩, hal⟩
      exact qbl q (before_none (by omega) (by omega) hal)
abbrev s_out_of_sequence : Stmt := topS 12
abbrev N_out_of_sequence : List Str := ["deck", "c", "n", "place"]
theorem sc_out_of_sequence : FnScope N_out_of_sequence ["deck", "c", "n"] (defScope s_out_of_sequence) := ⟨rfl, rfl, rfl, by decide +kernel, rfl, by decide +kernel, by decide +kernel⟩
def sp_out_of_sequence : Sp := fun vs H Q _ => ∃ (a : Addr) (d : Pu.Deck) (c n : Nat), vs = [.ref a, .int (c : Int), .int (n : Int)] ∧ DeckAt H a d ∧ DOk d ∧ c + n ≤ 80 ∧ d.length ≤ 100000 ∧
  Q (.int (((Pu.outOf c n d).getD 0 : Nat) : Int)) H
theorem ok_out_of_sequence {f : Addr} {fd : FuncData} (F : Fun K "out_of_sequence" "out_of_sequence" s_out_of_sequence f fd) (T : Txt P w K mg ad) (D_comes_before : Dcl P w K mg base 2 "comes_before" ["card", "c", "other", "e", "n"] (sp_comes_before K)) : FnOk P w K mg base CX0 3 f fd ["deck", "c", "n"] sp_out_of_sequence := by
  refine F.ok sc_out_of_sequence (fun vs H Q E h => ?_) (fun cdv A outer s H vs Q E hr h => ?_)
  · obtain ⟨a, d, c, n, rfl, _⟩ := h; rfl
  · obtain ⟨a, d, c, n, rfl, ⟨as, ea, ca⟩, od, hc, hl, q⟩ := h
    have hlen := ca.len
    refine ⟨_, (pss_cons (ps_for PassesOwn.never rfl (pi_range2 rfl T.b_range (pa_cons pe_int (pa_cons (pe_callB call_len_seq (by rfl) T.b_len PySem.boot_len (pa_cons (pv 0) pa_nil)) pa_nil))) (pg_name (i := 3) sc_out_of_sequence.nd rfl (Or.inl rfl))
      (pss_one (ps_if (pt_val (pe_call D_comes_before.ok (hr.mono (by decide)) (by rfl) D_comes_before.g D_comes_before.kp D_comes_before.b .nil pass0 (pa_cons (pe_ix ix_list (pv 0) (pv 3) (fun _ _ => rfl)) (pa_cons (pv 1) (pa_cons (pe_ix ix_list (pv 0) (pe_op op_sub (pv 3) pe_int) (fun _ _ => rfl)) (pa_cons (pv 1) (pa_cons (pv 2) pa_nil)))))))
      (pss_one (ps_ret (pv 3)))
      pss_nil)))
      (pss_one (ps_ret pe_int))), ?_⟩
    refine ⟨_, rfl, a, _, rfl, .inl (SqL.of ea), 1, ((as.map V.ref).length : Int), rfl, ⟨by decide, by decide, by rw [List.length_map]; omega, by rw [List.length_map]; omega⟩, ?_⟩
    have en : ((((as.map V.ref).length : Int) - 1).toNat) = d.length - 1 := by rw [List.length_map]; omega
    rw [en]
    refine for_range (lo := 1) (n := d.length - 1) (fun i σ H' => H' = H ∧ (∃ v, σ = [some (.ref a), some (.int (c : Int)), some (.int (n : Int)), v]) ∧ ∀ j, 1 ≤ j → j < 1 + i → bef c n d j = false) ⟨rfl, ⟨none, rfl⟩, fun j h1 h2 => by omega⟩ ?_ ?_
    · rintro i σ H' hi ⟨rfl, ⟨v, rfl⟩, hal⟩
      have h1 : d[1 + i]? = some d[1 + i] := List.getElem?_eq_getElem (by omega)
      have h2 : d[i]? = some d[i] := List.getElem?_eq_getElem (by omega)
      obtain ⟨a1, e1, k1⟩ := ca.get h1
      obtain ⟨a2, e2, k2⟩ := ca.get h2
      have g1 := at_ref (z := (1 : Int) + (i : Int)) e1 (by omega)
      have g2 := at_ref (z := (1 : Int) + (i : Int) - 1) e2 (by omega)
      refine ⟨_, rfl, _, rfl, a, _, _, _, rfl, rfl, SqL.of ea, g1, _, rfl, _, rfl, _, rfl, _, _, rfl, rfl, a, _, _, _, rfl, rfl, SqL.of ea, g2, _, rfl, _, rfl, ?_⟩
      refine ⟨a1, a2, d[1 + i], d[i], c, c, n, rfl, SqL.of k1, SqL.of k2, od _ (List.getElem_mem _), od _ (List.getElem_mem _), hc, hc, _, rfl, ?_⟩
      have eb : bef c n d (1 + i) = Pu.comesBefore (Pu.keyBy c n d[1 + i]) (Pu.keyBy c n d[i]) := by
        unfold bef
        rw [show 1 + i - 1 = i by omega, List.getD_eq_getElem?_getD, List.getD_eq_getElem?_getD, h1, h2]; rfl
      cases hb : Pu.comesBefore (Pu.keyBy c n d[1 + i]) (Pu.keyBy c n d[i]) with
      | true =>
        refine ift rfl ?_
        refine ⟨_, rfl, ?_⟩
        rw [outOf_some (c := c) (n := n) (d := d) (p := 1 + i) (by omega) (by omega) (by rw [eb, hb]) hal] at q
        exact qint q (by show ((1 + i : Nat) : Int) = 1 + (i : Int); omega)
      | false =>
        refine iff_ rfl ?_
        refine ⟨rfl, ⟨_, rfl⟩, fun j z1 z2 => ?_⟩
        by_cases z : j = 1 + i
        · rw [z, eb, hb]
        · exact hal j z1 (by omega)
    · rintro σ H' ⟨rfl, ⟨v, rfl⟩, hal⟩
      rw [outOf_none fun j z1 z2 => hal j z1 (by omega)] at q
      exact q
abbrev s_read_card : Stmt := topS 14
abbrev N_read_card : List Str := ["numbers", "card", "last", "at", "column", "holes"]
theorem sc_read_card : FnScope N_read_card ["numbers"] (defScope s_read_card) := ⟨rfl, rfl, rfl, by decide +kernel, rfl, by decide +kernel, by decide +kernel⟩
def sp_read_card (K : PySem.W.Frag) : Sp := fun vs H Q _ => ∃ (a : Addr) (ns : List Int), vs = [.ref a] ∧ SqL K H a (ns.map V.int) ∧ ns.length ≤ 100000 ∧
  (Machines.cardOf_ ns = none → ∀ H', Same H H' → Q .non H') ∧ (∀ x, Machines.cardOf_ ns = some x → NewL H Q (x.map vN))
theorem ok_read_card {f : Addr} {fd : FuncData} (F : Fun K "read_card" "read_card" s_read_card f fd) (T : Txt P w K mg ad) (D_blank_card : Dcl P w K mg base 1 "blank_card" [] sp_blank_card) (D_is_column : Dcl P w K mg base 1 "is_column" ["c"] sp_is_column) : FnOk P w K mg base CX0 2 f fd ["numbers"] (sp_read_card K) := by
  refine F.ok sc_read_card (fun vs H Q E h => ?_) (fun cdv A outer s H vs Q E hr h => ?_)
  · obtain ⟨a, ns, rfl, _⟩ := h; rfl
  · obtain ⟨a, ns, rfl, ha, hl, qn, qs⟩ := h
    refine ⟨_, (pss_cons (ps_if (pt_cmpR op_ne (pe_op op_mod (pe_callB call_len_seq (by rfl) T.b_len PySem.boot_len (pa_cons (pv 0) pa_nil)) pe_int) pe_int (nomark _))
      (pss_one (ps_ret pe_non))
      pss_nil)
      (pss_cons (ps_set (i := 1) sc_read_card.nd rfl (Or.inl rfl) (pe_call0 D_blank_card.ok (hr.mono (by decide)) (by rfl) D_blank_card.g D_blank_card.kp D_blank_card.b .nil pass0))
      (pss_cons (ps_set (i := 2) sc_read_card.nd rfl (Or.inl rfl) (pe_un un_neg pe_int))
      (pss_cons (ps_for PassesOwn.never rfl (pi_range3 rfl T.b_range (pa_cons pe_int (pa_cons (pe_callB call_len_seq (by rfl) T.b_len PySem.boot_len (pa_cons (pv 0) pa_nil)) (pa_cons pe_int pa_nil)))) (pg_name (i := 3) sc_read_card.nd rfl (Or.inl rfl))
      (pss_cons (ps_set (i := 4) sc_read_card.nd rfl (Or.inl rfl) (pe_ix ix_list (pv 0) (pv 3) (fun _ _ => rfl)))
      (pss_cons (ps_set (i := 5) sc_read_card.nd rfl (Or.inl rfl) (pe_ix ix_list (pv 0) (pe_op op_add (pv 3) pe_int) (fun _ _ => rfl)))
      (pss_cons (ps_if (PW.pt (pw_or (pt_cmpR op_le (pv 4) (pv 2) (nomark _)) (pw_or (pt_not (pt_val (pe_call D_is_column.ok (hr.mono (by decide)) (by rfl) D_is_column.g D_is_column.kp D_is_column.b .nil pass0 (pa_cons (pv 4) pa_nil)))) (pw_or (pt_cmpR op_lt (pv 5) pe_int (nomark _)) (pw_or1 (pt_cmpR op_gt (pv 5) (pe_gint (by rfl) T.g_MOST_HOLES) (nomark _)))))))
      (pss_one (ps_ret pe_non))
      pss_nil)
      (pss_cons (ps_asg (pv 5) (pg_sub (pv 1) (pv 4) set_list))
      (pss_one (ps_set (i := 2) sc_read_card.nd rfl (Or.inl rfl) (pv 4))))))))
      (pss_one (ps_ret (pv 1))))))), ?_⟩
    refine ⟨_, rfl, a, _, rfl, .inl ha, _, _, rfl, rfl, (by show (0 : Int) < 2; decide), rfl, _, rfl, ?_⟩
    have eo : (((ns.map V.int).length : Int) % 2) = ((ns.length % 2 : Nat) : Int) := by rw [List.length_map]; omega
    by_cases odd : ns.length % 2 = 0
    · refine iff_ ?_ ?_
      · show (!decide (V.int (((ns.map V.int).length : Int) % 2) = V.int 0)) = false
        rw [eo, odd]; rfl
      · refine ⟨rfl, fun H1 p s1 np hp => ?_⟩
        refine ⟨_, rfl, ?_⟩
        have ha1 := s1.seq ha
        refine ⟨_, rfl, a, _, rfl, .inl ha1, 0, ((ns.length : Nat) : Int), 2, ns.length / 2, ?_, rg2 _ (by omega) odd, ?_⟩
        · rw [List.length_map]
        refine for_rangeC (lo := 0) (c := 2) (n := ns.length / 2) (fun i σ H' => ∃ (y : Pu.Card) (last : Int) (v3 v4 v5 : Option V), σ = [some (.ref a), some (.ref p), some (.int last), v3, v4, v5] ∧ Same H H' ∧ H' p = some (.lst (y.map vN)) ∧ y.length = 80 ∧ rcM last y (ns.drop (2 * i)) = Machines.cardOf_ ns) ?_ ?_ ?_
        · exact ⟨Pu.blankCard, -1, none, none, none, rfl, s1, hp, rfl, rc_is ns⟩
        · rintro i σ H' hi ⟨y, last, v3, v4, v5, rfl, sm, hy, ly, inv⟩
          have h1 : ns[2 * i]? = some ns[2 * i] := List.getElem?_eq_getElem (by omega)
          have h2 : ns[2 * i + 1]? = some ns[2 * i + 1] := List.getElem?_eq_getElem (by omega)
          have ha2 := sm.seq ha
          rw [drop_two h1 h2, rcM] at inv
          generalize ns[2 * i] = col at *
          generalize ns[2 * i + 1] = hol at *
          refine ⟨_, rfl, _, rfl, a, _, _, _, rfl, rfl, ha2, at_int h1 (by omega), ?_⟩
          refine ⟨_, rfl, _, rfl, _, _, rfl, rfl, a, _, _, _, rfl, rfl, ha2, at_int h2 (by omega), ?_⟩
          refine ⟨_, rfl, _, rfl, _, _, rfl, rfl, _, rfl, ?_⟩
          by_cases c1 : col ≤ last
          · rw [if_pos (Or.inl c1)] at inv
            exact ift (decide_eq_true c1) (ift rfl (qn inv.symm H' sm))
          refine iff_ (decide_eq_false c1) ?_
          refine ⟨_, rfl, _, rfl, _, rfl, ?_⟩
          by_cases c2 : 0 ≤ col ∧ col < 80
          · refine iff_ (by rw [decide_eq_true c2]; rfl) ?_
            refine ⟨_, rfl, _, _, rfl, rfl, _, rfl, ?_⟩
            by_cases c3 : hol < 1
            · rw [if_pos (Or.inr (Or.inr (Or.inl c3)))] at inv
              exact ift (decide_eq_true c3) (ift rfl (qn inv.symm H' sm))
            refine iff_ (decide_eq_false c3) ?_
            refine ⟨_, rfl, _, _, rfl, rfl, _, rfl, ?_⟩
            by_cases c4 : 4095 < hol
            · rw [if_pos (Or.inr (Or.inr (Or.inr c4)))] at inv
              exact ift (decide_eq_true c4) (qn inv.symm H' sm)
            refine iff_ (decide_eq_false c4) ?_
            rw [if_neg (by omega)] at inv
            refine ⟨_, rfl, _, rfl, _, rfl, p, _, _, col.toNat, rfl, rfl, hy, ixN_nat (by rw [List.length_map]; omega) (by omega), ?_⟩
            refine ⟨_, rfl, ?_⟩
            refine ⟨y.set col.toNat hol.toNat, col, _, _, _, rfl, Same.mut sm np, ?_, by rw [List.length_set]; exact ly, ?_⟩
            · rw [upd_same, ← map_set_vN, Int.toNat_of_nonneg (by omega)]
            · rw [← inv]; congr 1
          · refine ift (by rw [decide_eq_false c2]; rfl) ?_
            rw [if_pos (Or.inr (Or.inl c2))] at inv
            exact ift rfl (qn inv.symm H' sm)
        · rintro σ H' ⟨y, last, v3, v4, v5, rfl, sm, hy, ly, inv⟩
          rw [show 2 * (ns.length / 2) = ns.length by omega, List.drop_length, rcM] at inv
          exact ⟨_, rfl, qs y inv.symm H' p sm np hy⟩
    · refine ift ?_ ?_
      · show (!decide (V.int (((ns.map V.int).length : Int) % 2) = V.int 0)) = true
        rw [eo, decide_eq_false]
        · rfl
        · intro z
          have := V.int.inj z
          omega
      · exact qn (by rw [← rc_is]; exact rc_odd _ _ _ odd) H (Same.refl H)
abbrev s_read_deck : Stmt := topS 15
abbrev N_read_deck : List Str := ["numbers", "deck", "at", "end", "card"]
theorem sc_read_deck : FnScope N_read_deck ["numbers"] (defScope s_read_deck) := ⟨rfl, rfl, rfl, by decide +kernel, rfl, by decide +kernel, by decide +kernel⟩
def sp_read_deck (K : PySem.W.Frag) : Sp := fun vs H Q _ => ∃ (a : Addr) (ns : List Int), vs = [.ref a] ∧ SqL K H a (ns.map V.int) ∧ ns.length ≤ 100000 ∧
  (Machines.deckOf ns = none → ∀ H', Same H H' → Q .non H') ∧ (∀ d, Machines.deckOf ns = some d → ∀ (H' : Hp) (p : Addr), Same H H' → H p = none → DeckAt H' p d → Q (.ref p) H')
theorem ok_read_deck {f : Addr} {fd : FuncData} (F : Fun K "read_deck" "read_deck" s_read_deck f fd) (T : Txt P w K mg ad) (D_read_card : Dcl P w K mg base 2 "read_card" ["numbers"] (sp_read_card K)) : FnOk P w K mg base CX0 3 f fd ["numbers"] (sp_read_deck K) := by
  refine F.ok sc_read_deck (fun vs H Q E h => ?_) (fun cdv A outer s H vs Q E hr h => ?_)
  · obtain ⟨a, ns, rfl, _⟩ := h; rfl
  · obtain ⟨a, ns, rfl, ha, hl, qn, qs⟩ := h
    refine ⟨_, (pss_cons (ps_set (i := 1) sc_read_deck.nd rfl (Or.inl rfl) (pe_lst pa_nil))
      (pss_cons (ps_set (i := 2) sc_read_deck.nd rfl (Or.inl rfl) pe_int)
      (pss_cons (ps_while PassesOwn.never (pt_cmpR op_lt (pv 2) (pe_callB call_len_seq (by rfl) T.b_len PySem.boot_len (pa_cons (pv 0) pa_nil)) (nomark _))
      (pss_cons (ps_set (i := 3) sc_read_deck.nd rfl (Or.inl rfl) (pe_op op_add (pe_op op_add (pv 2) pe_int) (pe_op op_mul pe_int (pe_ix ix_list (pv 0) (pv 2) (fun _ _ => rfl)))))
      (pss_cons (ps_if (PW.pt (pw_or (pt_cmpR op_lt (pe_ix ix_list (pv 0) (pv 2) (fun _ _ => rfl)) pe_int (nomark _)) (pw_or (pt_cmpR op_gt (pv 3) (pe_callB call_len_seq (by rfl) T.b_len PySem.boot_len (pa_cons (pv 0) pa_nil)) (nomark _)) (pw_or1 (pt_cmpR op_eq (pe_callB call_len_seq (by rfl) T.b_len PySem.boot_len (pa_cons (pv 1) pa_nil)) (pe_gint (by rfl) T.g_MOST_CARDS) (nomark _))))))
      (pss_one (ps_ret pe_non))
      pss_nil)
      (pss_cons (ps_set (i := 4) sc_read_deck.nd rfl (Or.inl rfl) (pe_call D_read_card.ok (hr.mono (by decide)) (by rfl) D_read_card.g D_read_card.kp D_read_card.b .nil pass0 (pa_cons (pe_slice sl_list (pv 0) (po_some (pe_op op_add (pv 2) pe_int)) (po_some (pv 3))) pa_nil)))
      (pss_cons (ps_if (pt_cmpR op_isN (pv 4) pe_non (nomark _))
      (pss_one (ps_ret pe_non))
      pss_nil)
      (pss_cons (ps_expr (pe_bm PySem.F.plainAttrs_list PySem.F.slot_list_append PySem.F.type_list_append mt_append (pv 1) (pa_cons (pv 4) pa_nil)))
      (pss_one (ps_set (i := 2) sc_read_deck.nd rfl (Or.inl rfl) (pv 3)))))))))
      (pss_one (ps_ret (pv 1)))))), ?_⟩
    refine ⟨Nat.zero_le _, fun p hp => ?_⟩
    refine while_by (fun σ H' => ∃ (i : Nat) (d : Pu.Deck) (v3 v4 : Option V), σ = [some (.ref a), some (.ref p), some (.int (i : Int)), v3, v4] ∧ i ≤ ns.length ∧ Same H H' ∧ DeckAt H' p d ∧ DOk d ∧ d.length ≤ 1000 ∧ Machines.deckOf ns = (rdR d.length (ns.drop i)).map (d ++ ·)) (fun σ H' => ns.length - (slotI σ 2).toNat) ?_ ?_ ?_
    · refine ⟨0, [], none, none, rfl, Nat.zero_le _, same_upd hp, ⟨[], upd_same, .nil⟩, (fun x hx => by cases hx), by decide, ?_⟩
      rw [List.drop_zero, ← rd_is]
      unfold rdR
      cases rdM ns.length 0 ns <;> rfl
    · rintro σ H' ⟨i, d, v3, v4, rfl, hi, sm, ⟨as, ep, ca⟩, od, hd1, inv⟩
      have ha1 := sm.seq ha
      have hlen := ca.len
      refine ⟨_, rfl, _, rfl, a, _, rfl, .inl ha1, _, _, rfl, rfl, _, rfl, ?_⟩
      by_cases c0 : i < ns.length
      · refine ift (decide_eq_true (by rw [List.length_map]; omega)) ?_
        have h1 : ns[i]? = some ns[i] := List.getElem?_eq_getElem c0
        have hr1 : ns.drop i = ns[i] :: ns.drop (i + 1) := List.drop_eq_getElem_cons c0
        rw [hr1, rdR_cons, List.length_drop] at inv
        generalize ns[i] = n at *
        refine ⟨_, rfl, _, _, rfl, rfl, _, rfl, _, rfl, a, _, _, _, rfl, rfl, ha1, at_int h1 rfl, _, _, rfl, rfl, .inl ⟨by decide, by decide⟩, _, _, rfl, rfl, ?_⟩
        refine ⟨_, rfl, _, rfl, a, _, _, _, rfl, rfl, ha1, at_int h1 rfl, _, _, rfl, rfl, _, rfl, ?_⟩
        by_cases c1 : n < 0
        · rw [if_pos (Or.inl c1)] at inv
          exact ift (decide_eq_true c1) (ift rfl (qn inv H' sm))
        refine iff_ (decide_eq_false c1) ?_
        refine ⟨_, rfl, _, rfl, a, _, rfl, .inl ha1, _, _, rfl, rfl, _, rfl, ?_⟩
        by_cases c2 : ((ns.map V.int).length : Int) < (i : Int) + 1 + 2 * n
        · rw [List.length_map] at c2
          rw [if_pos (Or.inr (Or.inl (by omega)))] at inv
          exact ift (decide_eq_true (by rw [List.length_map]; exact c2)) (ift rfl (qn inv H' sm))
        refine iff_ (decide_eq_false c2) ?_
        rw [List.length_map] at c2
        refine ⟨_, rfl, p, _, rfl, .inl (SqL.of ep), rfl, _, rfl, ?_⟩
        by_cases c3 : d.length = 1000
        · rw [if_pos (Or.inr (Or.inr c3))] at inv
          refine ift (decide_eq_true ?_) (qn inv H' sm)
          rw [List.length_map, hlen, c3]; rfl
        refine iff_ (decide_eq_false ?_) ?_
        · rw [List.length_map, hlen]
          intro z
          have := V.int.inj z
          omega
        rw [if_neg (by omega)] at inv
        have ecut : cutV (ns.map V.int) (some ((i : Int) + 1)) (some ((i : Int) + 1 + 2 * n)) = ((ns.drop (i + 1)).take (2 * n.toNat)).map V.int := by
          rw [cut_nat (i := i + 1) (j := i + 1 + 2 * n.toNat) (by rw [List.length_map]; omega) (by rw [List.length_map]; omega) (by omega) (by omega), ← List.map_drop, ← List.map_take]
          congr 2
          omega
        refine ⟨_, rfl, _, rfl, _, _, rfl, rfl, _, rfl, _, rfl, _, rfl, a, _, rfl, ha1, fun r nr => ?_⟩
        refine ⟨r, (ns.drop (i + 1)).take (2 * n.toNat), rfl, SqL.of (by rw [upd_same]; exact congrArg (fun z => some (HO.lst z)) ecut), by rw [List.length_take, List.length_drop]; omega, fun e H2 s2 => ?_, fun x e H2 b s2 nb hb => ?_⟩
        · refine ⟨_, rfl, rfl, _, rfl, ift rfl ?_⟩
          refine qn ?_ H2 ((sm.trans (same_upd nr)).trans s2)
          rw [inv, e]; rfl
        · have sm2 := (sm.trans (same_upd nr)).trans s2
          have ep2 := s2 _ _ ((same_upd (o := .lst (cutV (ns.map V.int) (some ((i : Int) + 1)) (some ((i : Int) + 1 + 2 * n)))) nr) _ _ ep)
          have ca2 := (ca.same (same_upd nr)).same s2
          refine ⟨_, rfl, rfl, _, rfl, iff_ (decide_eq_false (by intro z; cases z)) ?_⟩
          refine ⟨_, rfl, .inl ⟨rfl, _, SqL.of ep2⟩, _, rfl, p, _, _, rfl, rfl, ep2, ?_, ?_⟩
          · rw [List.length_map, hlen]
            exact Nat.lt_of_le_of_lt hd1 (by decide)
          refine ⟨_, rfl, ⟨i + 1 + 2 * n.toNat, d ++ [x], some (V.int ((i : Int) + 1 + 2 * n)), some (V.ref b), ?_, by omega, Same.mut sm2 hp, ⟨as ++ [b], ?_, ?_⟩, ?_, ?_, ?_⟩, ?_⟩
          · show [some (V.ref a), some (V.ref p), some (V.int ((i : Int) + 1 + 2 * n)), some (V.int ((i : Int) + 1 + 2 * n)), some (V.ref b)] = [some (V.ref a), some (V.ref p), some (V.int ((i + 1 + 2 * n.toNat : Nat) : Int)), some (V.int ((i : Int) + 1 + 2 * n)), some (V.ref b)]
            rw [show (i : Int) + 1 + 2 * n = ((i + 1 + 2 * n.toNat : Nat) : Int) by omega]
          · rw [upd_same, List.map_append]; rfl
          · refine (ca2.upd od ep2).append (.cons ?_ .nil)
            rw [upd_ne (card_ne hb (card_ok e) ep2)]
            exact hb
          · intro z hz
            rcases List.mem_append.mp hz with q | q
            · exact od z q
            · have : z = x := by simpa using q
              rw [this]; exact card_ok e
          · rw [List.length_append]
            show d.length + 1 ≤ 1000
            omega
          · have ed : ns.drop (i + 1 + 2 * n.toNat) = (ns.drop (i + 1)).drop (2 * n.toNat) := by rw [List.drop_drop]
            rw [inv, e, List.length_append, ed]
            show ((rdR (d.length + 1) _).map (x :: ·)).map (d ++ ·) = (rdR (d.length + 1) _).map (d ++ [x] ++ ·)
            rw [Option.map_map]
            congr 1
            funext y
            show d ++ x :: y = d ++ [x] ++ y
            rw [List.append_assoc]; rfl
          · show ns.length - ((i : Int) + 1 + 2 * n).toNat < ns.length - ((i : Int)).toNat
            omega
      · refine iff_ (decide_eq_false (by rw [List.length_map]; omega)) ?_
        rw [List.drop_eq_nil_iff.mpr (by omega), rdR_nil] at inv
        refine ⟨_, rfl, qs d ?_ H' p sm hp ⟨as, ep, ca⟩⟩
        rw [inv]
        show some (d ++ []) = some d
        rw [List.append_nil]
    · rintro σ H1 Q1 Q2 hq ⟨u1, e1, u2, e2, u3, u4, e3, e4, u5, u6, e5, e6, u7, e7, z⟩
      exact ⟨u1, e1, u2, e2, u3, u4, e3, e4, u5, u6, e5, e6, u7, e7, hq _ _ z⟩
end
end CP
/-! HCards3 -/
namespace CP
open PySem PySem.Spec PyProof.Rows L2
theorem size_big {n : Nat} (h : n ≤ 16000000) : n < sizeLine := Nat.lt_of_le_of_lt h (by decide)
section
variable {P : Program} {w : World} {K : PySem.W.Frag} {mg : Str → Option Value} {base : Heap} {ad : Ad}
abbrev s_tell_card : Stmt := topS 16
abbrev N_tell_card : List Str := ["card", "numbers", "column", "holes"]
theorem sc_tell_card : FnScope N_tell_card ["card"] (defScope s_tell_card) := ⟨rfl, rfl, rfl, by decide +kernel, rfl, by decide +kernel, by decide +kernel⟩
def sp_tell_card (K : PySem.W.Frag) : Sp := fun vs H Q _ => ∃ (a : Addr) (x : Pu.Card), vs = [.ref a] ∧ SqL K H a (x.map vN) ∧ x.length = 80 ∧ NewL H Q ((Pu.told x).map vN)
theorem ok_tell_card {f : Addr} {fd : FuncData} (F : Fun K "tell_card" "tell_card" s_tell_card f fd) (T : Txt P w K mg ad) : FnOk P w K mg base CX0 1 f fd ["card"] (sp_tell_card K) := by
  refine F.ok sc_tell_card (fun vs H Q E h => ?_) (fun cdv A outer s H vs Q E hr h => ?_)
  · obtain ⟨a, x, rfl, _⟩ := h; rfl
  · obtain ⟨a, x, rfl, ha, lx, q⟩ := h
    refine ⟨_, (pss_cons (ps_set (i := 1) sc_tell_card.nd rfl (Or.inl rfl) (pe_lst pa_nil))
      (pss_cons (ps_for PassesOwn.never rfl (pi_enum (by rfl) T.b_enumerate (pa_cons (pv 0) pa_nil)) (pg_tup rfl (pgs_cons (pg_name (i := 2) sc_tell_card.nd rfl (Or.inl rfl)) (pgs_cons (pg_name (i := 3) sc_tell_card.nd rfl (Or.inl rfl)) pgs_nil)))
      (pss_one (ps_if (pt_cmpR op_gt (pv 3) pe_int (nomark _))
      (pss_one (ps_expr (pe_bm PySem.F.plainAttrs_list PySem.F.slot_list_extend PySem.F.type_list_extend mt_extend (pv 1) (pa_cons (pe_lst (pa_cons (pv 2) (pa_cons (pv 3) pa_nil))) pa_nil))))
      pss_nil)))
      (pss_one (ps_ret (pv 1))))), ?_⟩
    refine ⟨Nat.zero_le _, fun p hp => ?_⟩
    refine ⟨_, rfl, a, _, rfl, (same_upd hp).seq ha, ?_⟩
    refine for_enum (K := K) (xs := x.map vN) (fun i σ H' => ∃ v2 v3, σ = [some (.ref a), some (.ref p), v2, v3] ∧ Same H H' ∧ H' p = some (.lst ((toldTo x i).map vN))) ⟨none, none, rfl, same_upd hp, upd_same⟩ ?_ ?_ ?_
    · rintro i σ H' _ ⟨v2, v3, rfl, sm, _⟩
      exact sm.seq ha
    · rintro i y σ H' T hy ⟨v2, v3, rfl, sm, hp2⟩ nT
      have hi : i < x.length := by
        apply Classical.byContradiction; intro z
        rw [List.getElem?_eq_none (by rw [List.length_map]; omega)] at hy; cases hy
      rw [List.getElem?_map, List.getElem?_eq_getElem hi] at hy
      have ey : y = .int (x[i] : Int) := (Option.some.inj hy).symm
      subst ey
      have eg : x.getD i 0 = x[i] := by rw [List.getD_eq_getElem?_getD, List.getElem?_eq_getElem hi]; rfl
      have sT := same_upd (o := .tup [.int (i : Nat), .int (x[i] : Int)]) nT
      have hp3 := sT _ _ hp2
      refine ⟨T, [_, _], rfl, .inl (.inl upd_same), rfl, _, [_], rfl, _, [], rfl, rfl, ?_⟩
      refine ⟨_, rfl, _, _, rfl, rfl, _, rfl, ?_⟩
      by_cases c : (0 : Int) < (x[i] : Int)
      · refine ift (decide_eq_true c) ?_
        refine ⟨_, rfl, .inl ⟨rfl, _, SqL.of hp3⟩, _, rfl, _, rfl, (by show 2 ≤ sizeLine; decide), fun r nr => ?_⟩
        have hp4 := (same_upd (o := .lst [V.int (i : Nat), V.int (x[i] : Int)]) nr) _ _ hp3
        refine ⟨p, r, _, _, rfl, rfl, hp4, upd_same, ?_, ?_⟩
        · have := toldTo_len x i
          rw [List.length_map]
          show _ + 2 ≤ _
          exact Nat.le_of_lt (size_big (by omega))
        · refine ⟨_, _, rfl, Same.mut (sm.trans (sT.trans (same_upd nr))) hp, ?_⟩
          rw [upd_same, toldTo_succ, eg, if_neg (by omega), List.map_append]; rfl
      · refine iff_ (decide_eq_false c) ?_
        refine ⟨_, _, rfl, sm.trans sT, ?_⟩
        rw [hp3, toldTo_succ, eg, if_pos (by omega), List.append_nil]
    · rintro σ H' ⟨v2, v3, rfl, sm, hp2⟩
      rw [List.length_map, lx] at hp2
      exact ⟨_, rfl, q H' p sm hp hp2⟩
abbrev s_tell_deck : Stmt := topS 17
abbrev N_tell_deck : List Str := ["deck", "numbers", "card", "told"]
theorem sc_tell_deck : FnScope N_tell_deck ["deck"] (defScope s_tell_deck) := ⟨rfl, rfl, rfl, by decide +kernel, rfl, by decide +kernel, by decide +kernel⟩
def sp_tell_deck : Sp := fun vs H Q _ => ∃ (a : Addr) (d : Pu.Deck), vs = [.ref a] ∧ DeckAt H a d ∧ DOk d ∧ d.length ≤ 13000 ∧ NewL H Q ((Machines.deckNums d).map V.int)
theorem ok_tell_deck {f : Addr} {fd : FuncData} (F : Fun K "tell_deck" "tell_deck" s_tell_deck f fd) (T : Txt P w K mg ad) (D_tell_card : Dcl P w K mg base 1 "tell_card" ["card"] (sp_tell_card K)) : FnOk P w K mg base CX0 2 f fd ["deck"] sp_tell_deck := by
  refine F.ok sc_tell_deck (fun vs H Q E h => ?_) (fun cdv A outer s H vs Q E hr h => ?_)
  · obtain ⟨a, x, rfl, _⟩ := h; rfl
  · obtain ⟨a, d, rfl, ⟨as, ea, ca⟩, od, hl, q⟩ := h
    have hlen := ca.len
    refine ⟨_, (pss_cons (ps_set (i := 1) sc_tell_deck.nd rfl (Or.inl rfl) (pe_lst pa_nil))
      (pss_cons (ps_for PassesOwn.never rfl (pi_list (pv 0)) (pg_name (i := 2) sc_tell_deck.nd rfl (Or.inl rfl))
      (pss_cons (ps_set (i := 3) sc_tell_deck.nd rfl (Or.inl rfl) (pe_call D_tell_card.ok (hr.mono (by decide)) (by rfl) D_tell_card.g D_tell_card.kp D_tell_card.b .nil pass0 (pa_cons (pv 2) pa_nil)))
      (pss_cons (ps_expr (pe_bm PySem.F.plainAttrs_list PySem.F.slot_list_append PySem.F.type_list_append mt_append (pv 1) (pa_cons (pe_op op_fdiv (pe_callB call_len_seq (by rfl) T.b_len PySem.boot_len (pa_cons (pv 3) pa_nil)) pe_int) pa_nil)))
      (pss_one (ps_expr (pe_bm PySem.F.plainAttrs_list PySem.F.slot_list_extend PySem.F.type_list_extend mt_extend (pv 1) (pa_cons (pv 3) pa_nil)))))))
      (pss_one (ps_ret (pv 1))))), ?_⟩
    refine ⟨Nat.zero_le _, fun p hp => ?_⟩
    refine ⟨_, rfl, a, rfl, ⟨_, SqL.of ((same_upd hp) _ _ ea)⟩, ?_⟩
    refine for_list (K := K) (a := a) (xs := as.map V.ref) (fun i σ H' => ∃ v2 v3, σ = [some (.ref a), some (.ref p), v2, v3] ∧ Same H H' ∧ H' p = some (.lst ((Machines.deckNums (d.take i)).map V.int))) ⟨none, none, rfl, same_upd hp, upd_same⟩ ?_ ?_ ?_
    · rintro i σ H' _ ⟨v2, v3, rfl, sm, _⟩
      exact SqL.of (sm _ _ ea)
    · rintro i y σ H' hy ⟨v2, v3, rfl, sm, hp2⟩
      have hi : i < d.length := by
        apply Classical.byContradiction; intro z
        rw [List.getElem?_eq_none (by rw [List.length_map]; omega)] at hy; cases hy
      have hd : d[i]? = some d[i] := List.getElem?_eq_getElem hi
      obtain ⟨b, e1, e2⟩ := ca.get hd
      rw [List.getElem?_map, e1] at hy
      have ey : y = .ref b := (Option.some.inj hy).symm
      subst ey
      have ox := od _ (List.getElem_mem hi)
      generalize d[i] = x at *
      refine ⟨_, rfl, b, x, rfl, SqL.of (sm _ _ e2), ox.1, fun H2 r s2 nr hr2 => ?_⟩
      have hp3 := s2 _ _ hp2
      have tl := told_len x
      have dl := deckNums_len (d.take i)
      rw [List.length_take] at dl
      refine ⟨_, rfl, .inl ⟨rfl, _, SqL.of hp3⟩, _, rfl, r, _, rfl, .inl (SqL.of hr2), _, _, rfl, rfl, ⟨by decide, by decide⟩, p, _, _, rfl, rfl, hp3, ?_, ?_⟩
      · rw [List.length_map]; exact size_big (by omega)
      have npr : r ≠ p := fun e => by rw [e, hp2] at nr; cases nr
      refine ⟨_, rfl, .inl ⟨rfl, _, SqL.of upd_same⟩, _, rfl, p, r, _, _, rfl, rfl, upd_same, by rw [upd_ne npr]; exact hr2, ?_, ?_⟩
      · rw [List.length_append, List.length_map, List.length_map]
        show _ + 1 + _ ≤ _
        exact Nat.le_of_lt (size_big (by omega))
      refine ⟨_, _, rfl, Same.mut (Same.mut (sm.trans s2) hp) hp, ?_⟩
      rw [upd_same, deckNums_take hd, List.map_append, List.map_cons, List.length_map, List.append_assoc]
      unfold Machines.ints
      rw [List.map_map]
      congr 5
    · rintro σ H' ⟨v2, v3, rfl, sm, hp2⟩
      rw [List.length_map, hlen, List.take_length] at hp2
      exact ⟨_, rfl, q H' p sm hp hp2⟩
end
end CP
/-! HSort -/
namespace CP
open PySem PySem.Spec PyProof.Rows L2
theorem eqv_ints : ∀ (l r : List Int), PyData.eqvAll (l.map PyData.int) (r.map PyData.int) = decide (l = r)
  | [], [] => by rw [decide_eq_true rfl]; rfl
  | [], _ :: _ => by rw [decide_eq_false (by intro z; cases z)]; rfl
  | _ :: _, [] => by rw [decide_eq_false (by intro z; cases z)]; rfl
  | a :: l, b :: r => by
    show (a == b && PyData.eqvAll (l.map PyData.int) (r.map PyData.int)) = _
    rw [eqv_ints l r]
    by_cases q : a = b
    · subst q
      rw [beq_self_eq_true, Bool.true_and, decide_eq_decide]
      exact ⟨fun h => by rw [h], fun h => (List.cons.inj h).2⟩
    · rw [(beq_eq_false_iff_ne (a := a) (b := b)).mpr q, Bool.false_and, decide_eq_false (fun z => q (List.cons.inj z).1)]
theorem dp_ints {K : PySem.W.Frag} {H : Hp} : ∀ l : List Int, DpAll K H (l.map V.int) (l.map PyData.int)
  | [] => .nil
  | _ :: l => .cons (.int _) (dp_ints l)
theorem lay_ints : ∀ l : List Int, PyData.canLayAll0 (l.map PyData.int) = true ∧ PyData.depthAll (l.map PyData.int) = 0
  | [] => ⟨by simp [PyData.canLayAll0], by simp [PyData.depthAll]⟩
  | a :: l => by
    obtain ⟨h1, h2⟩ := lay_ints l
    refine ⟨?_, ?_⟩
    · rw [List.map_cons, PyData.canLayAll0, h1, PyData.canLay0]; rfl
    · rw [List.map_cons, PyData.depthAll, h2, PyData.depth]; rfl
theorem shaped_ints (l : List Int) : SeqAt.shaped (.list (l.map PyData.int)) = true := by
  obtain ⟨h1, h2⟩ := lay_ints l
  unfold SeqAt.shaped
  rw [PyData.canLay0, h1, PyData.depth, h2]
  rfl
section
variable {P : Program} {w : World} {K : PySem.W.Frag} {mg : Str → Option Value} {base : Heap} {ad : Ad}
abbrev s_is_order : Stmt := topS 147
abbrev N_is_order : List Str := ["order"]
theorem sc_is_order : FnScope N_is_order ["order"] (defScope s_is_order) := ⟨rfl, rfl, rfl, by decide +kernel, rfl, by decide +kernel, by decide +kernel⟩
def sp_is_order (K : PySem.W.Frag) : Sp := fun vs H Q _ => ∃ (a : Addr) (ns : List Int), vs = [.ref a] ∧ SqL K H a (ns.map V.int) ∧ ∀ H', Same H H' → Q (.bl ((Machines.nats ns).any Pu.isStack)) H'
theorem ok_is_order {f : Addr} {fd : FuncData} (F : Fun K "is_order" "is_order" s_is_order f fd) (T : Txt P w K mg ad) : FnOk P w K mg base CX0 1 f fd ["order"] (sp_is_order K) := by
  refine F.ok sc_is_order (fun vs H Q E h => ?_) (fun cdv A outer s H vs Q E hr h => ?_)
  · obtain ⟨a, x, rfl, _⟩ := h; rfl
  · obtain ⟨a, ns, rfl, ha, q⟩ := h
    refine ⟨_, (pss_one (ps_ret (pe_and (pe_cmpR op_eq (pe_callB call_len_seq (by rfl) T.b_len PySem.boot_len (pa_cons (pv 0) pa_nil)) (pe_gint (by rfl) T.g_POCKETS) (nomark _)) (pe_one (pe_cmpR (op_eqD hr.units) (pe_callB cr_sortedI (by rfl) T.b_sorted (by decide +kernel) (pa_cons (pv 0) pa_nil)) (pe_listRg (by rfl) (by rfl) T.b_list (prg_1 (by rfl) T.b_range (pe_gint (by rfl) T.g_POCKETS))) (nomark _)))))), ?_⟩
    refine ⟨_, rfl, a, _, rfl, .inl ha, rfl, _, rfl, ?_⟩
    by_cases c : ns.length = 13
    · refine ift (decide_eq_true (by rw [List.length_map, c]; rfl)) ?_
      refine ⟨_, rfl, a, ns, rfl, ha, fun ns' p pm sr np => ?_⟩
      refine ⟨_, rfl, RgOk.of_le (by decide) (by decide) (by decide) (by decide), fun r nr => ?_⟩
      refine ⟨_, _, .lst (SqL.of ((same_upd nr) _ _ upd_same)) (dp_ints ns'), .lst (SqL.of (xs := upTo13.map V.int) upd_same) (dp_ints upTo13), shaped_ints _, shaped_ints _, ?_⟩
      refine qbl (q _ ((same_upd np).trans (same_upd nr))) ?_
      rw [← order_is c pm sr]
      exact (eqv_ints ns' upTo13).symm
    · refine iff_ (decide_eq_false ?_) ?_
      · rw [List.length_map]
        intro z
        have := V.int.inj z
        omega
      · refine qbl (q H (Same.refl H)) ?_
        cases h : (Machines.nats ns).any Pu.isStack with
        | false => rfl
        | true => exact absurd (stack_len h) c
abbrev s_is_pass : Stmt := topS 148
abbrev N_is_pass : List Str := ["c", "looked", "order"]
theorem sc_is_pass : FnScope N_is_pass ["c", "looked", "order"] (defScope s_is_pass) := ⟨rfl, rfl, rfl, by decide +kernel, rfl, by decide +kernel, by decide +kernel⟩
def sp_is_pass (K : PySem.W.Frag) : Sp := fun vs H Q _ => ∃ (c looked : Int) (a : Addr) (ns : List Int), vs = [.int c, .int looked, .ref a] ∧ SqL K H a (ns.map V.int) ∧
  ∀ H', Same H H' → Q (.bl (decide (0 ≤ c ∧ c < 80 ∧ 0 ≤ looked ∧ (Machines.nats ns).any Pu.isStack = true))) H'
theorem ok_is_pass {f : Addr} {fd : FuncData} (F : Fun K "is_pass" "is_pass" s_is_pass f fd) (T : Txt P w K mg ad) (D_is_column : Dcl P w K mg base 1 "is_column" ["c"] sp_is_column) (D_is_order : Dcl P w K mg base 1 "is_order" ["order"] (sp_is_order K)) : FnOk P w K mg base CX0 2 f fd ["c", "looked", "order"] (sp_is_pass K) := by
  refine F.ok sc_is_pass (fun vs H Q E h => ?_) (fun cdv A outer s H vs Q E hr h => ?_)
  · obtain ⟨c, l, a, x, rfl, _⟩ := h; rfl
  · obtain ⟨c, l, a, ns, rfl, ha, q⟩ := h
    refine ⟨_, (pss_one (ps_ret (pe_and (pe_call D_is_column.ok (hr.mono (by decide)) (by rfl) D_is_column.g D_is_column.kp D_is_column.b .nil pass0 (pa_cons (pv 0) pa_nil)) (pe_and (pe_cmpR op_ge (pv 1) pe_int (nomark _)) (pe_one (pe_call D_is_order.ok (hr.mono (by decide)) (by rfl) D_is_order.g D_is_order.kp D_is_order.b .nil pass0 (pa_cons (pv 2) pa_nil))))))), ?_⟩
    refine ⟨_, rfl, _, rfl, _, rfl, ?_⟩
    by_cases c1 : 0 ≤ c ∧ c < 80
    · refine ift (decide_eq_true c1) ?_
      refine ⟨_, rfl, _, _, rfl, rfl, _, rfl, ?_⟩
      by_cases c2 : 0 ≤ l
      · refine ift (decide_eq_true c2) ?_
        refine ⟨_, rfl, a, ns, rfl, ha, fun H' s' => ?_⟩
        refine qbl (q H' s') ?_
        cases h : (Machines.nats ns).any Pu.isStack with
        | true => exact decide_eq_true ⟨c1.1, c1.2, c2, rfl⟩
        | false => exact decide_eq_false fun z => by cases z.2.2.2
      · refine iff_ (decide_eq_false c2) ?_
        exact qbl (q H (Same.refl H)) (decide_eq_false fun z => c2 z.2.2.1)
    · refine iff_ (decide_eq_false c1) ?_
      exact qbl (q H (Same.refl H)) (decide_eq_false fun z => c1 ⟨z.1, z.2.1⟩)
abbrev s_pocket_of : Stmt := topS 149
abbrev N_pocket_of : List Str := ["holes", "looked", "seen"]
theorem sc_pocket_of : FnScope N_pocket_of ["holes", "looked"] (defScope s_pocket_of) := ⟨rfl, rfl, rfl, by decide +kernel, rfl, by decide +kernel, by decide +kernel⟩
def sp_pocket_of : Sp := fun vs H Q _ => ∃ (h l : Nat), vs = [.int (h : Int), .int (l : Int)] ∧ h < 4096 ∧ Q (.int (Pu.pocketOf l h : Int)) H
theorem ok_pocket_of {f : Addr} {fd : FuncData} (F : Fun K "pocket_of" "pocket_of" s_pocket_of f fd) (T : Txt P w K mg ad) : FnOk P w K mg base CX0 1 f fd ["holes", "looked"] sp_pocket_of := by
  refine F.ok sc_pocket_of (fun vs H Q E h => ?_) (fun cdv A outer s H vs Q E hr h => ?_)
  · obtain ⟨h, l, rfl, _⟩ := h; rfl
  · obtain ⟨h, l, rfl, hh, q⟩ := h
    refine ⟨_, (pss_cons (ps_set (i := 2) sc_pocket_of.nd rfl (Or.inl rfl) (pe_op op_and (pv 0) (pv 1)))
      (pss_cons (ps_if (pt_cmpR op_eq (pv 2) pe_int (nomark _))
      (pss_one (ps_ret (pe_gint (by rfl) T.g_REJECT)))
      pss_nil)
      (pss_one (ps_ret (pe_op op_sub (pe_bits (pv 2)) pe_int))))), ?_⟩
    rw [pocket_is hh] at q
    refine ⟨_, rfl, _, rfl, _, _, rfl, rfl, ?_⟩
    refine ⟨_, rfl, rfl, _, rfl, ?_⟩
    by_cases c : h &&& l = 0
    · refine ift (decide_eq_true (by show V.int (Builtin.bitAnd (h : Int) (l : Int)) = _; rw [band_nat, c]; rfl)) ?_
      rw [if_pos c] at q
      exact q
    · refine iff_ (decide_eq_false ?_) ?_
      · show ¬ V.int (Builtin.bitAnd (h : Int) (l : Int)) = _
        rw [band_nat]
        intro z
        have := V.int.inj z
        omega
      · rw [if_neg c] at q
        refine ⟨_, rfl, _, rfl, _, _, rfl, rfl, ?_⟩
        refine qint q ?_
        show _ = ((Builtin.Int.intBits (Builtin.bitAnd (h : Int) (l : Int)) : Nat) : Int) - 1
        rw [band_nat]
        have : Builtin.Int.intBits ((h &&& l : Nat) : Int) = Nat.log2 (h &&& l) + 1 := by
          unfold Builtin.Int.intBits
          rw [if_neg (by rw [beq_iff_eq]; omega), Int.natAbs_natCast]
        rw [this]
        omega
abbrev s_drop_cards : Stmt := topS 150
abbrev N_drop_cards : List Str := ["deck", "c", "looked", "pockets", "card", "pocket"]
theorem sc_drop_cards : FnScope N_drop_cards ["deck", "c", "looked"] (defScope s_drop_cards) := ⟨rfl, rfl, rfl, by decide +kernel, rfl, by decide +kernel, by decide +kernel⟩
def sp_drop_cards : Sp := fun vs H Q _ => ∃ (a : Addr) (d : Pu.Deck) (c l : Nat), vs = [.ref a, .int (c : Int), .int (l : Int)] ∧ DeckAt H a d ∧ DOk d ∧ c < 80 ∧ d.length ≤ 4000 ∧
  ∀ (H' : Hp) (p : Addr), Same H H' → PocketsAt H' p 13 (Pu.pocket c l d) → Q (.ref p) H'
theorem ok_drop_cards {f : Addr} {fd : FuncData} (F : Fun K "drop_cards" "drop_cards" s_drop_cards f fd) (T : Txt P w K mg ad) (D_pocket_of : Dcl P w K mg base 1 "pocket_of" ["holes", "looked"] sp_pocket_of) : FnOk P w K mg base CX0 2 f fd ["deck", "c", "looked"] sp_drop_cards := by
  refine F.ok sc_drop_cards (fun vs H Q E h => ?_) (fun cdv A outer s H vs Q E hr h => ?_)
  · obtain ⟨a, d, c, l, rfl, _⟩ := h; rfl
  · obtain ⟨a, d, c, l, rfl, ⟨as, ea, ca⟩, od, hc, hl, q⟩ := h
    have hlen := ca.len
    refine ⟨_, (pss_cons (ps_setLc (i := 3) (own := [("pocket", 5)]) (g := gName 5) (by rfl) sc_drop_cards.nd rfl rfl (sw_true rfl rfl rfl (by decide +kernel)) (pi_range1 rfl T.b_range (pa_cons (pe_gint (by rfl) T.g_POCKETS) pa_nil)) (blkOk_by (own := [("pocket", 5)]) (N := N_drop_cards) (sc := defScope s_drop_cards) (by decide +kernel)) (fun _ _ _ _ _ => pg_name (i := 5) sc_drop_cards.nd rfl (Or.inl rfl)) (fun _ _ _ _ _ => pts_nil) (fun _ _ _ _ _ => (pe_lst pa_nil)))
      (pss_cons (ps_for PassesOwn.never rfl (pi_list (pv 0)) (pg_name (i := 4) sc_drop_cards.nd rfl (Or.inl rfl))
      (pss_one (ps_expr (pe_bm PySem.F.plainAttrs_list PySem.F.slot_list_append PySem.F.type_list_append mt_append (pe_ix ix_list (pv 3) (pe_call D_pocket_of.ok (hr.mono (by decide)) (by rfl) D_pocket_of.g D_pocket_of.kp D_pocket_of.b .nil pass0 (pa_cons (pe_ix ix_list (pv 4) (pv 1) (fun _ _ => rfl)) (pa_cons (pv 2) pa_nil))) (fun _ _ => rfl)) (pa_cons (pv 4) pa_nil)))))
      (pss_one (ps_ret (pv 3))))), ?_⟩
    refine ⟨13, rfl, by decide, by decide, fun D nD => ?_⟩
    refine lc_range (lo := 0) (n := 13) (fun i H' => Same H H' ∧ ∃ qs : List Addr, qs.length = i ∧ qs.Nodup ∧ D ∉ qs ∧ (∀ q ∈ qs, H q = none ∧ H' q = some (.lst [])) ∧ H' D = some (.lst (qs.map V.ref))) ?_ ?_ ?_
    · exact ⟨same_upd nD, [], rfl, List.nodup_nil, by simp, by simp, upd_same⟩
    · rintro i H' hi ⟨sm, qs, lq, nd, nm, hq, eD⟩
      refine ⟨rfl, ?_⟩
      refine ⟨Nat.zero_le _, fun b nb => ?_⟩
      have nbD : D ≠ b := ne_of_none eD nb
      have nbq : b ∉ qs := fun z => by rw [(hq b z).2] at nb; cases nb
      refine ⟨_, by rw [upd_ne nbD]; exact eD, by rw [List.length_map]; exact size_big (by omega), Same.mut (sm.trans (same_upd nb)) nD, qs ++ [b], by rw [List.length_append, lq]; rfl, ?_, ?_, ?_, ?_⟩
      · rw [List.nodup_append]
        refine ⟨nd, by simp, fun x hx y hy e => ?_⟩
        have : y = b := by simpa using hy
        rw [e, this] at hx
        exact nbq hx
      · intro z
        rcases List.mem_append.mp z with z | z
        · exact nm z
        · exact nbD (by simpa using z)
      · intro x hx
        rcases List.mem_append.mp hx with z | z
        · refine ⟨(hq x z).1, ?_⟩
          rw [upd_ne (show x ≠ D from fun e => nm (e ▸ z)), upd_ne (show x ≠ b from fun e => nbq (e ▸ z))]
          exact (hq x z).2
        · have : x = b := by simpa using z
          subst this
          refine ⟨sm.free nb, ?_⟩
          rw [upd_ne (Ne.symm nbD), upd_same]
      · rw [upd_same, List.map_append]; rfl
    · rintro H1 ⟨sm, qs, lq, nd, nm, hq, eD⟩
      refine ⟨_, rfl, a, rfl, ⟨_, SqL.of (sm _ _ ea)⟩, ?_⟩
      refine for_list (K := K) (a := a) (xs := as.map V.ref) (fun i σ H' => ∃ v4 v5, σ = [some (.ref a), some (.int (c : Int)), some (.int (l : Int)), some (.ref D), v4, v5] ∧ Same H H' ∧ H' D = some (.lst (qs.map V.ref)) ∧ ∀ (k : Nat) (q : Addr), qs[k]? = some q → DeckAt H' q (Pu.pocket c l (d.take i) k)) ⟨_, _, rfl, sm, eD, fun k q hk => ⟨[], (hq q (List.mem_of_getElem? hk)).2, .nil⟩⟩ ?_ ?_ ?_
      · rintro i σ H' _ ⟨v4, v5, rfl, s2, _⟩
        exact SqL.of (s2 _ _ ea)
      · rintro i y σ H' hy ⟨v4, v5, rfl, s2, eD2, hk⟩
        have hi : i < d.length := by
          apply Classical.byContradiction; intro z
          rw [List.getElem?_eq_none (by rw [List.length_map]; omega)] at hy; cases hy
        have hd : d[i]? = some d[i] := List.getElem?_eq_getElem hi
        obtain ⟨b, e1, e2⟩ := ca.get hd
        rw [List.getElem?_map, e1] at hy
        have ey : y = .ref b := (Option.some.inj hy).symm
        subst ey
        have ox := od _ (List.getElem_mem hi)
        generalize d[i] = x at *
        have hb := s2 _ _ e2
        have lx := ox.1
        have plt := pocketOf_lt (x.getD c 0) l
        have hqj : qs[Pu.pocketOf l (x.getD c 0)]? = some qs[Pu.pocketOf l (x.getD c 0)] := List.getElem?_eq_getElem (by omega)
        have dk : ∀ k, DOk (Pu.pocket c l (d.take i) k) := fun k z hz => od z (List.mem_of_mem_take (List.mem_filter.mp hz).1)
        have hnq : H qs[Pu.pocketOf l (x.getD c 0)] = none := (hq _ (List.getElem_mem (by omega))).1
        have neD : qs[Pu.pocketOf l (x.getD c 0)] ≠ D := fun e => nm (e ▸ List.getElem_mem (by omega))
        generalize hj : qs[Pu.pocketOf l (x.getD c 0)] = qj at *
        obtain ⟨bs, f1, f2⟩ := hk _ _ hqj
        refine ⟨_, rfl, _, rfl, _, rfl, b, _, _, _, rfl, rfl, SqL.of hb, at_nat (by omega) rfl, _, rfl, x.getD c 0, l, rfl, ox.get c, D, _, _, _, rfl, rfl, SqL.of eD2, at_ref hqj rfl, ?_⟩
        refine ⟨.inl ⟨rfl, _, SqL.of f1⟩, _, rfl, qj, _, _, rfl, rfl, f1, ?_, ?_⟩
        · rw [List.length_map, f2.len]
          refine size_big (Nat.le_trans (List.length_filter_le _ _) ?_)
          rw [List.length_take]; omega
        · refine ⟨_, _, rfl, Same.mut s2 hnq, by rw [upd_ne (Ne.symm neD)]; exact eD2, fun k q' hk' => ?_⟩
          rw [pocket_take hd]
          by_cases z : Pu.pocketOf l (x.getD c 0) = k
          · subst z
            rw [if_pos rfl]
            rw [hqj] at hk'
            rw [← Option.some.inj hk']
            exact DeckAt.push f1 f2 (dk _) hb ox
          · rw [if_neg z, List.append_nil]
            refine (hk k q' hk').upd (dk k) (fun e => z ?_) f1
            exact nd_ix nd (hqj) (e ▸ hk')
      · rintro σ H' ⟨v4, v5, rfl, s2, eD2, hk⟩
        refine ⟨_, rfl, q H' D s2 ⟨qs, eD2, lq, fun k q' hk' => ?_⟩⟩
        have := hk k q' hk'
        rwa [List.length_map, hlen, List.take_length] at this
abbrev s_stack : Stmt := topS 151
abbrev N_stack : List Str := ["pockets", "order", "cards", "pocket"]
theorem sc_stack : FnScope N_stack ["pockets", "order"] (defScope s_stack) := ⟨rfl, rfl, rfl, by decide +kernel, rfl, by decide +kernel, by decide +kernel⟩
def sp_stack (K : PySem.W.Frag) : Sp := fun vs H Q _ => ∃ (p a : Addr) (n : Nat) (g : Nat → Pu.Deck) (s : List Int), vs = [.ref p, .ref a] ∧ PocketsAt H p n g ∧ SqL K H a (s.map V.int) ∧ (∀ z ∈ s, 0 ≤ z ∧ z < (n : Int)) ∧ (∀ i, DOk (g i)) ∧
  ((s.map Int.toNat).flatMap g).length ≤ 13000 ∧ ∀ (H' : Hp) (r : Addr), Same H H' → H r = none → DeckAt H' r ((s.map Int.toNat).flatMap g) → Q (.ref r) H'
theorem ok_stack {f : Addr} {fd : FuncData} (F : Fun K "stack" "stack" s_stack f fd) : FnOk P w K mg base CX0 1 f fd ["pockets", "order"] (sp_stack K) := by
  refine F.ok sc_stack (fun vs H Q E h => ?_) (fun cdv A outer s H vs Q E hr h => ?_)
  · obtain ⟨p, a, n, g, s, rfl, _⟩ := h; rfl
  · obtain ⟨p, a, n, g, ord, rfl, ⟨qs, ep, lq, hq⟩, ha, hz, og, hl, q⟩ := h
    refine ⟨_, (pss_cons (ps_set (i := 2) sc_stack.nd rfl (Or.inl rfl) (pe_lst pa_nil))
      (pss_cons (ps_for PassesOwn.never rfl (pi_list (pv 1)) (pg_name (i := 3) sc_stack.nd rfl (Or.inl rfl))
      (pss_one (ps_expr (pe_bm PySem.F.plainAttrs_list PySem.F.slot_list_extend PySem.F.type_list_extend mt_extend (pv 2) (pa_cons (pe_ix ix_list (pv 0) (pv 3) (fun _ _ => rfl)) pa_nil)))))
      (pss_one (ps_ret (pv 2))))), ?_⟩
    refine ⟨Nat.zero_le _, fun r nr => ?_⟩
    refine ⟨_, rfl, a, rfl, ⟨_, (same_upd nr).seq ha⟩, ?_⟩
    have tl : ∀ i, (((ord.take i).map Int.toNat).flatMap g).length ≤ 13000 := by
      intro i
      refine Nat.le_trans ?_ hl
      rw [← List.take_append_drop i ord, List.map_append, List.flatMap_append, List.length_append]
      simp only [List.take_append_drop]
      omega
    refine for_list (K := K) (a := a) (xs := ord.map V.int) (fun i σ H' => ∃ v3, σ = [some (.ref p), some (.ref a), some (.ref r), v3] ∧ Same H H' ∧ DeckAt H' r (((ord.take i).map Int.toNat).flatMap g)) ⟨none, rfl, same_upd nr, ⟨[], upd_same, .nil⟩⟩ ?_ ?_ ?_
    · rintro i σ H' _ ⟨v3, rfl, sm, _⟩
      exact sm.seq ha
    · rintro i y σ H' hy ⟨v3, rfl, sm, as, er, ca⟩
      obtain ⟨z, hz1, rfl⟩ : ∃ z, ord[i]? = some z ∧ y = V.int z := by
        rw [List.getElem?_map] at hy
        cases e : ord[i]? with
        | none => rw [e] at hy; cases hy
        | some z => rw [e] at hy; exact ⟨z, rfl, (Option.some.inj hy).symm⟩
      obtain ⟨z0, z1⟩ := hz z (List.mem_of_getElem? hz1)
      have hqj : qs[z.toNat]? = some qs[z.toNat] := List.getElem?_eq_getElem (by omega)
      obtain ⟨bs, f1, f2⟩ := hq _ _ hqj
      generalize qs[z.toNat] = qj at *
      have tl1 := tl (i + 1)
      rw [List.take_add_one, hz1, List.map_append, List.flatMap_append, List.length_append] at tl1
      simp only [Option.toList_some, List.map_cons, List.map_nil, List.flatMap_cons, List.flatMap_nil, List.append_nil] at tl1
      have ep1 := sm _ _ ep
      have fl1 := sm _ _ f1
      refine ⟨_, rfl, .inl ⟨rfl, _, SqL.of er⟩, _, rfl, _, rfl, p, _, _, _, rfl, rfl, SqL.of ep1, at_ref hqj (by omega), r, qj, _, _, rfl, rfl, er, fl1, ?_, ?_⟩
      · rw [List.length_map, List.length_map, ca.len, f2.len]
        exact Nat.le_of_lt (size_big (by omega))
      · refine ⟨_, rfl, Same.mut sm nr, as ++ bs, by rw [upd_same, List.map_append], ?_⟩
        rw [List.take_add_one, hz1, List.map_append, List.flatMap_append]
        simp only [Option.toList_some, List.map_cons, List.map_nil, List.flatMap_cons, List.flatMap_nil, List.append_nil]
        refine ((ca.upd (fun x hx => ?_) er).append ((f2.same sm).upd (og _) er))
        rw [List.mem_flatMap] at hx
        obtain ⟨j, _, hj⟩ := hx
        exact og j x hj
    · rintro σ H' ⟨v3, rfl, sm, hd⟩
      rw [List.length_map, List.take_length] at hd
      exact ⟨_, rfl, q H' r sm nr hd⟩
end
end CP
/-! HColl -/
namespace CP
open PySem PySem.Spec PyProof.Rows L2
def kOf (k : List Nat) : List L2.Key := k.map fun (h : Nat) => Sum.inl (h : Int)
theorem kOf_inj : ∀ {a b : List Nat}, kOf a = kOf b → a = b
  | [], [], _ => rfl
  | [], _ :: _, h => by cases h
  | _ :: _, [], h => by cases h
  | x :: a, y :: b, h => by
    have h1 := List.cons.inj h
    have h2 := Sum.inl.inj h1.1
    rw [kOf_inj (a := a) (b := b) h1.2]
    congr 1
    omega
theorem kOf_kV (k : List Nat) : (kOf k).map kV = k.map vN := by
  unfold kOf
  rw [List.map_map]; rfl
def rTupOf (K : PySem.W.Frag) : List V → Hp → VK → Prop := fun xs H Q => ∃ p ys, xs = [.ref p] ∧ ((SqL K H p ys ∧ ∀ l, H l = none → Q (.ref l) (upd H l (.tup ys))) ∨ (SqT K H p ys ∧ Q (.ref p) H))
/-- the keys of a dict are a set of fields -/
def FieldsAt (H : Hp) (a : Addr) (S : List Nat → Bool) : Prop := ∃ kvs, H a = some (.dT kvs) ∧ kvs.length ≤ 4000 ∧ ∀ k : List Nat, (valV kvs (kOf k)).isSome = S k
theorem FieldsAt.same {H H' : Hp} {a : Addr} {S : List Nat → Bool} (h : FieldsAt H a S) (s : Same H H') : FieldsAt H' a S := by
  obtain ⟨kvs, e, l, q⟩ := h
  exact ⟨kvs, s _ _ e, l, q⟩
theorem cut_field {x : Pu.Card} {c n : Nat} {z : Int} (h : c + n ≤ x.length) (e : z = ((c + n : Nat) : Int)) : cutV (x.map vN) (some (c : Int)) (some z) = (Pu.fieldOf x c n).map vN := by
  rw [cut_nat (i := c) (j := c + n) (by rw [List.length_map]; omega) (by rw [List.length_map]; omega) rfl e, ← List.map_drop, ← List.map_take]
  unfold Pu.fieldOf
  congr 2
  omega
def fieldsIn (c n : Nat) (d : Pu.Deck) (k : List Nat) : Bool := d.any fun y => decide (Pu.fieldOf y c n = k)
theorem fieldsIn_take {c n i : Nat} {d : Pu.Deck} {x : Pu.Card} (h : d[i]? = some x) (k : List Nat) : fieldsIn c n (d.take (i + 1)) k = (fieldsIn c n (d.take i) k || decide (Pu.fieldOf x c n = k)) := by
  unfold fieldsIn
  rw [List.take_add_one, h, List.any_append]
  simp
section
variable {P : Program} {w : World} {K : PySem.W.Frag} {mg : Str → Option Value} {base : Heap} {ad : Ad}
abbrev s_is_collation : Stmt := topS 105
abbrev N_is_collation : List Str := ["c", "e", "n", "how"]
theorem sc_is_collation : FnScope N_is_collation ["c", "e", "n", "how"] (defScope s_is_collation) := ⟨rfl, rfl, rfl, by decide +kernel, rfl, by decide +kernel, by decide +kernel⟩
def sp_is_collation : Sp := fun vs H Q _ => ∃ (c e n how : Int), vs = [.int c, .int e, .int n, .int how] ∧ Q (.bl (decide ((0 ≤ c ∧ 1 ≤ n ∧ c + n ≤ 80) ∧ (0 ≤ e ∧ 1 ≤ n ∧ e + n ≤ 80) ∧ 0 ≤ how ∧ how ≤ 2))) H
theorem ok_is_collation {f : Addr} {fd : FuncData} (F : Fun K "is_collation" "is_collation" s_is_collation f fd) (T : Txt P w K mg ad) (D_is_field : Dcl P w K mg base 1 "is_field" ["c", "n"] sp_is_field) : FnOk P w K mg base CX0 2 f fd ["c", "e", "n", "how"] sp_is_collation := by
  refine F.ok sc_is_collation (fun vs H Q E h => ?_) (fun cdv A outer s H vs Q E hr h => ?_)
  · obtain ⟨c, e, n, how, rfl, _⟩ := h; rfl
  · obtain ⟨c, e, n, how, rfl, q⟩ := h
    refine ⟨_, (pss_one (ps_ret (pe_and (pe_call D_is_field.ok (hr.mono (by decide)) (by rfl) D_is_field.g D_is_field.kp D_is_field.b .nil pass0 (pa_cons (pv 0) (pa_cons (pv 2) pa_nil))) (pe_and (pe_call D_is_field.ok (hr.mono (by decide)) (by rfl) D_is_field.g D_is_field.kp D_is_field.b .nil pass0 (pa_cons (pv 1) (pa_cons (pv 2) pa_nil))) (pe_and (pe_cmpR op_le (pe_gint (by rfl) T.g_MERGED) (pv 3) (nomark _)) (pe_one (pe_cmpR op_le (pv 3) (pe_gint (by rfl) T.g_MERGED_WHERE_MATCHED) (nomark _)))))))), ?_⟩
    refine ⟨_, rfl, _, rfl, _, _, rfl, _, rfl, ?_⟩
    by_cases c1 : 0 ≤ c ∧ 1 ≤ n ∧ c + n ≤ 80
    · refine ift (decide_eq_true c1) ?_
      refine ⟨_, rfl, _, rfl, _, _, rfl, _, rfl, ?_⟩
      by_cases c2 : 0 ≤ e ∧ 1 ≤ n ∧ e + n ≤ 80
      · refine ift (decide_eq_true c2) ?_
        refine ⟨_, rfl, _, _, rfl, rfl, _, rfl, ?_⟩
        by_cases c3 : 0 ≤ how
        · refine ift (decide_eq_true c3) ?_
          refine ⟨_, rfl, _, _, rfl, rfl, ?_⟩
          exact qbl q (decide_eq_decide.mpr ⟨fun h => h.2.2.2, fun h => ⟨c1, c2, c3, h⟩⟩)
        · refine iff_ (decide_eq_false c3) ?_
          exact qbl q (decide_eq_false fun z => c3 z.2.2.1)
      · refine iff_ (decide_eq_false c2) ?_
        exact qbl q (decide_eq_false fun z => c2 z.2.1)
    · refine iff_ (decide_eq_false c1) ?_
      exact qbl q (decide_eq_false fun z => c1 z.1)
abbrev s_fields_of : Stmt := topS 107
abbrev N_fields_of : List Str := ["deck", "c", "n", "fields", "card"]
theorem sc_fields_of : FnScope N_fields_of ["deck", "c", "n"] (defScope s_fields_of) := ⟨rfl, rfl, rfl, by decide +kernel, rfl, by decide +kernel, by decide +kernel⟩
def sp_fields_of : Sp := fun vs H Q _ => ∃ (a : Addr) (d : Pu.Deck) (c n : Nat), vs = [.ref a, .int (c : Int), .int (n : Int)] ∧ DeckAt H a d ∧ DOk d ∧ c + n ≤ 80 ∧ d.length ≤ 1000 ∧
  ∀ (H' : Hp) (p : Addr), Same H H' → FieldsAt H' p (fieldsIn c n d) → Q (.ref p) H'
theorem ok_fields_of {f : Addr} {fd : FuncData} (F : Fun K "fields_of" "fields_of" s_fields_of f fd) (T : Txt P w K mg ad) : FnOk P w K mg base CX0 1 f fd ["deck", "c", "n"] sp_fields_of := by
  refine F.ok sc_fields_of (fun vs H Q E h => ?_) (fun cdv A outer s H vs Q E hr h => ?_)
  · obtain ⟨a, d, c, n, rfl, _⟩ := h; rfl
  · obtain ⟨a, d, c, n, rfl, ⟨as, ea, ca⟩, od, hc, hl, q⟩ := h
    have hlen := ca.len
    refine ⟨_, (pss_cons (ps_set (i := 3) sc_fields_of.nd rfl (Or.inl rfl) pe_dnewT)
      (pss_cons (ps_for PassesOwn.never rfl (pi_list (pv 0)) (pg_name (i := 4) sc_fields_of.nd rfl (Or.inl rfl))
      (pss_one (ps_dput (hu_of hr) (pv 3) (pe_callTy call_tuple_of (by rfl) T.b_tuple (by decide +kernel) (pa_cons (pe_slice sl_list (pv 4) (po_some (pv 1)) (po_some (pe_op op_add (pv 1) (pv 2)))) pa_nil)) pe_bl rfl)))
      (pss_one (ps_ret (pv 3))))), ?_⟩
    intro p np
    refine ⟨_, rfl, a, rfl, ⟨_, SqL.of ((same_upd np) _ _ ea)⟩, ?_⟩
    refine for_list (K := K) (a := a) (xs := as.map V.ref) (fun i σ H' => ∃ v4 kvs, σ = [some (.ref a), some (.int (c : Int)), some (.int (n : Int)), some (.ref p), v4] ∧ Same H H' ∧ H' p = some (.dT kvs) ∧ kvs.length ≤ i ∧ ∀ k : List Nat, (valV kvs (kOf k)).isSome = fieldsIn c n (d.take i) k) ⟨none, [], rfl, same_upd np, upd_same, Nat.le_refl _, fun k => rfl⟩ ?_ ?_ ?_
    · rintro i σ H' _ ⟨v4, kvs, rfl, s2, _⟩
      exact SqL.of (s2 _ _ ea)
    · rintro i y σ H' hy ⟨v4, kvs, rfl, s2, ep, lk, hk⟩
      have hi : i < d.length := by
        apply Classical.byContradiction; intro z
        rw [List.getElem?_eq_none (by rw [List.length_map]; omega)] at hy; cases hy
      have hd : d[i]? = some d[i] := List.getElem?_eq_getElem hi
      obtain ⟨b, e1, e2⟩ := ca.get hd
      rw [List.getElem?_map, e1] at hy
      have ey : y = .ref b := (Option.some.inj hy).symm
      subst ey
      have ox := od _ (List.getElem_mem hi)
      generalize d[i] = x at *
      have hb := s2 _ _ e2
      have lx := ox.1
      refine ⟨_, rfl, _, rfl, _, rfl, _, rfl, _, rfl, _, rfl, _, _, rfl, rfl, _, rfl, b, _, rfl, SqL.of hb, fun r nr => ?_⟩
      have ecut := cut_field (x := x) (c := c) (n := n) (z := (c : Int) + (n : Int)) (by omega) (by omega)
      have hr1 : (upd H' r (.lst (cutV (x.map vN) (some (c : Int)) (some ((c : Int) + (n : Int)))))) r = some (.lst ((Pu.fieldOf x c n).map vN)) := by rw [upd_same, ecut]
      refine ⟨r, _, rfl, .inl ⟨SqL.of hr1, fun t nt => ?_⟩⟩
      have s3 := (same_upd (o := .lst (cutV (x.map vN) (some (c : Int)) (some ((c : Int) + (n : Int))))) nr).trans (same_upd (o := .tup ((Pu.fieldOf x c n).map vN)) nt)
      have ep3 := s3 _ _ ep
      refine ⟨p, _, rfl, DPut.t (k := kOf (Pu.fieldOf x c n)) ep3 (by rw [upd_same, kOf_kV]) (size_big (by omega)), ?_⟩
      refine ⟨_, _, rfl, Same.mut (s2.trans s3) np, upd_same, ?_, fun k => ?_⟩
      · have := length_putK kvs (kOf (Pu.fieldOf x c n)) (V.bl true)
        omega
      · rw [valV_put, fieldsIn_take hd]
        by_cases z : Pu.fieldOf x c n = k
        · rw [if_pos (by rw [z]), decide_eq_true z, Bool.or_true]; rfl
        · rw [if_neg (fun e => z (kOf_inj e).symm), decide_eq_false z, Bool.or_false, hk]
    · rintro σ H' ⟨v4, kvs, rfl, s2, ep, lk, hk⟩
      rw [List.length_map, hlen] at lk
      refine ⟨_, rfl, q H' p s2 ⟨kvs, ep, by omega, fun k => ?_⟩⟩
      rw [hk k, List.length_map, hlen, List.take_length]
abbrev s_cards_like : Stmt := topS 108
abbrev N_cards_like : List Str := ["deck", "c", "n", "fields", "card"]
theorem sc_cards_like : FnScope N_cards_like ["deck", "c", "n", "fields"] (defScope s_cards_like) := ⟨rfl, rfl, rfl, by decide +kernel, rfl, by decide +kernel, by decide +kernel⟩
def sp_cards_like (neg : Bool) : Sp := fun vs H Q _ => ∃ (a fa : Addr) (d : Pu.Deck) (c n : Nat) (S : List Nat → Bool), vs = [.ref a, .int (c : Int), .int (n : Int), .ref fa] ∧ DeckAt H a d ∧ DOk d ∧ c + n ≤ 80 ∧ d.length ≤ 1000 ∧ FieldsAt H fa S ∧
  ∀ (H' : Hp) (p : Addr), Same H H' → DeckAt H' p (d.filter fun x => if neg then !S (Pu.fieldOf x c n) else S (Pu.fieldOf x c n)) → Q (.ref p) H'
theorem ok_cards_like {f : Addr} {fd : FuncData} (F : Fun K "cards_like" "cards_like" s_cards_like f fd) (T : Txt P w K mg ad) : FnOk P w K mg base CX0 1 f fd ["deck", "c", "n", "fields"] (sp_cards_like false) := by
  refine F.ok sc_cards_like (fun vs H Q E h => ?_) (fun cdv A outer s H vs Q E hr h => ?_)
  · obtain ⟨a, fa, d, c, n, S, rfl, _⟩ := h; rfl
  · obtain ⟨a, fa, d, c, n, S, rfl, ⟨as, ea, ca⟩, od, hc, hl, ⟨kvs, ef, lk, hk⟩, q⟩ := h
    have hlen := ca.len
    refine ⟨_, (pss_one (ps_ret (pe_lc (own := [("card", 4)]) (g := gName 4) (tt := tB (tDIn (tCB (rTupOf K) (tCons (tSl (rSlL K) (tVar 4) (tPart (tVar 1)) (tPart (tOp (rI0 fun i j => .int (i + j)) (tVar 1) (tVar 2)))) tNil)) (tVar 3))) (te := tVar 4) (by rfl) sc_cards_like.nd (pi_list (pv 0)) (blkOk_by (own := [("card", 4)]) (N := N_cards_like) (sc := defScope s_cards_like) (by decide +kernel)) (fun _ _ _ _ _ => pg_name (i := 4) sc_cards_like.nd rfl (Or.inl rfl)) (fun _ _ _ _ _ => (pts_one (pt_cmp (pc_din (hu_of hr) (pe_callTy call_tuple_of (by rfl) T.b_tuple (by decide +kernel) (pa_cons (pe_slice sl_list (pv 4) (po_some (pv 1)) (po_some (pe_op op_add (pv 1) (pv 2)))) pa_nil)) (pv 3))))) (fun _ _ _ _ _ => (pv 4))))), ?_⟩
    refine ⟨_, rfl, a, rfl, ⟨_, SqL.of ea⟩, fun D nD => ?_⟩
    refine lc_list (K := K) (a := a) (xs := as.map V.ref) (fun i H' => Same H H' ∧ DeckAt H' D ((d.take i).filter fun x => S (Pu.fieldOf x c n))) ⟨same_upd nD, ⟨[], upd_same, .nil⟩⟩ ?_ ?_ ?_
    · rintro i H' _ ⟨s2, _⟩
      exact SqL.of (s2 _ _ ea)
    · rintro i y H' hy ⟨s2, bs, f1, f2⟩
      have hi : i < d.length := by
        apply Classical.byContradiction; intro z
        rw [List.getElem?_eq_none (by rw [List.length_map]; omega)] at hy; cases hy
      have hd : d[i]? = some d[i] := List.getElem?_eq_getElem hi
      obtain ⟨b, e1, e2⟩ := ca.get hd
      rw [List.getElem?_map, e1] at hy
      have ey : y = .ref b := (Option.some.inj hy).symm
      subst ey
      have ox := od _ (List.getElem_mem hi)
      have odt : DOk ((d.take i).filter fun x => S (Pu.fieldOf x c n)) := fun z hz => od z (List.mem_of_mem_take (List.mem_filter.mp hz).1)
      have fl : ((d.take i).filter fun x => S (Pu.fieldOf x c n)).length ≤ 1000 := by
        refine Nat.le_trans (List.length_filter_le _ _) ?_
        rw [List.length_take]; omega
      have etk : ((d.take (i + 1)).filter fun x => S (Pu.fieldOf x c n)) = ((d.take i).filter fun x => S (Pu.fieldOf x c n)) ++ (if S (Pu.fieldOf d[i] c n) = true then [d[i]] else []) := by
        rw [List.take_add_one, hd, List.filter_append]
        congr 1
        show List.filter _ [d[i]] = _
        rw [List.filter_cons]; rfl
      generalize d[i] = x at *
      have hb := s2 _ _ e2
      have lx := ox.1
      refine ⟨rfl, ?_⟩
      refine ⟨_, rfl, _, rfl, _, rfl, _, rfl, _, rfl, _, _, rfl, rfl, _, rfl, b, _, rfl, SqL.of hb, fun r nr => ?_⟩
      have ecut := cut_field (x := x) (c := c) (n := n) (z := (c : Int) + (n : Int)) (by omega) (by omega)
      have hr1 : (upd H' r (.lst (cutV (x.map vN) (some (c : Int)) (some ((c : Int) + (n : Int)))))) r = some (.lst ((Pu.fieldOf x c n).map vN)) := by rw [upd_same, ecut]
      refine ⟨r, _, rfl, .inl ⟨SqL.of hr1, fun t nt => ?_⟩⟩
      have s3 := (same_upd (o := .lst (cutV (x.map vN) (some (c : Int)) (some ((c : Int) + (n : Int))))) nr).trans (same_upd (o := .tup ((Pu.fieldOf x c n).map vN)) nt)
      refine ⟨_, rfl, fa, _, rfl, DGet.t (k := kOf (Pu.fieldOf x c n)) (s3 _ _ (s2 _ _ ef)) (by rw [upd_same, kOf_kV]), _, rfl, ?_⟩
      have f13 := s3 _ _ f1
      have f23 := f2.same s3
      rw [hk]
      cases z : S (Pu.fieldOf x c n) with
      | true =>
        refine ift rfl ?_
        refine ⟨_, rfl, _, f13, by rw [List.length_map, f2.len]; exact size_big (by omega), Same.mut (s2.trans s3) nD, ?_⟩
        rw [etk, z, if_pos rfl]
        exact DeckAt.push f13 f23 odt (s3 _ _ hb) ox
      | false =>
        refine iff_ rfl ?_
        refine ⟨s2.trans s3, ?_⟩
        rw [etk, z, if_neg Bool.false_ne_true, List.append_nil]
        exact ⟨bs, f13, f23⟩
    · rintro H' ⟨s2, hd⟩
      rw [List.length_map, hlen, List.take_length] at hd
      exact q H' D s2 hd
abbrev s_cards_unlike : Stmt := topS 109
abbrev N_cards_unlike : List Str := ["deck", "c", "n", "fields", "card"]
theorem sc_cards_unlike : FnScope N_cards_unlike ["deck", "c", "n", "fields"] (defScope s_cards_unlike) := ⟨rfl, rfl, rfl, by decide +kernel, rfl, by decide +kernel, by decide +kernel⟩
theorem ok_cards_unlike {f : Addr} {fd : FuncData} (F : Fun K "cards_unlike" "cards_unlike" s_cards_unlike f fd) (T : Txt P w K mg ad) : FnOk P w K mg base CX0 1 f fd ["deck", "c", "n", "fields"] (sp_cards_like true) := by
  refine F.ok sc_cards_unlike (fun vs H Q E h => ?_) (fun cdv A outer s H vs Q E hr h => ?_)
  · obtain ⟨a, fa, d, c, n, S, rfl, _⟩ := h; rfl
  · obtain ⟨a, fa, d, c, n, S, rfl, ⟨as, ea, ca⟩, od, hc, hl, ⟨kvs, ef, lk, hk⟩, q⟩ := h
    have hlen := ca.len
    refine ⟨_, (pss_one (ps_ret (pe_lc (own := [("card", 4)]) (g := gName 4) (tt := tB (tDNotIn (tCB (rTupOf K) (tCons (tSl (rSlL K) (tVar 4) (tPart (tVar 1)) (tPart (tOp (rI0 fun i j => .int (i + j)) (tVar 1) (tVar 2)))) tNil)) (tVar 3))) (te := tVar 4) (by rfl) sc_cards_unlike.nd (pi_list (pv 0)) (blkOk_by (own := [("card", 4)]) (N := N_cards_unlike) (sc := defScope s_cards_unlike) (by decide +kernel)) (fun _ _ _ _ _ => pg_name (i := 4) sc_cards_unlike.nd rfl (Or.inl rfl)) (fun _ _ _ _ _ => (pts_one (pt_cmp (pc_dnotin (hu_of hr) (pe_callTy call_tuple_of (by rfl) T.b_tuple (by decide +kernel) (pa_cons (pe_slice sl_list (pv 4) (po_some (pv 1)) (po_some (pe_op op_add (pv 1) (pv 2)))) pa_nil)) (pv 3))))) (fun _ _ _ _ _ => (pv 4))))), ?_⟩
    refine ⟨_, rfl, a, rfl, ⟨_, SqL.of ea⟩, fun D nD => ?_⟩
    refine lc_list (K := K) (a := a) (xs := as.map V.ref) (fun i H' => Same H H' ∧ DeckAt H' D ((d.take i).filter fun x => !S (Pu.fieldOf x c n))) ⟨same_upd nD, ⟨[], upd_same, .nil⟩⟩ ?_ ?_ ?_
    · rintro i H' _ ⟨s2, _⟩
      exact SqL.of (s2 _ _ ea)
    · rintro i y H' hy ⟨s2, bs, f1, f2⟩
      have hi : i < d.length := by
        apply Classical.byContradiction; intro z
        rw [List.getElem?_eq_none (by rw [List.length_map]; omega)] at hy; cases hy
      have hd : d[i]? = some d[i] := List.getElem?_eq_getElem hi
      obtain ⟨b, e1, e2⟩ := ca.get hd
      rw [List.getElem?_map, e1] at hy
      have ey : y = .ref b := (Option.some.inj hy).symm
      subst ey
      have ox := od _ (List.getElem_mem hi)
      have odt : DOk ((d.take i).filter fun x => !S (Pu.fieldOf x c n)) := fun z hz => od z (List.mem_of_mem_take (List.mem_filter.mp hz).1)
      have fl : ((d.take i).filter fun x => !S (Pu.fieldOf x c n)).length ≤ 1000 := by
        refine Nat.le_trans (List.length_filter_le _ _) ?_
        rw [List.length_take]; omega
      have etk : ((d.take (i + 1)).filter fun x => !S (Pu.fieldOf x c n)) = ((d.take i).filter fun x => !S (Pu.fieldOf x c n)) ++ (if (!S (Pu.fieldOf d[i] c n)) = true then [d[i]] else []) := by
        rw [List.take_add_one, hd, List.filter_append]
        congr 1
        show List.filter _ [d[i]] = _
        rw [List.filter_cons]; rfl
      generalize d[i] = x at *
      have hb := s2 _ _ e2
      have lx := ox.1
      refine ⟨rfl, ?_⟩
      refine ⟨_, rfl, _, rfl, _, rfl, _, rfl, _, rfl, _, _, rfl, rfl, _, rfl, b, _, rfl, SqL.of hb, fun r nr => ?_⟩
      have ecut := cut_field (x := x) (c := c) (n := n) (z := (c : Int) + (n : Int)) (by omega) (by omega)
      have hr1 : (upd H' r (.lst (cutV (x.map vN) (some (c : Int)) (some ((c : Int) + (n : Int)))))) r = some (.lst ((Pu.fieldOf x c n).map vN)) := by rw [upd_same, ecut]
      refine ⟨r, _, rfl, .inl ⟨SqL.of hr1, fun t nt => ?_⟩⟩
      have s3 := (same_upd (o := .lst (cutV (x.map vN) (some (c : Int)) (some ((c : Int) + (n : Int))))) nr).trans (same_upd (o := .tup ((Pu.fieldOf x c n).map vN)) nt)
      refine ⟨_, rfl, fa, _, rfl, DGet.t (k := kOf (Pu.fieldOf x c n)) (s3 _ _ (s2 _ _ ef)) (by rw [upd_same, kOf_kV]), _, rfl, ?_⟩
      have f13 := s3 _ _ f1
      have f23 := f2.same s3
      rw [hk]
      cases z : S (Pu.fieldOf x c n) with
      | false =>
        refine ift rfl ?_
        refine ⟨_, rfl, _, f13, by rw [List.length_map, f2.len]; exact size_big (by omega), Same.mut (s2.trans s3) nD, ?_⟩
        rw [etk, z, if_pos (by decide)]
        exact DeckAt.push f13 f23 odt (s3 _ _ hb) ox
      | true =>
        refine iff_ rfl ?_
        refine ⟨s2.trans s3, ?_⟩
        rw [etk, z, if_neg (by decide), List.append_nil]
        exact ⟨bs, f13, f23⟩
    · rintro H' ⟨s2, hd⟩
      rw [List.length_map, hlen, List.take_length] at hd
      exact q H' D s2 hd
abbrev s_merge : Stmt := topS 106
abbrev N_merge : List Str := ["first", "c", "second", "e", "n", "merged", "i", "j"]
theorem sc_merge : FnScope N_merge ["first", "c", "second", "e", "n"] (defScope s_merge) := ⟨rfl, rfl, rfl, by decide +kernel, rfl, by decide +kernel, by decide +kernel⟩
def sp_merge : Sp := fun vs H Q _ => ∃ (a b : Addr) (d1 d2 : Pu.Deck) (c e n : Nat), vs = [.ref a, .int (c : Int), .ref b, .int (e : Int), .int (n : Int)] ∧ DeckAt H a d1 ∧ DeckAt H b d2 ∧ DOk d1 ∧ DOk d2 ∧ c + n ≤ 80 ∧ e + n ≤ 80 ∧ d1.length ≤ 1000 ∧ d2.length ≤ 1000 ∧
  ∀ (H' : Hp) (p : Addr), Same H H' → DeckAt H' p (Pu.merged (Pu.keyBy c n) (Pu.keyBy e n) d1 d2) → Q (.ref p) H'
theorem ok_merge {f : Addr} {fd : FuncData} (F : Fun K "merge" "merge" s_merge f fd) (T : Txt P w K mg ad) (D_comes_before : Dcl P w K mg base 2 "comes_before" ["card", "c", "other", "e", "n"] (sp_comes_before K)) : FnOk P w K mg base CX0 3 f fd ["first", "c", "second", "e", "n"] sp_merge := by
  refine F.ok sc_merge (fun vs H Q E h => ?_) (fun cdv A outer s H vs Q E hr h => ?_)
  · obtain ⟨a, b, d1, d2, c, e, n, rfl, _⟩ := h; rfl
  · obtain ⟨a, b, d1, d2, c, e, n, rfl, ⟨as, ea, ca⟩, ⟨bs, eb, cb⟩, o1, o2, hc, he, l1, l2, q⟩ := h
    have la := ca.len
    have lb := cb.len
    refine ⟨_, (pss_cons (ps_set (i := 5) sc_merge.nd rfl (Or.inl rfl) (pe_lst pa_nil))
      (pss_cons (ps_set (i := 6) sc_merge.nd rfl (Or.inl rfl) pe_int)
      (pss_cons (ps_set (i := 7) sc_merge.nd rfl (Or.inl rfl) pe_int)
      (pss_cons (ps_while PassesOwn.never (PW.pt (pw_and (pt_cmpR op_lt (pv 6) (pe_callB call_len_seq (by rfl) T.b_len PySem.boot_len (pa_cons (pv 0) pa_nil)) (nomark _)) (pw_and1 (pt_cmpR op_lt (pv 7) (pe_callB call_len_seq (by rfl) T.b_len PySem.boot_len (pa_cons (pv 2) pa_nil)) (nomark _)))))
      (pss_one (ps_if (pt_val (pe_call D_comes_before.ok (hr.mono (by decide)) (by rfl) D_comes_before.g D_comes_before.kp D_comes_before.b .nil pass0 (pa_cons (pe_ix ix_list (pv 2) (pv 7) (fun _ _ => rfl)) (pa_cons (pv 3) (pa_cons (pe_ix ix_list (pv 0) (pv 6) (fun _ _ => rfl)) (pa_cons (pv 1) (pa_cons (pv 4) pa_nil)))))))
      (pss_cons (ps_expr (pe_bm PySem.F.plainAttrs_list PySem.F.slot_list_append PySem.F.type_list_append mt_append (pv 5) (pa_cons (pe_ix ix_list (pv 2) (pv 7) (fun _ _ => rfl)) pa_nil)))
      (pss_one (ps_aug (i := 7) sc_merge.nd rfl (Or.inl rfl) pe_int ip_add)))
      (pss_cons (ps_expr (pe_bm PySem.F.plainAttrs_list PySem.F.slot_list_append PySem.F.type_list_append mt_append (pv 5) (pa_cons (pe_ix ix_list (pv 0) (pv 6) (fun _ _ => rfl)) pa_nil)))
      (pss_one (ps_aug (i := 6) sc_merge.nd rfl (Or.inl rfl) pe_int ip_add))))))
      (pss_one (ps_ret (pe_op op_cat (pe_op op_cat (pv 5) (pe_slice sl_list (pv 0) (po_some (pv 6)) po_none)) (pe_slice sl_list (pv 2) (po_some (pv 7)) po_none)))))))), ?_⟩
    refine ⟨Nat.zero_le _, fun p np => ?_⟩
    refine while_by (fun σ H' => ∃ (i j : Nat) (z1 z2 : Int) (d : Pu.Deck), σ = [some (.ref a), some (.int (c : Int)), some (.ref b), some (.int (e : Int)), some (.int (n : Int)), some (.ref p), some (.int z1), some (.int z2)] ∧ z1 = (i : Int) ∧ z2 = (j : Int) ∧ i ≤ d1.length ∧ j ≤ d2.length ∧ d.length ≤ i + j ∧ DOk d ∧ Same H H' ∧ DeckAt H' p d ∧ Pu.merged (Pu.keyBy c n) (Pu.keyBy e n) d1 d2 = d ++ Pu.merged (Pu.keyBy c n) (Pu.keyBy e n) (d1.drop i) (d2.drop j)) (fun σ H' => d1.length + d2.length - (slotI σ 6).toNat - (slotI σ 7).toNat) ?_ ?_ ?_
    · exact ⟨0, 0, 0, 0, [], rfl, rfl, rfl, Nat.zero_le _, Nat.zero_le _, Nat.le_refl _, (fun x hx => by cases hx), same_upd np, ⟨[], upd_same, .nil⟩, rfl⟩
    · rintro σ H' ⟨i, j, z1, z2, d, rfl, rfl, rfl, hi, hj, hd, od, sm, ⟨ps, ep, cp⟩, inv⟩
      have ea1 := sm _ _ ea
      have eb1 := sm _ _ eb
      have fin : (i = d1.length ∨ j = d2.length) → ∀ H1, Same H' H1 → tRet (tOp rCat (tOp rCat (tVar 5) (tSl (rSlL K) (tVar 0) (tPart (tVar 6)) tNoPart)) (tSl (rSlL K) (tVar 2) (tPart (tVar 7)) tNoPart)) { nx := fun _ H' => Q .non H', rt := Q } [some (.ref a), some (.int (c : Int)), some (.ref b), some (.int (e : Int)), some (.int (n : Int)), some (.ref p), some (.int (i : Int)), some (.int (j : Int))] H1 := by
        intro hend H1 s1
        have ep1 := s1 _ _ ep
        have ea2 := s1 _ _ ea1
        have eb2 := s1 _ _ eb1
        refine ⟨_, rfl, _, rfl, _, rfl, _, rfl, a, _, rfl, SqL.of ea2, fun r nr => ?_⟩
        have ec1 : cutV (as.map V.ref) (some (i : Int)) none = (as.drop i).map V.ref := by rw [cut_from (i := i) (by rw [List.length_map]; omega) rfl, List.map_drop]
        have er : (upd H1 r (.lst (cutV (as.map V.ref) (some (i : Int)) none))) r = some (.lst ((as.drop i).map V.ref)) := by rw [upd_same, ec1]
        have s2 := same_upd (o := .lst (cutV (as.map V.ref) (some (i : Int)) none)) nr
        refine ⟨p, r, _, _, rfl, rfl, s2 _ _ ep1, er, ?_, fun t nt => ?_⟩
        · rw [List.length_map, List.length_map, List.length_drop, cp.len]
          exact Nat.le_of_lt (size_big (by omega))
        have s3 := same_upd (o := .lst (ps.map V.ref ++ (as.drop i).map V.ref)) nt
        have ec2 : cutV (bs.map V.ref) (some (j : Int)) none = (bs.drop j).map V.ref := by rw [cut_from (i := j) (by rw [List.length_map]; omega) rfl, List.map_drop]
        refine ⟨_, rfl, _, rfl, _, rfl, b, _, rfl, SqL.of (s3 _ _ (s2 _ _ eb2)), fun u nu => ?_⟩
        have s4 := same_upd (o := .lst (cutV (bs.map V.ref) (some (j : Int)) none)) nu
        refine ⟨t, u, ps.map V.ref ++ (as.drop i).map V.ref, (bs.drop j).map V.ref, rfl, rfl, s4 _ _ upd_same, by rw [upd_same, ec2], ?_, fun v nv => ?_⟩
        · rw [List.length_append, List.length_map, List.length_map, List.length_map, List.length_drop, List.length_drop, cp.len]
          exact Nat.le_of_lt (size_big (by omega))
        have s5 := same_upd (o := .lst (ps.map V.ref ++ (as.drop i).map V.ref ++ (bs.drop j).map V.ref)) nv
        have sA := s1.trans (s2.trans (s3.trans (s4.trans s5)))
        refine q _ v (sm.trans sA) ⟨ps ++ as.drop i ++ bs.drop j, by rw [upd_same, List.map_append, List.map_append], ?_⟩
        rw [inv]
        have em : Pu.merged (Pu.keyBy c n) (Pu.keyBy e n) (d1.drop i) (d2.drop j) = d1.drop i ++ d2.drop j := by
          rcases hend with z | z
          · rw [z, List.drop_length, merged_nil_l, List.nil_append]
          · rw [z, List.drop_length, merged_nil_r, List.append_nil]
        rw [em, ← List.append_assoc]
        exact ((cp.same sA).append ((ca.same (sm.trans sA)).drop i)).append ((cb.same (sm.trans sA)).drop j)
      refine ⟨_, rfl, _, rfl, a, _, rfl, .inl (SqL.of ea1), _, _, rfl, rfl, _, rfl, ?_⟩
      by_cases c1 : i < d1.length
      · refine ift (decide_eq_true (by rw [List.length_map]; omega)) ?_
        refine ⟨_, rfl, _, rfl, b, _, rfl, .inl (SqL.of eb1), _, _, rfl, rfl, _, rfl, ?_⟩
        by_cases c2 : j < d2.length
        · refine ift (decide_eq_true (by rw [List.length_map]; omega)) ?_
          have h1 : d1[i]? = some d1[i] := List.getElem?_eq_getElem c1
          have h2 : d2[j]? = some d2[j] := List.getElem?_eq_getElem c2
          obtain ⟨a1, x1, k1⟩ := ca.get h1
          obtain ⟨b1, x2, k2⟩ := cb.get h2
          have ox1 := o1 _ (List.getElem_mem c1)
          have ox2 := o2 _ (List.getElem_mem c2)
          have em := inv
          rw [List.drop_eq_getElem_cons c1, List.drop_eq_getElem_cons c2, merged_cons, ← List.drop_eq_getElem_cons c1, ← List.drop_eq_getElem_cons c2] at em
          generalize d1[i] = x at *
          generalize d2[j] = y at *
          have kx := sm _ _ k1
          have ky := sm _ _ k2
          refine ⟨_, rfl, _, rfl, b, _, _, _, rfl, rfl, SqL.of eb1, at_ref x2 rfl, _, rfl, _, rfl, _, rfl, a, _, _, _, rfl, rfl, SqL.of ea1, at_ref x1 rfl, _, rfl, _, rfl, b1, a1, y, x, e, c, n, rfl, SqL.of ky, SqL.of kx, ox2, ox1, he, hc, _, rfl, ?_⟩
          have okpush : ∀ z, COk z → DOk (d ++ [z]) := fun z oz u hu => by
            rcases List.mem_append.mp hu with v | v
            · exact od u v
            · have : u = z := by simpa using v
              rw [this]; exact oz
          cases hb : Pu.comesBefore (Pu.keyBy e n y) (Pu.keyBy c n x) with
          | true =>
            rw [hb, if_pos rfl] at em
            refine ift rfl ?_
            refine ⟨_, rfl, .inl ⟨rfl, _, SqL.of ep⟩, _, rfl, _, rfl, b, _, _, _, rfl, rfl, SqL.of eb1, at_ref x2 rfl, p, _, _, rfl, rfl, ep, by rw [List.length_map, cp.len]; exact size_big (by omega), ?_⟩
            refine ⟨_, rfl, _, _, rfl, rfl, ⟨i, j + 1, (i : Int), (j : Int) + 1, d ++ [y], rfl, rfl, by omega, hi, by omega, by rw [List.length_append]; show d.length + 1 ≤ _; omega, okpush y ox2, Same.mut sm np, DeckAt.push ep cp od ky ox2, ?_⟩, ?_⟩
            · rw [em, List.append_assoc]; rfl
            · show d1.length + d2.length - ((i : Int)).toNat - ((j : Int) + 1).toNat < d1.length + d2.length - ((i : Int)).toNat - ((j : Int)).toNat
              omega
          | false =>
            rw [hb, if_neg Bool.false_ne_true] at em
            refine iff_ rfl ?_
            refine ⟨_, rfl, .inl ⟨rfl, _, SqL.of ep⟩, _, rfl, _, rfl, a, _, _, _, rfl, rfl, SqL.of ea1, at_ref x1 rfl, p, _, _, rfl, rfl, ep, by rw [List.length_map, cp.len]; exact size_big (by omega), ?_⟩
            refine ⟨_, rfl, _, _, rfl, rfl, ⟨i + 1, j, (i : Int) + 1, (j : Int), d ++ [x], rfl, by omega, rfl, by omega, hj, by rw [List.length_append]; show d.length + 1 ≤ _; omega, okpush x ox1, Same.mut sm np, DeckAt.push ep cp od kx ox1, ?_⟩, ?_⟩
            · rw [em, List.append_assoc]; rfl
            · show d1.length + d2.length - ((i : Int) + 1).toNat - ((j : Int)).toNat < d1.length + d2.length - ((i : Int)).toNat - ((j : Int)).toNat
              omega
        · refine iff_ (decide_eq_false (by rw [List.length_map]; omega)) ?_
          exact fin (by omega) H' (Same.refl _)
      · refine iff_ (decide_eq_false (by rw [List.length_map]; omega)) ?_
        exact fin (by omega) H' (Same.refl _)
    · rintro σ H1 Q1 Q2 hq ⟨u1, e1, u2, e2, u3, u4, e3, e4, u5, u6, e5, e6, u7, e7, z⟩
      refine ⟨u1, e1, u2, e2, u3, u4, e3, e4, u5, u6, e5, e6, u7, e7, ?_⟩
      cases u7 with
      | false => exact hq _ _ z
      | true =>
        obtain ⟨u1, e1, u2, e2, u3, u4, e3, e4, u5, u6, e5, e6, u7, e7, z⟩ := z
        exact ⟨u1, e1, u2, e2, u3, u4, e3, e4, u5, u6, e5, e6, u7, e7, hq _ _ z⟩
theorem filter_ok {d : Pu.Deck} (od : DOk d) (g : Pu.Card → Bool) : DOk (d.filter g) := fun x hx => od x (List.mem_filter.mp hx).1
theorem filter_len {d : Pu.Deck} (g : Pu.Card → Bool) (h : d.length ≤ 1000) : (d.filter g).length ≤ 1000 := Nat.le_trans (List.length_filter_le _ _) h
theorem pockets4 {H : Hp} {p q0 q1 q2 q3 : Addr} {d0 d1 d2 d3 : Pu.Deck} (e : H p = some (.lst [.ref q0, .ref q1, .ref q2, .ref q3])) (h0 : DeckAt H q0 d0) (h1 : DeckAt H q1 d1) (h2 : DeckAt H q2 d2) (h3 : DeckAt H q3 d3) :
    PocketsAt H p 4 (fun i => ([d0, d1, d2, d3] : List Pu.Deck).getD i []) := by
  refine ⟨[q0, q1, q2, q3], e, rfl, fun i q hi => ?_⟩
  match i, hi with
  | 0, hi => cases hi; exact h0
  | 1, hi => cases hi; exact h1
  | 2, hi => cases hi; exact h2
  | 3, hi => cases hi; exact h3
  | n + 4, hi => simp at hi
abbrev s_collate : Stmt := topS 110
abbrev N_collate : List Str := ["first", "second", "c", "e", "n", "how", "first_fields", "second_fields", "first_alone", "first_like", "second_like", "second_alone"]
theorem sc_collate : FnScope N_collate ["first", "second", "c", "e", "n", "how"] (defScope s_collate) := ⟨rfl, rfl, rfl, by decide +kernel, rfl, by decide +kernel, by decide +kernel⟩
def sp_collate : Sp := fun vs H Q _ => ∃ (a b : Addr) (d1 d2 : Pu.Deck) (c e n how : Nat), vs = [.ref a, .ref b, .int (c : Int), .int (e : Int), .int (n : Int), .int (how : Int)] ∧ DeckAt H a d1 ∧ DeckAt H b d2 ∧ DOk d1 ∧ DOk d2 ∧ c + n ≤ 80 ∧ e + n ≤ 80 ∧ d1.length ≤ 1000 ∧ d2.length ≤ 1000 ∧
  ∀ (H' : Hp) (p : Addr), Same H H' → PocketsAt H' p 4 (fun i => (Pu.collated how (Pu.keyBy c n) (Pu.keyBy e n) d1 d2).getD i []) → Q (.ref p) H'
theorem ok_collate {f : Addr} {fd : FuncData} (F : Fun K "collate" "collate" s_collate f fd) (T : Txt P w K mg ad) (D_merge : Dcl P w K mg base 3 "merge" ["first", "c", "second", "e", "n"] sp_merge) (D_fields_of : Dcl P w K mg base 1 "fields_of" ["deck", "c", "n"] sp_fields_of)
    (D_cards_like : Dcl P w K mg base 1 "cards_like" ["deck", "c", "n", "fields"] (sp_cards_like false)) (D_cards_unlike : Dcl P w K mg base 1 "cards_unlike" ["deck", "c", "n", "fields"] (sp_cards_like true)) : FnOk P w K mg base CX0 4 f fd ["first", "second", "c", "e", "n", "how"] sp_collate := by
  refine F.ok sc_collate (fun vs H Q E h => ?_) (fun cdv A outer s H vs Q E hr h => ?_)
  · obtain ⟨a, b, d1, d2, c, e, n, how, rfl, _⟩ := h; rfl
  · obtain ⟨a, b, d1, d2, c, e, n, how, rfl, h1, h2, o1, o2, hc, he, l1, l2, q⟩ := h
    refine ⟨_, (pss_cons (ps_if (pt_cmpR op_eq (pv 5) (pe_gint (by rfl) T.g_MERGED) (nomark _))
      (pss_one (ps_ret (pe_lst (pa_cons (pe_call D_merge.ok (hr.mono (by decide)) (by rfl) D_merge.g D_merge.kp D_merge.b .nil pass0 (pa_cons (pv 0) (pa_cons (pv 2) (pa_cons (pv 1) (pa_cons (pv 3) (pa_cons (pv 4) pa_nil)))))) (pa_cons (pe_lst pa_nil) (pa_cons (pe_lst pa_nil) (pa_cons (pe_lst pa_nil) pa_nil)))))))
      pss_nil)
      (pss_cons (ps_set (i := 6) sc_collate.nd rfl (Or.inl rfl) (pe_call D_fields_of.ok (hr.mono (by decide)) (by rfl) D_fields_of.g D_fields_of.kp D_fields_of.b .nil pass0 (pa_cons (pv 0) (pa_cons (pv 2) (pa_cons (pv 4) pa_nil)))))
      (pss_cons (ps_set (i := 7) sc_collate.nd rfl (Or.inl rfl) (pe_call D_fields_of.ok (hr.mono (by decide)) (by rfl) D_fields_of.g D_fields_of.kp D_fields_of.b .nil pass0 (pa_cons (pv 1) (pa_cons (pv 3) (pa_cons (pv 4) pa_nil)))))
      (pss_cons (ps_set (i := 8) sc_collate.nd rfl (Or.inl rfl) (pe_call D_cards_unlike.ok (hr.mono (by decide)) (by rfl) D_cards_unlike.g D_cards_unlike.kp D_cards_unlike.b .nil pass0 (pa_cons (pv 0) (pa_cons (pv 2) (pa_cons (pv 4) (pa_cons (pv 7) pa_nil))))))
      (pss_cons (ps_set (i := 9) sc_collate.nd rfl (Or.inl rfl) (pe_call D_cards_like.ok (hr.mono (by decide)) (by rfl) D_cards_like.g D_cards_like.kp D_cards_like.b .nil pass0 (pa_cons (pv 0) (pa_cons (pv 2) (pa_cons (pv 4) (pa_cons (pv 7) pa_nil))))))
      (pss_cons (ps_set (i := 10) sc_collate.nd rfl (Or.inl rfl) (pe_call D_cards_like.ok (hr.mono (by decide)) (by rfl) D_cards_like.g D_cards_like.kp D_cards_like.b .nil pass0 (pa_cons (pv 1) (pa_cons (pv 3) (pa_cons (pv 4) (pa_cons (pv 6) pa_nil))))))
      (pss_cons (ps_set (i := 11) sc_collate.nd rfl (Or.inl rfl) (pe_call D_cards_unlike.ok (hr.mono (by decide)) (by rfl) D_cards_unlike.g D_cards_unlike.kp D_cards_unlike.b .nil pass0 (pa_cons (pv 1) (pa_cons (pv 3) (pa_cons (pv 4) (pa_cons (pv 6) pa_nil))))))
      (pss_cons (ps_if (pt_cmpR op_eq (pv 5) (pe_gint (by rfl) T.g_MATCHED) (nomark _))
      (pss_one (ps_ret (pe_lst (pa_cons (pv 8) (pa_cons (pv 9) (pa_cons (pv 10) (pa_cons (pv 11) pa_nil)))))))
      pss_nil)
      (pss_one (ps_ret (pe_lst (pa_cons (pv 8) (pa_cons (pe_call D_merge.ok (hr.mono (by decide)) (by rfl) D_merge.g D_merge.kp D_merge.b .nil pass0 (pa_cons (pv 9) (pa_cons (pv 2) (pa_cons (pv 10) (pa_cons (pv 3) (pa_cons (pv 4) pa_nil)))))) (pa_cons (pe_lst pa_nil) (pa_cons (pv 11) pa_nil))))))))))))))), ?_⟩
    refine ⟨_, rfl, rfl, _, rfl, ?_⟩
    unfold Pu.collated at q
    by_cases c0 : how = 0
    · refine ift (decide_eq_true (by rw [c0]; rfl)) ?_
      simp only [if_pos c0] at q
      refine ⟨_, rfl, _, rfl, _, rfl, _, rfl, _, rfl, a, b, d1, d2, c, e, n, rfl, h1, h2, o1, o2, hc, he, l1, l2, fun H1 p1 s1 k1 => ?_⟩
      refine ⟨Nat.zero_le _, fun p2 n2 => ⟨Nat.zero_le _, fun p3 n3 => ⟨Nat.zero_le _, fun p4 n4 => ⟨by show 4 ≤ sizeLine; decide, fun p n5 => ?_⟩⟩⟩⟩
      have t2 := same_upd (o := .lst []) n2
      have t3 := same_upd (o := .lst []) n3
      have t4 := same_upd (o := .lst []) n4
      have t5 := same_upd (o := .lst [.ref p1, .ref p2, .ref p3, .ref p4]) n5
      refine q _ p (s1.trans (t2.trans (t3.trans (t4.trans t5)))) (pockets4 upd_same (k1.same (t2.trans (t3.trans (t4.trans t5)))) ⟨[], t5 _ _ (t4 _ _ (t3 _ _ upd_same)), .nil⟩ ⟨[], t5 _ _ (t4 _ _ upd_same), .nil⟩ ⟨[], t5 _ _ upd_same, .nil⟩)
    · refine iff_ (decide_eq_false (fun z => c0 (by have := V.int.inj z; omega))) ?_
      simp only [if_neg c0] at q
      refine ⟨_, rfl, _, rfl, _, rfl, a, d1, c, n, rfl, h1, o1, hc, l1, fun H1 f1 s1 k1 => ?_⟩
      refine ⟨_, rfl, _, rfl, _, rfl, b, d2, e, n, rfl, h2.same s1, o2, he, l2, fun H2 f2 s2 k2 => ?_⟩
      have s12 := s1.trans s2
      refine ⟨_, rfl, _, rfl, _, rfl, _, rfl, a, f2, d1, c, n, _, rfl, h1.same s12, o1, hc, l1, k2, fun H3 p0 s3 g0 => ?_⟩
      have s13 := s12.trans s3
      refine ⟨_, rfl, _, rfl, _, rfl, _, rfl, a, f2, d1, c, n, _, rfl, h1.same s13, o1, hc, l1, k2.same s3, fun H4 p1 s4 g1 => ?_⟩
      have s14 := s13.trans s4
      refine ⟨_, rfl, _, rfl, _, rfl, _, rfl, b, f1, d2, e, n, _, rfl, h2.same s14, o2, he, l2, k1.same (s2.trans (s3.trans s4)), fun H5 p2 s5 g2 => ?_⟩
      have s15 := s14.trans s5
      refine ⟨_, rfl, _, rfl, _, rfl, _, rfl, b, f1, d2, e, n, _, rfl, h2.same s15, o2, he, l2, k1.same (s2.trans (s3.trans (s4.trans s5))), fun H6 p3 s6 g3 => ?_⟩
      have s16 := s15.trans s6
      have e0 : (d1.filter fun x => if true = true then !fieldsIn e n d2 (Pu.fieldOf x c n) else fieldsIn e n d2 (Pu.fieldOf x c n)) = d1.filter fun x => !Pu.standsIn (Pu.keyBy c n x) (Pu.keyBy e n) d2 := by
        congr 1; funext x; rw [if_pos rfl, stands_is]; rfl
      have e1 : (d1.filter fun x => if false = true then !fieldsIn e n d2 (Pu.fieldOf x c n) else fieldsIn e n d2 (Pu.fieldOf x c n)) = d1.filter fun x => Pu.standsIn (Pu.keyBy c n x) (Pu.keyBy e n) d2 := by
        congr 1; funext x; rw [if_neg Bool.false_ne_true, stands_is]; rfl
      have e2 : (d2.filter fun x => if false = true then !fieldsIn c n d1 (Pu.fieldOf x e n) else fieldsIn c n d1 (Pu.fieldOf x e n)) = d2.filter fun x => Pu.standsIn (Pu.keyBy e n x) (Pu.keyBy c n) d1 := by
        congr 1; funext x; rw [if_neg Bool.false_ne_true, stands_is]; rfl
      have e3 : (d2.filter fun x => if true = true then !fieldsIn c n d1 (Pu.fieldOf x e n) else fieldsIn c n d1 (Pu.fieldOf x e n)) = d2.filter fun x => !Pu.standsIn (Pu.keyBy e n x) (Pu.keyBy c n) d1 := by
        congr 1; funext x; rw [if_pos rfl, stands_is]; rfl
      rw [e0] at g0
      rw [e1] at g1
      rw [e2] at g2
      rw [e3] at g3
      refine ⟨_, rfl, rfl, _, rfl, ?_⟩
      by_cases c1 : how = 1
      · refine ift (decide_eq_true (by rw [c1]; rfl)) ?_
        simp only [if_pos c1] at q
        refine ⟨_, rfl, _, rfl, _, rfl, _, rfl, by show 4 ≤ sizeLine; decide, fun p np => ?_⟩
        have t := same_upd (o := .lst [.ref p0, .ref p1, .ref p2, .ref p3]) np
        exact q _ p (s16.trans t) (pockets4 upd_same (g0.same (s4.trans (s5.trans (s6.trans t)))) (g1.same (s5.trans (s6.trans t))) (g2.same (s6.trans t)) (g3.same t))
      · refine iff_ (decide_eq_false (fun z => c1 (by have := V.int.inj z; omega))) ?_
        simp only [if_neg c1] at q
        refine ⟨_, rfl, _, rfl, _, rfl, _, rfl, _, rfl, _, rfl, p1, p2, _, _, c, e, n, rfl, g1.same (s5.trans s6), g2.same s6, filter_ok o1 _, filter_ok o2 _, hc, he, filter_len _ l1, filter_len _ l2, fun H7 pm s7 gm => ?_⟩
        refine ⟨Nat.zero_le _, fun pe ne => ⟨_, rfl, by show 4 ≤ sizeLine; decide, fun p np => ?_⟩⟩
        have t1 := same_upd (o := .lst []) ne
        have t := same_upd (o := .lst [.ref p0, .ref pm, .ref pe, .ref p3]) np
        exact q _ p (s16.trans (s7.trans (t1.trans t))) (pockets4 upd_same (g0.same (s4.trans (s5.trans (s6.trans (s7.trans (t1.trans t)))))) (gm.same (t1.trans t)) ⟨[], t _ _ upd_same, .nil⟩ (g3.same (s7.trans (t1.trans t))))
end
end CP
/-! HText1 -/
namespace CP
open PySem PySem.Spec PyProof.Rows L2
/-- bytes as numbers -/
def bN (b : Pu.Bytes) : List Nat := b.map UInt8.toNat
theorem bN_vN (b : Pu.Bytes) : (bN b).map vN = b.map vB := by
  unfold bN
  rw [List.map_map]; rfl
theorem bN_len (b : Pu.Bytes) : (bN b).length = b.length := List.length_map _
theorem at_byte {b : Pu.Bytes} {z : Int} {j : Nat} {c : UInt8} (h : b[j]? = some c) (e : z = (j : Int)) : atI (b.map vB) z = some (.int (c.toNat : Int)) := by
  refine at_of e ?_
  rw [List.getElem?_map, h]; rfl
/-- lines at an address -/
def LinesAt (H : Hp) (p : Addr) (ls : List Pu.Bytes) : Prop := ∃ as, H p = some (.lst (as.map V.ref)) ∧ CardsAt H as (ls.map bN)
/-- the codes of a text are these bytes -/
abbrev IsB (x : Str) (b : Pu.Bytes) : Prop := x.cps.toList = bN b
theorem cpl_cons_eq (a : UInt8) (w b : Pu.Bytes) : cpl (a :: w) (a :: b) = cpl w b + 1 := by rw [cpl, if_pos rfl]
theorem toNat_inj {a c : UInt8} (h : a.toNat = c.toNat) : a = c := UInt8.toNat_inj.mp h
section
variable {P : Program} {w : World} {K : PySem.W.Frag} {mg : Str → Option Value} {base : Heap} {ad : Ad}
abbrev s_lines_of : Stmt := topS 33
abbrev N_lines_of : List Str := ["text", "lines", "line", "sign"]
theorem sc_lines_of : FnScope N_lines_of ["text"] (defScope s_lines_of) := ⟨rfl, rfl, rfl, by decide +kernel, rfl, by decide +kernel, by decide +kernel⟩
def sp_lines_of (K : PySem.W.Frag) : Sp := fun vs H Q _ => ∃ (a : Addr) (b : Pu.Bytes), vs = [.ref a] ∧ SqL K H a (b.map vB) ∧ b.length ≤ 100000 ∧
  ∀ (H' : Hp) (p : Addr), Same H H' → H p = none → LinesAt H' p (Pu.pieces b) → Q (.ref p) H'
theorem ok_lines_of {f : Addr} {fd : FuncData} (F : Fun K "lines_of" "lines_of" s_lines_of f fd) (T : Txt P w K mg ad) : FnOk P w K mg base CX0 1 f fd ["text"] (sp_lines_of K) := by
  refine F.ok sc_lines_of (fun vs H Q E h => ?_) (fun cdv A outer s H vs Q E hr h => ?_)
  · obtain ⟨a, b, rfl, _⟩ := h; rfl
  · obtain ⟨a, b, rfl, ha, hl, q⟩ := h
    refine ⟨_, (pss_cons (ps_set (i := 1) sc_lines_of.nd rfl (Or.inl rfl) (pe_lst pa_nil))
      (pss_cons (ps_set (i := 2) sc_lines_of.nd rfl (Or.inl rfl) (pe_lst pa_nil))
      (pss_cons (ps_for PassesOwn.never rfl (pi_list (pv 0)) (pg_name (i := 3) sc_lines_of.nd rfl (Or.inl rfl))
      (pss_cons (ps_expr (pe_bm PySem.F.plainAttrs_list PySem.F.slot_list_append PySem.F.type_list_append mt_append (pv 2) (pa_cons (pv 3) pa_nil)))
      (pss_one (ps_if (pt_cmpR op_eq (pv 3) (pe_gint (by rfl) T.g_LINE_END) (nomark _))
      (pss_cons (ps_expr (pe_bm PySem.F.plainAttrs_list PySem.F.slot_list_append PySem.F.type_list_append mt_append (pv 1) (pa_cons (pv 2) pa_nil)))
      (pss_one (ps_set (i := 2) sc_lines_of.nd rfl (Or.inl rfl) (pe_lst pa_nil))))
      pss_nil))))
      (pss_cons (ps_if (pt_cmpR op_gt (pe_callB call_len_seq (by rfl) T.b_len PySem.boot_len (pa_cons (pv 2) pa_nil)) pe_int (nomark _))
      (pss_one (ps_expr (pe_bm PySem.F.plainAttrs_list PySem.F.slot_list_append PySem.F.type_list_append mt_append (pv 1) (pa_cons (pv 2) pa_nil))))
      pss_nil)
      (pss_one (ps_ret (pv 1))))))), ?_⟩
    refine ⟨Nat.zero_le _, fun p np => ⟨Nat.zero_le _, fun l0 nl => ?_⟩⟩
    have t1 := same_upd (o := .lst []) np
    have t2 := same_upd (o := .lst []) nl
    have npl : p ≠ l0 := fun e => by rw [← e, upd_same] at nl; cases nl
    refine ⟨_, rfl, a, rfl, ⟨_, (t1.trans t2).seq ha⟩, ?_⟩
    refine for_list (K := K) (a := a) (xs := b.map vB) (fun i σ H' => ∃ (l : Addr) (v3 : Option V) (as : List Addr) (ls : List Pu.Bytes) (cur : Pu.Bytes), σ = [some (.ref a), some (.ref p), some (.ref l), v3] ∧ Same H H' ∧ H' p = some (.lst (as.map V.ref)) ∧ CardsAt H' as (ls.map bN) ∧ (∀ x ∈ ls, x ≠ []) ∧
        H' l = some (.lst (cur.map vB)) ∧ H l = none ∧ l ≠ p ∧ l ∉ as ∧ (∀ d ∈ cur, d ≠ 10) ∧ cur.length ≤ i ∧ ls.length ≤ i ∧ Pu.pieces b = ls ++ Pu.pieces (cur ++ b.drop i)) ?_ ?_ ?_ ?_
    · refine ⟨l0, none, [], [], [], rfl, t1.trans t2, t2 _ _ upd_same, .nil, (fun x hx => by cases hx), upd_same, t1.free nl, Ne.symm npl, by simp, (fun x hx => by cases hx), Nat.le_refl _, Nat.le_refl _, rfl⟩
    · rintro i σ H' _ ⟨l, v3, as, ls, cur, rfl, sm, _⟩
      exact sm.seq ha
    · rintro i y σ H' hy ⟨l, v3, as, ls, cur, rfl, sm, ep, cs, ne, el, nl0, nlp, nla, n10, lc, ll, inv⟩
      have hi : i < b.length := by
        apply Classical.byContradiction; intro z
        rw [List.getElem?_eq_none (by rw [List.length_map]; omega)] at hy; cases hy
      rw [List.getElem?_map, List.getElem?_eq_getElem hi] at hy
      have ey : y = vB b[i] := (Option.some.inj hy).symm
      subst ey
      rw [List.drop_eq_getElem_cons hi] at inv
      generalize b[i] = c at *
      refine ⟨_, rfl, .inl ⟨rfl, _, SqL.of el⟩, _, rfl, l, _, _, rfl, rfl, el, by rw [List.length_map]; exact size_big (by omega), ?_⟩
      have s1 : Same H (upd H' l (.lst (cur.map vB ++ [vB c]))) := Same.mut sm nl0
      have ep1 : (upd H' l (.lst (cur.map vB ++ [vB c]))) p = some (.lst (as.map V.ref)) := by rw [upd_ne (Ne.symm nlp)]; exact ep
      have cs1 : CardsAt (upd H' l (.lst (cur.map vB ++ [vB c]))) as (ls.map bN) := cs.updO nla
      refine ⟨_, rfl, rfl, _, rfl, ?_⟩
      by_cases c10 : c = 10
      · refine ift (decide_eq_true (by rw [c10]; rfl)) ?_
        refine ⟨_, rfl, .inl ⟨rfl, _, SqL.of ep1⟩, _, rfl, p, _, _, rfl, rfl, ep1, by rw [List.length_map, cs.len, List.length_map]; exact size_big (by omega), ?_⟩
        refine ⟨Nat.zero_le _, fun l2 nl2 => ?_⟩
        have e10 : bN (cur ++ [10]) ≠ [] := by unfold bN; rw [List.map_append]; simp
        have hln : (upd H' l (.lst (cur.map vB ++ [vB c]))) l = some (.lst ((bN (cur ++ [10])).map vN)) := by
          rw [upd_same, bN_vN, List.map_append, c10]; rfl
        have nl2p : l2 ≠ p := fun e => by rw [e, upd_same] at nl2; cases nl2
        have t3 := same_upd (o := .lst []) nl2
        have s2 : Same H (upd (upd H' l (.lst (cur.map vB ++ [vB c]))) p (.lst (as.map V.ref ++ [.ref l]))) := Same.mut s1 np
        have nel : ∀ x ∈ ls ++ [cur ++ [10]], x ≠ [] := fun x hx => by
          rcases List.mem_append.mp hx with z | z
          · exact ne x z
          · have : x = cur ++ [10] := by simpa using z
            rw [this]; simp
        have cs2 : CardsAt (upd (upd H' l (.lst (cur.map vB ++ [vB c]))) p (.lst (as.map V.ref ++ [.ref l]))) (as ++ [l]) ((ls ++ [cur ++ [10]]).map bN) := by
          rw [List.map_append]
          refine (cs1.updN (fun x hx => ?_) ep1).append (.cons ?_ .nil)
          · obtain ⟨u, hu, rfl⟩ := List.mem_map.mp hx
            intro z
            exact ne u hu (by unfold bN at z; exact List.map_eq_nil_iff.mp z)
          · rw [upd_ne nlp]; exact hln
        refine ⟨l2, _, as ++ [l], ls ++ [cur ++ [10]], [], rfl, s2.trans t3, t3 _ _ (by rw [upd_same, List.map_append]; rfl), cs2.same t3, nel, upd_same, s2.free nl2, nl2p, ?_, (fun x hx => by cases hx), Nat.zero_le _, by rw [List.length_append]; show _ + 1 ≤ _; omega, ?_⟩
        · intro z
          have : ∀ {as : List Addr} {d : List (List Nat)} {H : Hp} {x : Addr}, CardsAt H as d → x ∈ as → H x ≠ none := by
            intro as d H x h
            induction h with
            | nil => intro z; cases z
            | cons e _ ih =>
              intro z
              rcases List.mem_cons.mp z with z | z
              · rw [z, e]; exact fun w => by cases w
              · exact ih z
          exact this cs2 z nl2
        · rw [inv, c10, pieces_cut cur _ n10, List.append_assoc]; rfl
      · refine iff_ (decide_eq_false (fun z => c10 ?_)) ?_
        · have := V.int.inj z
          exact toNat_inj (by have h10 : (10 : UInt8).toNat = 10 := rfl; omega)
        · refine ⟨l, _, as, ls, cur ++ [c], rfl, s1, ep1, cs1, ne, by rw [upd_same, List.map_append]; rfl, nl0, nlp, nla, ?_, by rw [List.length_append]; show _ + 1 ≤ _; omega, by omega, by rw [inv, List.append_assoc]; rfl⟩
          intro d hd
          rcases List.mem_append.mp hd with z | z
          · exact n10 d z
          · have : d = c := by simpa using z
            rw [this]; exact c10
    · rintro σ H' ⟨l, v3, as, ls, cur, rfl, sm, ep, cs, ne, el, nl0, nlp, nla, n10, lc, ll, inv⟩
      rw [List.length_map] at inv lc ll
      rw [List.drop_length, List.append_nil, pieces_last cur n10] at inv
      refine ⟨_, rfl, l, _, rfl, .inl (SqL.of el), _, _, rfl, rfl, _, rfl, ?_⟩
      by_cases c0 : cur = []
      · refine iff_ (decide_eq_false (by rw [c0]; decide)) ?_
        refine ⟨_, rfl, q H' p sm np ⟨as, ep, ?_⟩⟩
        rw [inv, if_pos c0, List.append_nil]
        exact cs
      · have lp : 0 < cur.length := List.length_pos_iff.mpr c0
        refine ift (decide_eq_true (by rw [List.length_map]; omega)) ?_
        refine ⟨_, rfl, .inl ⟨rfl, _, SqL.of ep⟩, _, rfl, p, _, _, rfl, rfl, ep, by rw [List.length_map, cs.len, List.length_map]; exact size_big (by omega), ?_⟩
        refine ⟨_, rfl, q _ p (Same.mut sm np) np ⟨as ++ [l], by rw [upd_same, List.map_append]; rfl, ?_⟩⟩
        rw [inv, if_neg c0, List.map_append]
        refine (cs.updN (fun x hx => ?_) ep).append (.cons ?_ .nil)
        · obtain ⟨u, hu, rfl⟩ := List.mem_map.mp hx
          intro z
          exact ne u hu (by unfold bN at z; exact List.map_eq_nil_iff.mp z)
        · rw [upd_ne nlp, el, bN_vN]
abbrev s_shared_signs : Stmt := topS 34
abbrev N_shared_signs : List Str := ["line", "at", "word", "shared", "sign"]
theorem sc_shared_signs : FnScope N_shared_signs ["line", "at", "word"] (defScope s_shared_signs) := ⟨rfl, rfl, rfl, by decide +kernel, rfl, by decide +kernel, by decide +kernel⟩
def sp_shared_signs (K : PySem.W.Frag) : Sp := fun vs H Q _ => ∃ (a : Addr) (b : Pu.Bytes) (k : Nat) (x : Str) (wb : Pu.Bytes), vs = [.ref a, .int (k : Int), .str x] ∧ SqL K H a (b.map vB) ∧ k ≤ b.length ∧ IsB x wb ∧ Q (.int (cpl wb (b.drop k) : Int)) H
theorem for_str {x : Str} {g : TG} {tb : TS} {D : Ends} {σ : L2.St} {H : Hp} (Pv : Nat → L2.St → Hp → Prop) (h0 : Pv 0 σ H)
    (hs : ∀ i c σ H, x.cps.toList[i]? = some c → Pv i σ H → g (.str ⟨#[c]⟩) σ H fun σ2 H2 => tb { D with nx := Pv (i + 1), ct := Pv (i + 1), bk := D.nx } σ2 H2) (hd : ∀ σ H, Pv x.cps.toList.length σ H → D.nx σ H) :
    ∃ W : Nat → Nat → L2.St → Hp → Prop, (∃ m, W 0 m σ H) ∧ ∀ i m σ H, W i m σ H →
      ((Its x).stop i H ∧ D.nx σ H) ∨ ((Its x).go i H ∧ ∃ N : L2.St → Hp → Prop, (∀ σ' H', N σ' H' → ∃ m', m' < m ∧ W (i + 1) m' σ' H') ∧ ∀ y H', (Its x).yld i H y H' → g y σ H' fun σ2 H2 => tb { D with nx := N, ct := N, bk := D.nx } σ2 H2) := by
  have es : x.cps.toList.length = x.cps.size := Array.length_toList
  refine ⟨fun i m σ H => m = x.cps.size - i ∧ i ≤ x.cps.size ∧ Pv i σ H, ⟨x.cps.size, by simp, Nat.zero_le _, h0⟩, ?_⟩
  rintro i m σ H ⟨rfl, hi, p⟩
  by_cases hlt : i < x.cps.size
  · refine .inr ⟨hlt, Pv (i + 1), fun σ' H' p' => ⟨x.cps.size - (i + 1), by omega, rfl, hlt, p'⟩, fun y H' z => ?_⟩
    obtain ⟨rfl, c, hc, rfl⟩ := z
    exact hs i c σ _ (by rw [Array.getElem?_toList]; exact hc) p
  · have e : i = x.cps.size := by omega
    subst e
    exact .inl ⟨Nat.le_refl _, hd σ H (by rw [es]; exact p)⟩
theorem ok_shared_signs {f : Addr} {fd : FuncData} (F : Fun K "shared_signs" "shared_signs" s_shared_signs f fd) (T : Txt P w K mg ad) : FnOk P w K mg base CX0 1 f fd ["line", "at", "word"] (sp_shared_signs K) := by
  refine F.ok sc_shared_signs (fun vs H Q E h => ?_) (fun cdv A outer s H vs Q E hr h => ?_)
  · obtain ⟨a, b, k, x, wb, rfl, _⟩ := h; rfl
  · obtain ⟨a, b, k, x, wb, rfl, ha, hk, hx, q⟩ := h
    refine ⟨_, (pss_cons (ps_set (i := 3) sc_shared_signs.nd rfl (Or.inl rfl) pe_int)
      (pss_cons (ps_for PassesOwn.never rfl (pi_str (pv 2)) (pg_name (i := 4) sc_shared_signs.nd rfl (Or.inl rfl))
      (pss_cons (ps_if (PW.pt (pw_or (pt_cmpR op_eq (pe_op op_add (pv 1) (pv 3)) (pe_callB call_len_seq (by rfl) T.b_len PySem.boot_len (pa_cons (pv 0) pa_nil)) (nomark _)) (pw_or1 (pt_cmpR op_ne (pe_ix ix_list (pv 0) (pe_op op_add (pv 1) (pv 3)) (fun _ _ => rfl)) (pe_callB call_ord (by rfl) T.b_ord (by decide +kernel) (pa_cons (pv 4) pa_nil)) (nomark _)))))
      (pss_one (ps_ret (pv 3)))
      pss_nil)
      (pss_one (ps_aug (i := 3) sc_shared_signs.nd rfl (Or.inl rfl) pe_int ip_add))))
      (pss_one (ps_ret (pv 3))))), ?_⟩
    refine ⟨_, rfl, x, rfl, ?_⟩
    refine for_str (x := x) (fun i σ H' => H' = H ∧ (∃ v z, σ = [some (.ref a), some (.int (k : Int)), some (.str x), some (.int z), v] ∧ z = (i : Int)) ∧ k + i ≤ b.length ∧ cpl wb (b.drop k) = i + cpl (wb.drop i) (b.drop (k + i))) ⟨rfl, ⟨none, 0, rfl, rfl⟩, by omega, by simp⟩ ?_ ?_
    · rintro i c σ H' hc ⟨rfl, ⟨v, z, rfl, rfl⟩, hki, inv⟩
      rw [hx] at hc
      unfold bN at hc
      rw [List.getElem?_map] at hc
      have hi : i < wb.length := by
        apply Classical.byContradiction; intro z
        rw [List.getElem?_eq_none (by omega)] at hc; cases hc
      rw [List.getElem?_eq_getElem hi] at hc
      have ec : wb[i].toNat = c := Option.some.inj hc
      subst ec
      rw [List.drop_eq_getElem_cons hi] at inv
      generalize wb[i] = u at *
      refine ⟨_, rfl, _, rfl, _, _, rfl, rfl, _, rfl, a, _, rfl, .inl ha, rfl, _, rfl, ?_⟩
      by_cases c1 : k + i = b.length
      · refine ift (decide_eq_true ?_) (ift rfl ⟨_, rfl, ?_⟩)
        · rw [List.length_map, ← c1]
          exact congrArg V.int (by omega)
        · have ed : b.drop (k + i) = [] := List.drop_eq_nil_iff.mpr (by omega)
          rw [inv, ed, cpl_nil_r, Nat.add_zero] at q
          exact q
      · refine iff_ (decide_eq_false ?_) ?_
        · rw [List.length_map]
          intro z
          have := V.int.inj z
          omega
        · have hb : b[k + i]? = some b[k + i] := List.getElem?_eq_getElem (by omega)
          rw [List.drop_eq_getElem_cons (show k + i < b.length by omega)] at inv
          generalize b[k + i] = d at *
          refine ⟨_, rfl, _, rfl, _, rfl, _, _, rfl, rfl, a, _, _, _, rfl, rfl, ha, at_byte hb (by omega), _, rfl, _, rfl, rfl, rfl, _, rfl, ?_⟩
          by_cases c2 : u = d
          · subst c2
            refine iff_ ?_ ?_
            · show (!decide (V.int (u.toNat : Int) = V.int (u.toNat : Int))) = false
              rw [decide_eq_true rfl]; rfl
            · refine ⟨_, rfl, _, _, rfl, rfl, rfl, ⟨_, (i : Int) + 1, rfl, by omega⟩, by omega, ?_⟩
              rw [inv, cpl_cons_eq, show k + (i + 1) = k + i + 1 by omega]
              omega
          · refine ift ?_ ⟨_, rfl, ?_⟩
            · show (!decide (V.int (d.toNat : Int) = V.int (u.toNat : Int))) = true
              rw [decide_eq_false]
              · rfl
              · intro z
                have := V.int.inj z
                exact c2 (toNat_inj (by omega))
            · rw [inv, cpl, if_neg c2, Nat.add_zero] at q
              exact q
    · rintro σ H' ⟨rfl, ⟨v, z, rfl, rfl⟩, hki, inv⟩
      refine ⟨_, rfl, ?_⟩
      rw [inv, hx, bN_len, List.drop_length, cpl_nil_l, Nat.add_zero] at q
      exact qint q (by rw [hx, bN_len])
abbrev s_is_figure : Stmt := topS 35
abbrev N_is_figure : List Str := ["sign"]
theorem sc_is_figure : FnScope N_is_figure ["sign"] (defScope s_is_figure) := ⟨rfl, rfl, rfl, by decide +kernel, rfl, by decide +kernel, by decide +kernel⟩
def sp_is_figure : Sp := fun vs H Q _ => ∃ c : UInt8, vs = [.int (c.toNat : Int)] ∧ Q (.bl (isDig c)) H
theorem ok_is_figure {f : Addr} {fd : FuncData} (F : Fun K "is_figure" "is_figure" s_is_figure f fd) (T : Txt P w K mg ad) : FnOk P w K mg base CX0 1 f fd ["sign"] sp_is_figure := by
  refine F.ok sc_is_figure (fun vs H Q E h => ?_) (fun cdv A outer s H vs Q E hr h => ?_)
  · obtain ⟨c, rfl, _⟩ := h; rfl
  · obtain ⟨c, rfl, q⟩ := h
    refine ⟨_, (pss_one (ps_ret (pe_and (pe_cmpR op_le (pe_gint (by rfl) T.g_NOUGHT) (pv 0) (nomark _)) (pe_one (pe_cmpR op_le (pv 0) (pe_gint (by rfl) T.g_NINE) (nomark _)))))), ?_⟩
    refine ⟨_, rfl, _, _, rfl, rfl, _, rfl, ?_⟩
    unfold isDig at q
    by_cases c1 : (48 : Int) ≤ (c.toNat : Int)
    · refine ift (decide_eq_true c1) ?_
      refine ⟨_, rfl, _, _, rfl, rfl, ?_⟩
      refine qbl q ?_
      rw [decide_eq_true (show 48 ≤ c.toNat by omega), Bool.true_and]
      exact decide_eq_decide.mpr (by omega)
    · refine iff_ (decide_eq_false c1) ?_
      refine qbl q ?_
      rw [decide_eq_false (show ¬ 48 ≤ c.toNat by omega), Bool.false_and]
end
end CP
/-! HText2 -/
namespace CP
open PySem PySem.Spec PyProof.Rows L2
theorem lk_here {k : Str} {v : V} {r : List (Str × V)} : List.lookup k ((k, v) :: r) = some v := by
  have e : (k == k) = true := beq_self_eq_true k
  simp only [List.lookup, e]
theorem lk_past {k g : Str} {v : V} {r : List (Str × V)} (h : (k == g) = false) : List.lookup k ((g, v) :: r) = List.lookup k r := by
  simp only [List.lookup, h]
theorem put_here {f : Str} {v x : V} {r : List (Str × V)} : putF f v ((f, x) :: r) = (f, v) :: r := if_pos rfl
theorem put_past {f g : Str} {v x : V} {r : List (Str × V)} (h : ¬ g = f) : putF f v ((g, x) :: r) = (g, x) :: putF f v r := if_neg h
/-- a scan's attributes -/
def scF (la : Addr) (s : Sc) : List (Str × V) := [("line", .ref la), ("at", .int (s.at_ : Int)), ("right", .bl s.right)]
theorem scF_line (la : Addr) (s : Sc) : (scF la s).lookup ("line" : Str) = some (.ref la) := lk_here
theorem scF_at (la : Addr) (s : Sc) : (scF la s).lookup ("at" : Str) = some (.int (s.at_ : Int)) := (lk_past (by decide +kernel)).trans lk_here
theorem scF_right (la : Addr) (s : Sc) : (scF la s).lookup ("right" : Str) = some (.bl s.right) := (lk_past (by decide +kernel)).trans ((lk_past (by decide +kernel)).trans lk_here)
theorem scF_no {m : Str} (la : Addr) (s : Sc) (h1 : (m == ("line" : Str)) = false) (h2 : (m == ("at" : Str)) = false) (h3 : (m == ("right" : Str)) = false) : (scF la s).lookup m = none := (lk_past h1).trans ((lk_past h2).trans ((lk_past h3).trans rfl))
theorem scF_put_at (la : Addr) (s : Sc) (n : Nat) {z : Int} (e : z = (n : Int)) : putF "at" (.int z) (scF la s) = scF la ⟨n, s.right⟩ := by
  subst e
  exact (put_past (by decide +kernel)).trans (congrArg _ put_here)
theorem scF_put_right (la : Addr) (s : Sc) (r : Bool) : putF "right" (.bl r) (scF la s) = scF la ⟨s.at_, r⟩ := (put_past (by decide +kernel)).trans (congrArg _ ((put_past (by decide +kernel)).trans (congrArg _ put_here)))
theorem scF_new (la : Addr) : putF "right" (.bl true) (putF "at" (.int 0) (putF "line" (.ref la) [])) = scF la ⟨0, true⟩ := by
  show putF "right" (.bl true) (putF "at" (.int 0) [("line", .ref la)]) = _
  rw [show putF "at" (.int 0) [(("line" : Str), V.ref la)] = [(("line" : Str), V.ref la), (("at" : Str), V.int 0)] from (put_past (by decide +kernel)).trans rfl]
  exact (put_past (by decide +kernel)).trans (congrArg _ ((put_past (by decide +kernel)).trans rfl))
def ScanAt (ad : Ad) (H : Hp) (p la : Addr) (s : Sc) : Prop := ∃ dx, H p = some (.ins ad.cS dx (scF la s))
/-- all but the object at p stands -/
def SB (p : Addr) (H H' : Hp) : Prop := ∀ b o, H b = some o → b ≠ p → H' b = some o
theorem SB.refl (p : Addr) (H : Hp) : SB p H H := fun _ _ h _ => h
theorem SB.trans {p : Addr} {H H1 H2 : Hp} (a : SB p H H1) (b : SB p H1 H2) : SB p H H2 := fun c o h n => b c o (a c o h n) n
theorem SB.of {p : Addr} {H H' : Hp} (s : Same H H') : SB p H H' := fun b o h _ => s b o h
theorem SB.upd (p : Addr) (H : Hp) (o : HO) : SB p H (L2.upd H p o) := fun b u h n => by rw [upd_ne n]; exact h
theorem SB.seq {K : PySem.W.Frag} {p : Addr} {H H' : Hp} {a : Addr} {xs : List V} (e : SB p H H') (ne : a ≠ p) (h : SqL K H a xs) : SqL K H' a xs := by
  rcases h with (h | ⟨o, h⟩) | h
  · exact .inl (.inl (e _ _ h ne))
  · exact .inl (.inr ⟨o, e _ _ h ne⟩)
  · exact .inr h
theorem sql_ne {K : PySem.W.Frag} {H : Hp} {a p C dx : Addr} {xs : List V} {fs : List (Str × V)} (h : SqL K H a xs) (hp : H p = some (.ins C dx fs)) : a ≠ p ∨ SqL K (fun _ => none) a xs := by
  rcases h with (h | ⟨o, h⟩) | h
  · exact .inl fun e => by rw [e, hp] at h; cases h
  · exact .inl fun e => by rw [e, hp] at h; cases h
  · exact .inr (.inr h)
/-- a list that's read stands whatever becomes of an instance -/
theorem SB.seq' {K : PySem.W.Frag} {p : Addr} {H H' : Hp} {a C dx : Addr} {xs : List V} {fs : List (Str × V)} (e : SB p H H') (hp : H p = some (.ins C dx fs)) (h : SqL K H a xs) : SqL K H' a xs := by
  rcases sql_ne h hp with n | (n | ⟨o, n⟩) | n
  · exact e.seq n h
  · cases n
  · cases n
  · exact .inr n
theorem tw_le {b : Pu.Bytes} {ws : List Pu.Bytes} {s : Sc} (h : s.at_ ≤ b.length) : (twS b ws s).1.at_ ≤ b.length := by
  unfold twS
  split
  · exact h
  · cases e : pickI ws (b.drop s.at_) with
    | some i =>
      have := (pick_some e).2.length_le
      rw [List.length_drop] at this
      show s.at_ + _ ≤ _
      omega
    | none =>
      show s.at_ + longW ws (b.drop s.at_) ≤ _
      by_cases z : ws = []
      · rw [z]; show s.at_ + 0 ≤ _; omega
      · obtain ⟨w, hw, e⟩ := long_at (b := b.drop s.at_) z
        have := cpl_le_r w (b.drop s.at_)
        rw [List.length_drop] at this
        omega
theorem tn_le {b : Pu.Bytes} {m : Nat} {s : Sc} (h : s.at_ ≤ b.length) : (tnS b m s).1.at_ ≤ b.length := by
  unfold tnS
  split
  · exact h
  · have := takeN_le m (b.drop s.at_)
    rw [List.length_drop] at this
    show s.at_ + _ ≤ _
    omega
/-- texts and their bytes -/
def IsBs : List Str → List Pu.Bytes → Prop
  | [], [] => True
  | x :: xs, b :: bs => IsB x b ∧ IsBs xs bs
  | _, _ => False
theorem IsBs.len : ∀ {xs : List Str} {bs : List Pu.Bytes}, IsBs xs bs → xs.length = bs.length
  | [], [], _ => rfl
  | _ :: _, _ :: _, h => by simp only [List.length_cons, IsBs.len h.2]
  | [], _ :: _, h => h.elim
  | _ :: _, [], h => h.elim
theorem IsBs.get : ∀ {xs : List Str} {bs : List Pu.Bytes} {i : Nat} {x : Str}, IsBs xs bs → xs[i]? = some x → ∃ b, bs[i]? = some b ∧ IsB x b
  | [], [], i, x, _, h => by simp at h
  | y :: xs, b :: bs, 0, x, hh, h => by
    have : y = x := Option.some.inj h
    subst this
    exact ⟨b, rfl, hh.1⟩
  | y :: xs, b :: bs, i + 1, x, hh, h => IsBs.get (i := i) hh.2 h
  | [], _ :: _, _, _, h, _ => h.elim
  | _ :: _, [], _, _, h, _ => h.elim
theorem pick_at {ws : List Pu.Bytes} {r : Pu.Bytes} {i : Nat} {x : Pu.Bytes} (hi : ws[i]? = some x) (hp : x <+: r) (hn : ∀ j y, j < i → ws[j]? = some y → ¬ y <+: r) : pickI ws r = some i := by
  have hl : i < ws.length := by
    apply Classical.byContradiction; intro z
    rw [List.getElem?_eq_none (by omega)] at hi; cases hi
  unfold pickI
  rw [List.findIdx?_eq_some_iff_getElem]
  rw [List.getElem?_eq_getElem hl] at hi
  refine ⟨hl, by rw [Option.some.inj hi]; exact pre_iff.mpr hp, fun j hj => ?_⟩
  intro z
  exact hn j _ hj (List.getElem?_eq_getElem (by omega)) (pre_iff.mp z)
theorem pick_no {ws : List Pu.Bytes} {r : Pu.Bytes} (hn : ∀ (j : Nat) (y : Pu.Bytes), ws[j]? = some y → ¬ y <+: r) : pickI ws r = none := by
  unfold pickI
  rw [List.findIdx?_eq_none_iff]
  intro x hx
  obtain ⟨j, hj, rfl⟩ := List.mem_iff_getElem.mp hx
  exact Bool.eq_false_iff.mpr fun z => hn j _ (List.getElem?_eq_getElem hj) (pre_iff.mp z)
theorem long_take {ws : List Pu.Bytes} {r : Pu.Bytes} {i : Nat} {x : Pu.Bytes} (h : ws[i]? = some x) : longW (ws.take (i + 1)) r = max (longW (ws.take i) r) (cpl x r) := by
  unfold longW
  rw [List.take_add_one, h, List.foldl_append]
  rfl
section
variable {P : Program} {w : World} {K : PySem.W.Frag} {mg : Str → Option Value} {base : Heap} {ad : Ad}
abbrev s_LineScan___init__ : Stmt := inClass (topS 36) 0
abbrev N_LineScan___init__ : List Str := ["self", "line"]
theorem sc_LineScan___init__ : FnScope N_LineScan___init__ ["self", "line"] (defScope s_LineScan___init__) := ⟨rfl, rfl, rfl, by decide +kernel, rfl, by decide +kernel, by decide +kernel⟩
def sp_scan_init (ad : Ad) : Sp := fun vs H Q _ => ∃ (p la dx : Addr), vs = [.ref p, .ref la] ∧ H p = some (.ins ad.cS dx []) ∧ ∀ H' : Hp, ScanAt ad H' p la ⟨0, true⟩ → SB p H H' → Q .non H'
theorem ok_scan_init {f : Addr} {fd : FuncData} (F : Fun K "__init__" "LineScan.__init__" s_LineScan___init__ f fd) (T : Txt P w K mg ad) : FnOk P w K mg base CX0 1 f fd ["self", "line"] (sp_scan_init ad) := by
  refine F.ok sc_LineScan___init__ (fun vs H Q E h => ?_) (fun cdv A outer s H vs Q E hr h => ?_)
  · obtain ⟨p, la, dx, rfl, _⟩ := h; rfl
  · obtain ⟨p, la, dx, rfl, hp, q⟩ := h
    refine ⟨_, (pss_cons (ps_fld (pv 0) (pv 1) rfl)
      (pss_cons (ps_fld (pv 0) pe_int rfl)
      (pss_one (ps_fld (pv 0) pe_bl rfl)))), ?_⟩
    refine ⟨_, rfl, _, rfl, p, ad.cS, dx, _, rfl, hp, T.cl_LineScan, T.n_line, (by show 0 < 1000; decide), ?_⟩
    refine ⟨_, rfl, p, ad.cS, dx, _, rfl, upd_same, T.cl_LineScan, T.n_at, (by show 1 < 1000; decide), ?_⟩
    refine ⟨_, rfl, p, ad.cS, dx, _, rfl, upd_same, T.cl_LineScan, T.n_right, (by show 2 < 1000; decide), ?_⟩
    refine q _ ⟨dx, ?_⟩ ?_
    · rw [upd_same, scF_new]
    · exact ((SB.upd p H _).trans (SB.upd p _ _)).trans (SB.upd p _ _)
abbrev s_LineScan_take_word : Stmt := inClass (topS 36) 1
abbrev N_LineScan_take_word : List Str := ["self", "words", "longest", "word", "shared"]
theorem sc_LineScan_take_word : FnScope N_LineScan_take_word ["self", "words"] (defScope s_LineScan_take_word) := ⟨rfl, rfl, rfl, by decide +kernel, rfl, by decide +kernel, by decide +kernel⟩
def wordOf (ws : List Str) : Option Nat → Str
  | some i => ws.getD i ""
  | none => ""
def sp_take_word (K : PySem.W.Frag) (ad : Ad) : Sp := fun vs H Q _ => ∃ (p la wa : Addr) (s : Sc) (b : Pu.Bytes) (ws : List Str) (wb : List Pu.Bytes), vs = [.ref p, .ref wa] ∧ ScanAt ad H p la s ∧ SqL K H la (b.map vB) ∧ SqL K H wa (ws.map V.str) ∧ IsBs ws wb ∧ (∀ x ∈ ws, x.length ≤ 1000) ∧ s.at_ ≤ b.length ∧
  ∀ H' : Hp, SB p H H' → ScanAt ad H' p la (twS b wb s).1 → Q (.str (wordOf ws (twS b wb s).2)) H'
theorem ok_take_word {f : Addr} {fd : FuncData} (F : Fun K "take_word" "LineScan.take_word" s_LineScan_take_word f fd) (T : Txt P w K mg ad) (D_shared_signs : Dcl P w K mg base 1 "shared_signs" ["line", "at", "word"] (sp_shared_signs K)) : FnOk P w K mg base CX0 2 f fd ["self", "words"] (sp_take_word K ad) := by
  refine F.ok sc_LineScan_take_word (fun vs H Q E h => ?_) (fun cdv A outer s H vs Q E hr h => ?_)
  · obtain ⟨p, la, wa, s, b, ws, wb, rfl, _⟩ := h; rfl
  · obtain ⟨p, la, wa, sc, b, ws, wb, rfl, ⟨dx, hp⟩, hla, hwa, hw, hwl, hat, q⟩ := h
    have lenw := hw.len
    refine ⟨_, (pss_cons (ps_if (pt_not (pt_val (pe_fld (pv 0) rfl)))
      (pss_one (ps_ret pe_str))
      pss_nil)
      (pss_cons (ps_set (i := 2) sc_LineScan_take_word.nd rfl (Or.inl rfl) pe_int)
      (pss_cons (ps_for PassesOwn.never rfl (pi_list (pv 1)) (pg_name (i := 3) sc_LineScan_take_word.nd rfl (Or.inl rfl))
      (pss_cons (ps_set (i := 4) sc_LineScan_take_word.nd rfl (Or.inl rfl) (pe_call D_shared_signs.ok (hr.mono (by decide)) (by rfl) D_shared_signs.g D_shared_signs.kp D_shared_signs.b .nil pass0 (pa_cons (pe_fld (pv 0) rfl) (pa_cons (pe_fld (pv 0) rfl) (pa_cons (pv 3) pa_nil)))))
      (pss_cons (ps_if (pt_cmpR op_eq (pv 4) (pe_callB call_len_str (by rfl) T.b_len PySem.boot_len (pa_cons (pv 3) pa_nil)) (nomark _))
      (pss_cons (ps_fldaug (pv 0) (pv 4) in_add)
      (pss_one (ps_ret (pv 3))))
      pss_nil)
      (pss_one (ps_set (i := 2) sc_LineScan_take_word.nd rfl (Or.inl rfl) (pe_callB (call_max2 rfl) (by rfl) T.b_max (by decide +kernel) (pa_cons (pv 2) (pa_cons (pv 4) pa_nil))))))))
      (pss_cons (ps_fldaug (pv 0) (pv 2) in_add)
      (pss_cons (ps_fld (pv 0) pe_bl rfl)
      (pss_one (ps_ret pe_str))))))), ?_⟩
    refine ⟨_, rfl, p, ad.cS, dx, _, _, rfl, hp, T.cl_LineScan, T.n_right, scF_right la sc, _, rfl, ?_⟩
    cases hr0 : sc.right with
    | false =>
      refine ift rfl ?_
      rw [tw_bad hr0] at q
      exact q H (SB.refl p H) ⟨dx, hp⟩
    | true =>
      refine iff_ rfl ?_
      refine ⟨_, rfl, wa, rfl, ⟨_, hwa⟩, ?_⟩
      have etw : twS b wb sc = (match pickI wb (b.drop sc.at_) with
        | some i => (⟨sc.at_ + (wb.getD i []).length, true⟩, some i)
        | none => (⟨sc.at_ + longW wb (b.drop sc.at_), false⟩, none)) := by
        unfold twS
        rw [if_neg (by rw [hr0]; exact Bool.noConfusion)]
        all_goals rfl
      refine for_list (K := K) (a := wa) (xs := ws.map V.str) (fun i σ H' => H' = H ∧ (∃ v3 v4 z, σ = [some (.ref p), some (.ref wa), some (.int z), v3, v4] ∧ z = (longW (wb.take i) (b.drop sc.at_) : Int)) ∧ ∀ j y, j < i → wb[j]? = some y → ¬ y <+: b.drop sc.at_) ⟨rfl, ⟨none, none, 0, rfl, rfl⟩, fun j y hj => by omega⟩ ?_ ?_ ?_
      · rintro i σ H' _ ⟨rfl, _⟩
        exact hwa
      · rintro i y σ H' hy ⟨rfl, ⟨v3, v4, z, rfl, rfl⟩, hn⟩
        obtain ⟨x, hx, rfl⟩ : ∃ x, ws[i]? = some x ∧ y = V.str x := by
          rw [List.getElem?_map] at hy
          cases e : ws[i]? with
          | none => rw [e] at hy; cases hy
          | some x => rw [e] at hy; exact ⟨x, rfl, (Option.some.inj hy).symm⟩
        obtain ⟨xb, hxb, isb⟩ := hw.get hx
        have lx := hwl x (List.mem_of_getElem? hx)
        have lxb : x.length = xb.length := by
          have := congrArg List.length isb
          rw [bN_len] at this
          exact this
        refine ⟨_, rfl, p, ad.cS, dx, _, _, rfl, hp, T.cl_LineScan, T.n_line, scF_line la sc, _, rfl, p, ad.cS, dx, _, _, rfl, hp, T.cl_LineScan, T.n_at, scF_at la sc, _, rfl, la, b, sc.at_, x, xb, rfl, hla, hat, isb, ?_⟩
        refine ⟨_, rfl, _, rfl, x, rfl, Nat.le_trans lx (by decide), rfl, _, rfl, ?_⟩
        by_cases c1 : cpl xb (b.drop sc.at_) = xb.length
        · refine ift (decide_eq_true ?_) ?_
          · rw [c1, lxb]
          · refine ⟨_, rfl, p, ad.cS, dx, _, _, rfl, hp, T.cl_LineScan, T.n_at, scF_at la sc, _, rfl, _, _, rfl, rfl, dx, _, hp, (by show 3 < 1000; decide), ?_⟩
            refine ⟨_, rfl, ?_⟩
            have pk := pick_at hxb ((prefix_cpl _ _).mpr c1) hn
            rw [pk] at etw
            have gx : wb.getD i [] = xb := by rw [List.getD_eq_getElem?_getD, hxb]; rfl
            have gw : wordOf ws (some i) = x := by
              show ws.getD i "" = x
              rw [List.getD_eq_getElem?_getD, hx]; rfl
            rw [etw] at q
            simp only [gx, gw] at q
            refine q _ (SB.upd p H' _) ⟨dx, ?_⟩
            rw [upd_same, scF_put_at la sc (sc.at_ + xb.length) (by rw [c1]; omega), hr0]
        · refine iff_ (decide_eq_false ?_) ?_
          · rw [lxb]
            intro z
            have := V.int.inj z
            omega
          · refine ⟨_, rfl, _, rfl, _, _, rfl, ?_⟩
            refine ⟨rfl, ⟨_, _, _, rfl, ?_⟩, fun j y hj hy' => ?_⟩
            · rw [long_take hxb]
              split <;> omega
            · by_cases z : j = i
              · subst z
                rw [hxb] at hy'
                rw [← Option.some.inj hy']
                exact fun hh => c1 ((prefix_cpl _ _).mp hh)
              · exact hn j y (by omega) hy'
      · rintro σ H' ⟨rfl, ⟨v3, v4, z, rfl, rfl⟩, hn⟩
        rw [List.length_map, lenw] at hn
        rw [List.length_map, lenw, List.take_length]
        refine ⟨_, rfl, p, ad.cS, dx, _, _, rfl, hp, T.cl_LineScan, T.n_at, scF_at la sc, _, rfl, _, _, rfl, rfl, dx, _, hp, (by show 3 < 1000; decide), ?_⟩
        refine ⟨_, rfl, p, ad.cS, dx, _, rfl, upd_same, T.cl_LineScan, T.n_right, ?_, ?_⟩
        · rw [scF_put_at la sc (sc.at_ + longW wb (b.drop sc.at_)) (by omega)]
          show 3 < 1000
          decide
        · have pk : pickI wb (b.drop sc.at_) = none := pick_no fun j y hy => hn j y (by
            apply Classical.byContradiction; intro z
            rw [List.getElem?_eq_none (by omega)] at hy; cases hy) hy
          rw [pk] at etw
          rw [etw] at q
          refine q _ ((SB.upd p H' _).trans (SB.upd p _ _)) ⟨dx, ?_⟩
          rw [upd_same, scF_put_at la sc (sc.at_ + longW wb (b.drop sc.at_)) (by omega), scF_put_right]
abbrev s_LineScan_figure_here : Stmt := inClass (topS 36) 2
abbrev N_LineScan_figure_here : List Str := ["self"]
theorem sc_LineScan_figure_here : FnScope N_LineScan_figure_here ["self"] (defScope s_LineScan_figure_here) := ⟨rfl, rfl, rfl, by decide +kernel, rfl, by decide +kernel, by decide +kernel⟩
def figAt (b : Pu.Bytes) (k : Nat) : Bool := match b[k]? with
  | some c => isDig c
  | none => false
def sp_figure_here (K : PySem.W.Frag) (ad : Ad) : Sp := fun vs H Q _ => ∃ (p la : Addr) (s : Sc) (b : Pu.Bytes), vs = [.ref p] ∧ ScanAt ad H p la s ∧ SqL K H la (b.map vB) ∧ Q (.bl (figAt b s.at_)) H
theorem ok_figure_here {f : Addr} {fd : FuncData} (F : Fun K "figure_here" "LineScan.figure_here" s_LineScan_figure_here f fd) (T : Txt P w K mg ad) (D_is_figure : Dcl P w K mg base 1 "is_figure" ["sign"] sp_is_figure) : FnOk P w K mg base CX0 2 f fd ["self"] (sp_figure_here K ad) := by
  refine F.ok sc_LineScan_figure_here (fun vs H Q E h => ?_) (fun cdv A outer s H vs Q E hr h => ?_)
  · obtain ⟨p, la, s, b, rfl, _⟩ := h; rfl
  · obtain ⟨p, la, sc, b, rfl, ⟨dx, hp⟩, hla, q⟩ := h
    refine ⟨_, (pss_one (ps_ret (pe_and (pe_cmpR op_lt (pe_fld (pv 0) rfl) (pe_callB call_len_seq (by rfl) T.b_len PySem.boot_len (pa_cons (pe_fld (pv 0) rfl) pa_nil)) (nomark _)) (pe_one (pe_call D_is_figure.ok (hr.mono (by decide)) (by rfl) D_is_figure.g D_is_figure.kp D_is_figure.b .nil pass0 (pa_cons (pe_ix ix_list (pe_fld (pv 0) rfl) (pe_fld (pv 0) rfl) (fun _ _ => rfl)) pa_nil)))))), ?_⟩
    refine ⟨_, rfl, p, ad.cS, dx, _, _, rfl, hp, T.cl_LineScan, T.n_at, scF_at la sc, _, rfl, p, ad.cS, dx, _, _, rfl, hp, T.cl_LineScan, T.n_line, scF_line la sc, la, _, rfl, .inl hla, _, _, rfl, rfl, _, rfl, ?_⟩
    unfold figAt at q
    by_cases c1 : sc.at_ < b.length
    · refine ift (decide_eq_true (by rw [List.length_map]; omega)) ?_
      have hb : b[sc.at_]? = some b[sc.at_] := List.getElem?_eq_getElem c1
      rw [hb] at q
      generalize b[sc.at_] = c at *
      exact ⟨_, rfl, p, ad.cS, dx, _, _, rfl, hp, T.cl_LineScan, T.n_line, scF_line la sc, _, rfl, p, ad.cS, dx, _, _, rfl, hp, T.cl_LineScan, T.n_at, scF_at la sc, la, _, _, _, rfl, rfl, hla, at_byte hb rfl, c, rfl, q⟩
    · refine iff_ (decide_eq_false (by rw [List.length_map]; omega)) ?_
      rw [List.getElem?_eq_none (by omega)] at q
      exact q
abbrev s_LineScan_take_number : Stmt := inClass (topS 36) 3
abbrev N_LineScan_take_number : List Str := ["self", "most", "number", "longer"]
theorem sc_LineScan_take_number : FnScope N_LineScan_take_number ["self", "most"] (defScope s_LineScan_take_number) := ⟨rfl, rfl, rfl, by decide +kernel, rfl, by decide +kernel, by decide +kernel⟩
def sp_take_number (K : PySem.W.Frag) (ad : Ad) : Sp := fun vs H Q _ => ∃ (p la : Addr) (s : Sc) (b : Pu.Bytes) (m : Nat), vs = [.ref p, .int (m : Int)] ∧ ScanAt ad H p la s ∧ SqL K H la (b.map vB) ∧ s.at_ ≤ b.length ∧ m < 256 ∧
  ∀ H' : Hp, SB p H H' → ScanAt ad H' p la (tnS b m s).1 → Q (.int ((tnS b m s).2 : Int)) H'
theorem ok_take_number {f : Addr} {fd : FuncData} (F : Fun K "take_number" "LineScan.take_number" s_LineScan_take_number f fd) (T : Txt P w K mg ad) (D_LineScan_figure_here : MDcl P w K mg base 2 ad.cS "figure_here" ["self"] (sp_figure_here K ad)) : FnOk P w K mg base CX0 3 f fd ["self", "most"] (sp_take_number K ad) := by
  refine F.ok sc_LineScan_take_number (fun vs H Q E h => ?_) (fun cdv A outer s H vs Q E hr h => ?_)
  · obtain ⟨p, la, s, b, m, rfl, _⟩ := h; rfl
  · obtain ⟨p, la, sc, b, m, rfl, ⟨dx, hp⟩, hla, hat, hm, q⟩ := h
    refine ⟨_, (pss_cons (ps_if (PW.pt (pw_or (pt_not (pt_val (pe_fld (pv 0) rfl))) (pw_or1 (pt_not (pt_val (pe_meth0 (pv 0) T.cl_LineScan D_LineScan_figure_here.m D_LineScan_figure_here.ok (hr.mono (by decide)) D_LineScan_figure_here.b .nil pass0))))))
      (pss_cons (ps_fld (pv 0) pe_bl rfl)
      (pss_one (ps_ret pe_int)))
      pss_nil)
      (pss_cons (ps_set (i := 2) sc_LineScan_take_number.nd rfl (Or.inl rfl) (pe_op op_sub (pe_ix ix_list (pe_fld (pv 0) rfl) (pe_fld (pv 0) rfl) (fun _ _ => rfl)) (pe_gint (by rfl) T.g_NOUGHT)))
      (pss_cons (ps_fldaug (pv 0) pe_int in_add)
      (pss_cons (ps_while PassesOwn.never (PW.pt (pw_and (pt_cmpR op_gt (pv 2) pe_int (nomark _)) (pw_and1 (pt_val (pe_meth0 (pv 0) T.cl_LineScan D_LineScan_figure_here.m D_LineScan_figure_here.ok (hr.mono (by decide)) D_LineScan_figure_here.b .nil pass0)))))
      (pss_cons (ps_set (i := 3) sc_LineScan_take_number.nd rfl (Or.inl rfl) (pe_op op_sub (pe_op op_add (pe_op op_mul pe_int (pv 2)) (pe_ix ix_list (pe_fld (pv 0) rfl) (pe_fld (pv 0) rfl) (fun _ _ => rfl))) (pe_gint (by rfl) T.g_NOUGHT)))
      (pss_cons (ps_if (pt_cmpR op_gt (pv 3) (pv 1) (nomark _))
      (pss_one (ps_ret (pv 2)))
      pss_nil)
      (pss_cons (ps_set (i := 2) sc_LineScan_take_number.nd rfl (Or.inl rfl) (pv 3))
      (pss_one (ps_fldaug (pv 0) pe_int in_add))))))
      (pss_one (ps_ret (pv 2))))))), ?_⟩
    have fh : (scF la sc).lookup ("figure_here" : Str) = none := scF_no la sc (by decide +kernel) (by decide +kernel) (by decide +kernel)
    have bad : (sc.right = false ∨ (takeN m (b.drop sc.at_)).2 = 0) → Q (.int 0) (upd H p (.ins ad.cS dx (putF "right" (.bl false) (scF la sc)))) := by
      intro h
      unfold tnS at q
      rw [if_pos h] at q
      refine q _ (SB.upd p H _) ⟨dx, ?_⟩
      rw [upd_same, scF_put_right]
    refine ⟨_, rfl, p, ad.cS, dx, _, _, rfl, hp, T.cl_LineScan, T.n_right, scF_right la sc, _, rfl, ?_⟩
    cases hr0 : sc.right with
    | false =>
      refine ift rfl (ift rfl ?_)
      exact ⟨_, rfl, p, ad.cS, dx, _, rfl, hp, T.cl_LineScan, T.n_right, (by show 3 < 1000; decide), bad (Or.inl hr0)⟩
    | true =>
      refine iff_ rfl ?_
      refine ⟨_, rfl, p, dx, _, rfl, hp, fh, p, la, sc, b, rfl, ⟨dx, hp⟩, hla, _, rfl, ?_⟩
      cases hf : figAt b sc.at_ with
      | false =>
        refine ift rfl ?_
        refine ⟨_, rfl, p, ad.cS, dx, _, rfl, hp, T.cl_LineScan, T.n_right, (by show 3 < 1000; decide), bad (Or.inr ?_)⟩
        unfold figAt at hf
        cases hb : b[sc.at_]? with
        | none =>
          rw [List.getElem?_eq_none_iff] at hb
          rw [List.drop_eq_nil_iff.mpr hb]; rfl
        | some c =>
          rw [hb] at hf
          have hf' : isDig c = false := hf
          rw [drop_cons hb, takeN, if_neg (by rw [hf']; exact Bool.false_ne_true)]
      | true =>
        refine iff_ rfl ?_
        unfold figAt at hf
        cases hb : b[sc.at_]? with
        | none => rw [hb] at hf; cases hf
        | some c =>
          rw [hb] at hf
          have hd := isDig_iff.mp hf
          have hlt : sc.at_ < b.length := by
            apply Classical.byContradiction; intro z
            rw [List.getElem?_eq_none (by omega)] at hb; cases hb
          have etn : tnS b m sc = (⟨sc.at_ + ((goNum m (c.toNat - 48) (b.drop (sc.at_ + 1))).2 + 1), true⟩, (goNum m (c.toNat - 48) (b.drop (sc.at_ + 1))).1) := by
            unfold tnS
            rw [drop_cons hb, takeN, if_pos hf, if_neg (by rintro (z | z); rw [hr0] at z; cases z; cases z)]
          rw [etn] at q
          refine ⟨_, rfl, p, ad.cS, dx, _, _, rfl, hp, T.cl_LineScan, T.n_line, scF_line la sc, _, rfl, p, ad.cS, dx, _, _, rfl, hp, T.cl_LineScan, T.n_at, scF_at la sc, la, _, _, _, rfl, rfl, hla, at_byte hb rfl, _, _, rfl, rfl, ?_⟩
          refine ⟨_, rfl, p, ad.cS, dx, _, _, rfl, hp, T.cl_LineScan, T.n_at, scF_at la sc, _, _, rfl, rfl, dx, _, hp, (by show 3 < 1000; decide), ?_⟩
          refine while_by (fun σ H' => ∃ (n k : Nat) (z : Int) (v3 : Option V), σ = [some (.ref p), some (.int (m : Int)), some (.int z), v3] ∧ z = (n : Int) ∧ SB p H H' ∧ H' p = some (.ins ad.cS dx (scF la ⟨k, true⟩)) ∧ k ≤ b.length ∧ (goNum m (c.toNat - 48) (b.drop (sc.at_ + 1))).1 = (goNum m n (b.drop k)).1 ∧ sc.at_ + ((goNum m (c.toNat - 48) (b.drop (sc.at_ + 1))).2 + 1) = k + (goNum m n (b.drop k)).2)
            (fun σ H' => b.length - (match H' p with | some (.ins _ _ fs) => (match fs.lookup ("at" : Str) with | some (.int z) => z.toNat | _ => 0) | _ => 0)) ?_ ?_ ?_
          · refine ⟨c.toNat - 48, sc.at_ + 1, (c.toNat : Int) - 48, none, rfl, by omega, SB.upd p H _, ?_, by omega, rfl, by omega⟩
            rw [upd_same, scF_put_at la sc (sc.at_ + 1) (by omega), hr0]
          · rintro σ H' ⟨n, k, z, v3, rfl, rfl, sb, hp', hk, i1, i2⟩
            have hla' : SqL K H' la (b.map vB) := sb.seq' hp hla
            have fh' : (scF la ⟨k, true⟩).lookup ("figure_here" : Str) = none := scF_no la _ (by decide +kernel) (by decide +kernel) (by decide +kernel)
            have fin : (goNum m n (b.drop k)) = (n, 0) → Q (.int (n : Int)) H' := by
              intro e
              rw [e] at i1 i2
              simp only at i1 i2
              have := q H' sb ⟨dx, by rw [hp', i2]; rfl⟩
              exact qint this (by rw [i1])
            refine ⟨_, rfl, _, _, rfl, rfl, _, rfl, ?_⟩
            by_cases c1 : (0 : Int) < (n : Int)
            · refine ift (decide_eq_true c1) ?_
              refine ⟨_, rfl, p, dx, _, rfl, hp', fh', p, la, ⟨k, true⟩, b, rfl, ⟨dx, hp'⟩, hla', _, rfl, ?_⟩
              cases hf2 : figAt b k with
              | false =>
                refine iff_ rfl ⟨_, rfl, fin ?_⟩
                unfold figAt at hf2
                cases hb2 : b[k]? with
                | none =>
                  rw [List.getElem?_eq_none_iff] at hb2
                  rw [List.drop_eq_nil_iff.mpr hb2]; rfl
                | some d =>
                  rw [hb2] at hf2
                  have hf' : isDig d = false := hf2
                  rw [drop_cons hb2, goNum, if_neg (by rintro ⟨_, z, _⟩; rw [hf'] at z; cases z)]
              | true =>
                refine ift rfl ?_
                unfold figAt at hf2
                cases hb2 : b[k]? with
                | none => rw [hb2] at hf2; cases hf2
                | some d =>
                  rw [hb2] at hf2
                  have hd2 := isDig_iff.mp hf2
                  have hk2 : k < b.length := by
                    apply Classical.byContradiction; intro z
                    rw [List.getElem?_eq_none (by omega)] at hb2; cases hb2
                  have at2 : (scF la ⟨k, true⟩).lookup ("at" : Str) = some (.int (k : Int)) := scF_at la ⟨k, true⟩
                  refine ⟨_, rfl, _, _, rfl, rfl, .inl ⟨by decide, by decide⟩, _, rfl, p, ad.cS, dx, _, _, rfl, hp', T.cl_LineScan, T.n_line, scF_line la _, _, rfl, p, ad.cS, dx, _, _, rfl, hp', T.cl_LineScan, T.n_at, at2, la, _, _, _, rfl, rfl, hla', at_byte hb2 rfl, _, _, rfl, rfl, _, _, rfl, rfl, ?_⟩
                  refine ⟨_, rfl, _, rfl, _, _, rfl, rfl, _, rfl, ?_⟩
                  rw [drop_cons hb2, goNum] at fin i1 i2
                  by_cases c3 : (m : Int) < 10 * (n : Int) + (d.toNat : Int) - 48
                  · refine ift (decide_eq_true c3) ⟨_, rfl, fin ?_⟩
                    rw [if_neg (by rintro ⟨_, _, z⟩; omega)]
                  · refine iff_ (decide_eq_false c3) ?_
                    rw [if_pos ⟨by omega, hf2, by omega⟩] at i1 i2
                    simp only at i1 i2
                    refine ⟨_, rfl, ?_⟩
                    refine ⟨_, rfl, p, ad.cS, dx, _, _, rfl, hp', T.cl_LineScan, T.n_at, at2, _, _, rfl, rfl, dx, _, hp', (by show 3 < 1000; decide), ?_⟩
                    refine ⟨⟨10 * n + (d.toNat - 48), k + 1, 10 * (n : Int) + (d.toNat : Int) - 48, _, rfl, by omega, sb.trans (SB.upd p H' _), ?_, by omega, i1, by omega⟩, ?_⟩
                    · rw [upd_same, scF_put_at la _ (k + 1) (by show (k : Int) + 1 = _; omega)]
                    · simp only [upd_same, hp']
                      rw [scF_put_at la _ (k + 1) (by show (k : Int) + 1 = _; omega), scF_at, scF_at]
                      show b.length - ((k + 1 : Nat) : Int).toNat < b.length - ((k : Nat) : Int).toNat
                      omega
            · refine iff_ (decide_eq_false c1) ⟨_, rfl, fin ?_⟩
              have : n = 0 := by omega
              subst this
              cases b.drop k with
              | nil => rfl
              | cons d r => rw [goNum, if_neg (by rintro ⟨z, _⟩; omega)]
          · rintro σ H1 Q1 Q2 hq ⟨u1, e1, u2, u3, e2, e3, u4, e4, z⟩
            refine ⟨u1, e1, u2, u3, e2, e3, u4, e4, ?_⟩
            cases u4 with
            | false => exact hq _ _ z
            | true =>
              obtain ⟨v1, f1, v2, v3, v4, f2, f3, f4, v5, v6, v7, v8, f5, f6, f7, v9, f8, z⟩ := z
              exact ⟨v1, f1, v2, v3, v4, f2, f3, f4, v5, v6, v7, v8, f5, f6, f7, v9, f8, hq _ _ z⟩
end
end CP
/-! HText3 -/
namespace CP
open PySem PySem.Spec PyProof.Rows L2
theorem val_hub : ∀ {ws : List Str} {ts : List Addr} {i : Nat} {x : Str} {t : Addr}, ws.Nodup → ws[i]? = some x → ts[i]? = some t → valV (hubKvs ws ts) (Sum.inr x) = some (.ref t)
  | [], _, _, _, _, _, h, _ => by simp at h
  | _ :: _, [], _, _, _, _, _, h => by simp at h
  | y :: ws, u :: ts, 0, x, t, _, h1, h2 => by
    have e1 : y = x := Option.some.inj h1
    have e2 : u = t := Option.some.inj h2
    subst e1 e2
    exact valV_pos rfl
  | y :: ws, u :: ts, i + 1, x, t, nd, h1, h2 => by
    have nd' := List.nodup_cons.mp nd
    have ne : y ≠ x := fun e => nd'.1 (e ▸ List.mem_of_getElem? h1)
    show valV ((Sum.inr y, V.ref u) :: hubKvs ws ts) _ = _
    rw [valV_neg (fun e => ne (Sum.inr.inj e))]
    exact val_hub (i := i) nd'.2 h1 h2
theorem val_hub_no : ∀ {ws : List Str} {ts : List Addr} {x : Str}, x ∉ ws → valV (hubKvs ws ts) (Sum.inr x) = none
  | [], _, _, _ => rfl
  | _ :: _, [], _, _ => rfl
  | y :: ws, u :: ts, x, h => by
    show valV ((Sum.inr y, V.ref u) :: hubKvs ws ts) _ = _
    rw [valV_neg (fun e => h (by rw [← Sum.inr.inj e]; exact List.mem_cons_self))]
    exact val_hub_no fun z => h (List.mem_cons_of_mem _ z)
theorem hub_keys : ∀ {ws : List Str} {ts : List Addr}, ts.length = ws.length → ((hubKvs ws ts).map fun kv => kV kv.1) = ws.map V.str
  | [], _, _ => rfl
  | _ :: _, [], h => by simp at h
  | y :: ws, u :: ts, h => by
    exact congrArg (V.str y :: ·) (hub_keys (ws := ws) (ts := ts) (by simpa using h))
theorem nums_snoc (b : Pu.Bytes) (m : Nat) : ∀ (ms : List Nat) (s : Sc), numsS b (ms ++ [m]) s = ((tnS b m (twS b [[32]] (numsS b ms s).1).1).1, (numsS b ms s).2 ++ [(tnS b m (twS b [[32]] (numsS b ms s).1).1).2])
  | [], s => rfl
  | k :: ms, s => by
    show ((numsS b (ms ++ [m]) _).1, _ :: (numsS b (ms ++ [m]) _).2) = _
    rw [nums_snoc b m ms]
    rfl
theorem nums_le {b : Pu.Bytes} : ∀ (ms : List Nat) (s : Sc), s.at_ ≤ b.length → (numsS b ms s).1.at_ ≤ b.length
  | [], s, h => h
  | m :: ms, s, h => nums_le ms _ (tn_le (tw_le h))
theorem hub_le {b : Pu.Bytes} {ws : List Pu.Bytes} {ns : List (List Nat)} {s : Sc} (h : s.at_ ≤ b.length) : (hubS b ws ns s).1.at_ ≤ b.length := by
  unfold hubS
  cases (twS b ws s).2 with
  | none => exact tw_le h
  | some i => exact nums_le _ _ (tw_le h)
def hubV (ws : List Str) (r : Option Nat × List Nat) : List V := .str (wordOf ws r.1) :: r.2.map vN
/-- what's done of one hub, as one loop -/
theorem hub_loop (b : Pu.Bytes) (ws : List Pu.Bytes) (ns : List (List Nat)) (s : Sc) : hubS b ws ns s = ((numsS b (match (twS b ws s).2 with | none => [] | some i => ns.getD i []) (twS b ws s).1).1, (twS b ws s).2, (numsS b (match (twS b ws s).2 with | none => [] | some i => ns.getD i []) (twS b ws s).1).2) := by
  unfold hubS
  cases (twS b ws s).2 <;> rfl
theorem isb_sp : IsBs [" "] [[32]] := ⟨by decide +kernel, True.intro⟩
theorem isb_arrow : IsBs [" > "] [arrow] := ⟨by decide +kernel, True.intro⟩
theorem isb_nl : IsBs ["\n"] [[10]] := ⟨by decide +kernel, True.intro⟩
theorem isb_send : IsBs sendS sendW := ⟨by decide +kernel, by decide +kernel, by decide +kernel, by decide +kernel, by decide +kernel, by decide +kernel, by decide +kernel, by decide +kernel, True.intro⟩
theorem isb_take : IsBs takeS takeW := ⟨by decide +kernel, by decide +kernel, by decide +kernel, by decide +kernel, by decide +kernel, by decide +kernel, by decide +kernel, by decide +kernel, True.intro⟩
theorem sc_no_tw (la : Addr) (s : Sc) : (scF la s).lookup ("take_word" : Str) = none := scF_no la s (by decide +kernel) (by decide +kernel) (by decide +kernel)
theorem sc_no_tn (la : Addr) (s : Sc) : (scF la s).lookup ("take_number" : Str) = none := scF_no la s (by decide +kernel) (by decide +kernel) (by decide +kernel)
theorem tw_idx {b : Pu.Bytes} {ws : List Pu.Bytes} {s : Sc} {i : Nat} (h : (twS b ws s).2 = some i) : i < ws.length := by
  unfold twS at h
  split at h
  · cases h
  · cases e : pickI ws (b.drop s.at_) with
    | none => rw [e] at h; cases h
    | some j =>
      rw [e] at h
      have : j = i := Option.some.inj h
      rw [← this]
      exact (pick_some e).1
section
variable {P : Program} {w : World} {K : PySem.W.Frag} {mg : Str → Option Value} {base : Heap} {ad : Ad}
abbrev s_take_hub : Stmt := topS 37
abbrev N_take_hub : List Str := ["scan", "hubs", "name", "hub", "most"]
theorem sc_take_hub : FnScope N_take_hub ["scan", "hubs"] (defScope s_take_hub) := ⟨rfl, rfl, rfl, by decide +kernel, rfl, by decide +kernel, by decide +kernel⟩
def sp_take_hub (K : PySem.W.Frag) (ad : Ad) : Sp := fun vs H Q _ => ∃ (p la h : Addr) (s : Sc) (b : Pu.Bytes) (ws : List Str) (wb : List Pu.Bytes) (ns : List (List Nat)) (ts : List Addr), vs = [.ref p, .ref h] ∧ ScanAt ad H p la s ∧ SqL K H la (b.map vB) ∧ s.at_ ≤ b.length ∧
  H h = some (.dK (hubKvs ws ts)) ∧ ts.length = ws.length ∧ (∀ (i : Nat) (t : Addr), ts[i]? = some t → KTup K t ((ns.getD i []).map vN)) ∧ IsBs ws wb ∧ ws.Nodup ∧ ("" : Str) ∉ ws ∧ (∀ x ∈ ws, x.length ≤ 1000) ∧ (∀ l ∈ ns, ∀ m ∈ l, m < 256) ∧ (∀ l ∈ ns, l.length ≤ 10) ∧
  ∀ (H' : Hp) (r : Addr), SB p H H' → H r = none → ScanAt ad H' p la (hubS b wb ns s).1 → H' r = some (.tup (hubV ws (hubS b wb ns s).2)) → Q (.ref r) H'
theorem ok_take_hub {f : Addr} {fd : FuncData} (F : Fun K "take_hub" "take_hub" s_take_hub f fd) (T : Txt P w K mg ad) (D_LineScan_take_word : MDcl P w K mg base 2 ad.cS "take_word" ["self", "words"] (sp_take_word K ad)) (D_LineScan_take_number : MDcl P w K mg base 3 ad.cS "take_number" ["self", "most"] (sp_take_number K ad)) : FnOk P w K mg base CX0 4 f fd ["scan", "hubs"] (sp_take_hub K ad) := by
  refine F.ok sc_take_hub (fun vs H Q E h => ?_) (fun cdv A outer s H vs Q E hr h => ?_)
  · obtain ⟨p, la, h, s, b, ws, wb, ns, ts, rfl, _⟩ := h; rfl
  · obtain ⟨p, la, h, sc, b, ws, wb, ns, ts, rfl, ⟨dx, hp⟩, hla, hat, hh, lts, hts, hw, nd, nem, hwl, hns, hnl, q⟩ := h
    refine ⟨_, (pss_cons (ps_set (i := 2) sc_take_hub.nd rfl (Or.inl rfl) (pe_meth (pv 0) T.cl_LineScan D_LineScan_take_word.m D_LineScan_take_word.ok (hr.mono (by decide)) D_LineScan_take_word.b .nil pass0 (pa_cons (pe_callTy (call_list_dK (by rfl)) (by rfl) T.b_list (by decide +kernel) (pa_cons (pv 1) pa_nil)) pa_nil)))
      (pss_cons (ps_set (i := 3) sc_take_hub.nd rfl (Or.inl rfl) (pe_lst (pa_cons (pv 2) pa_nil)))
      (pss_cons (ps_for PassesOwn.never rfl (pi_tup (pe_dget2 (hu_of hr) (pv 1) (pv 2) (pe_tup pa_nil) ⟨rfl, rfl, rfl, rfl⟩)) (pg_name (i := 4) sc_take_hub.nd rfl (Or.inl rfl))
      (pss_cons (ps_expr (pe_meth (pv 0) T.cl_LineScan D_LineScan_take_word.m D_LineScan_take_word.ok (hr.mono (by decide)) D_LineScan_take_word.b .nil pass0 (pa_cons (pe_lst (pa_cons pe_str pa_nil)) pa_nil)))
      (pss_one (ps_expr (pe_bm PySem.F.plainAttrs_list PySem.F.slot_list_append PySem.F.type_list_append mt_append (pv 3) (pa_cons (pe_meth (pv 0) T.cl_LineScan D_LineScan_take_number.m D_LineScan_take_number.ok (hr.mono (by decide)) D_LineScan_take_number.b .nil pass0 (pa_cons (pv 4) pa_nil)) pa_nil))))))
      (pss_one (ps_ret (pe_callTy call_tuple_of (by rfl) T.b_tuple (by decide +kernel) (pa_cons (pv 3) pa_nil))))))), ?_⟩
    refine ⟨_, rfl, p, dx, _, rfl, hp, sc_no_tw la sc, _, rfl, h, _, rfl, hh, fun la2 nla2 => ?_⟩
    have t1 := same_upd (o := .lst ((hubKvs ws ts).map fun kv => kV kv.1)) nla2
    refine ⟨p, la, la2, sc, b, ws, wb, rfl, ⟨dx, t1 _ _ hp⟩, t1.seq hla, SqL.of (by rw [upd_same, hub_keys lts]), hw, hwl, hat, fun H1 sb1 sa1 => ?_⟩
    have sb1' : SB p H H1 := (SB.of t1).trans sb1
    have nhp : h ≠ p := ne_of hh hp (fun e => by cases e)
    have hh1 := sb1' _ _ hh nhp
    obtain ⟨dx1, hp1⟩ := sa1
    have hla1 : SqL K H1 la (b.map vB) := sb1'.seq' hp hla
    refine ⟨_, rfl, (by show 1 ≤ sizeLine; decide), fun hb nhb => ?_⟩
    have t2 := same_upd (o := .lst [V.str (wordOf ws (twS b wb sc).2)]) nhb
    rw [hub_loop] at q
    have hfresh : H hb = none := by
      cases e : H hb with
      | none => rfl
      | some o =>
        by_cases z : hb = p
        · rw [z, hp1] at nhb; cases nhb
        · rw [sb1' _ _ e z] at nhb; cases nhb
    have npb : hb ≠ p := fun z => by rw [z, hp1] at nhb; cases nhb
    refine ⟨_, rfl, h, rfl, .inl ⟨_, .inl (t2 _ _ hh1)⟩, _, rfl, (by show 0 ≤ sizeLine; decide), fun te nte => ?_⟩
    have t3 := same_upd (o := .tup []) nte
    refine ⟨_, DGet.k (k := Sum.inr _) (t3 _ _ (t2 _ _ hh1)), ?_⟩
    generalize hms : (match (twS b wb sc).2 with | none => [] | some i => ns.getD i []) = ms at *
    have sb3 : SB p H (upd (upd H1 hb (.lst [V.str (wordOf ws (twS b wb sc).2)])) te (.tup [])) := sb1'.trans ((SB.of t2).trans (SB.of t3))
    have hp3 := t3 _ _ (t2 _ _ hp1)
    have ntep : te ≠ p := fun z => by rw [z, t2 _ _ hp1] at nte; cases nte
    have nhbt : hb ≠ te := fun z => by rw [← z, upd_same] at nte; cases nte
    have TT : ∃ ta, (valV (hubKvs ws ts) (Sum.inr (wordOf ws (twS b wb sc).2))).getD (V.ref te) = .ref ta ∧ ∀ H' : Hp, H' te = some (.tup []) → SqT K H' ta (ms.map vN) := by
      cases hi : (twS b wb sc).2 with
      | none =>
        rw [hi] at hms
        refine ⟨te, by rw [show wordOf ws none = ("" : Str) from rfl, val_hub_no nem]; rfl, fun H' z => ?_⟩
        rw [← hms]
        exact SqT.of z
      | some i =>
        rw [hi] at hms
        have hlt : i < ws.length := by rw [hw.len]; exact tw_idx hi
        have hx : ws[i]? = some ws[i] := List.getElem?_eq_getElem hlt
        have ht : ts[i]? = some ts[i] := List.getElem?_eq_getElem (by omega)
        have ew : wordOf ws (some i) = ws[i] := by
          show ws.getD i "" = _
          rw [List.getD_eq_getElem?_getD, hx]; rfl
        refine ⟨ts[i], by rw [ew, val_hub nd hx ht]; rfl, fun H' _ => ?_⟩
        rw [← hms]
        exact (hts i _ ht).at_ H'
    have hms2 : (∀ m ∈ ms, m < 256) ∧ ms.length ≤ 10 := by
      rw [← hms]
      cases (twS b wb sc).2 with
      | none => exact ⟨fun m hm => (by cases hm), Nat.zero_le _⟩
      | some i =>
        by_cases z : i < ns.length
        · have e : ns.getD i [] = ns[i] := by rw [List.getD_eq_getElem?_getD, List.getElem?_eq_getElem z]; rfl
          show (∀ m ∈ ns.getD i [], m < 256) ∧ (ns.getD i []).length ≤ 10
          rw [e]
          exact ⟨hns _ (List.getElem_mem z), hnl _ (List.getElem_mem z)⟩
        · have e : ns.getD i [] = [] := by rw [List.getD_eq_getElem?_getD, List.getElem?_eq_none (by omega)]; rfl
          show (∀ m ∈ ns.getD i [], m < 256) ∧ (ns.getD i []).length ≤ 10
          rw [e]
          exact ⟨fun m hm => (by cases hm), by decide⟩
    obtain ⟨ta, eta, hta⟩ := TT
    refine ⟨ta, eta, ⟨_, hta _ upd_same⟩, ?_⟩
    refine for_tup (K := K) (a := ta) (xs := ms.map vN) (fun i σ H' => ∃ v4, σ = [some (.ref p), some (.ref h), some (.str (wordOf ws (twS b wb sc).2)), some (.ref hb), v4] ∧ SB p H H' ∧ H' te = some (.tup []) ∧ ScanAt ad H' p la (numsS b (ms.take i) (twS b wb sc).1).1 ∧ H' hb = some (.lst (V.str (wordOf ws (twS b wb sc).2) :: (numsS b (ms.take i) (twS b wb sc).1).2.map vN))) ?_ ?_ ?_ ?_
    · exact ⟨none, rfl, sb3, upd_same, ⟨dx1, hp3⟩, t3 _ _ upd_same⟩
    · rintro i σ H' _ ⟨v4, rfl, sb, ete, _⟩
      exact hta H' ete
    · rintro i y σ H' hy ⟨v4, rfl, sb, ete, ⟨dx1, hp4⟩, hb4⟩
      obtain ⟨m, hm, rfl⟩ : ∃ m, ms[i]? = some m ∧ y = vN m := by
        rw [List.getElem?_map] at hy
        cases e : ms[i]? with
        | none => rw [e] at hy; cases hy
        | some m => rw [e] at hy; exact ⟨m, rfl, (Option.some.inj hy).symm⟩
      have hil : i < ms.length := by
        apply Classical.byContradiction; intro z
        rw [List.getElem?_eq_none (by omega)] at hm; cases hm
      have hatI : (numsS b (ms.take i) (twS b wb sc).1).1.at_ ≤ b.length := nums_le _ _ (tw_le hat)
      have hla4 : SqL K H' la (b.map vB) := sb.seq' hp hla
      refine ⟨_, rfl, p, dx1, _, rfl, hp4, sc_no_tw la _, (by show 1 ≤ sizeLine; decide), fun r nr => ?_⟩
      have t5 := same_upd (o := .lst [V.str " "]) nr
      refine ⟨p, la, r, _, b, [" "], [[32]], rfl, ⟨dx1, t5 _ _ hp4⟩, t5.seq hla4, SqL.of upd_same, isb_sp, (fun x hx => by rw [show x = (" " : Str) by simpa using hx]; decide +kernel), hatI, fun H5 sb5 sa5 => ?_⟩
      obtain ⟨dx5, hp5⟩ := sa5
      have sbA : SB p H' H5 := (SB.of t5).trans sb5
      have hb5 := sbA _ _ hb4 npb
      have ete5 := sbA _ _ ete ntep
      have hla5 : SqL K H5 la (b.map vB) := (sb.trans sbA).seq' hp hla
      refine ⟨_, rfl, .inl ⟨rfl, _, SqL.of hb5⟩, _, rfl, p, dx5, _, rfl, hp5, sc_no_tn la _, _, rfl, ?_⟩
      refine ⟨p, la, _, b, m, rfl, ⟨dx5, hp5⟩, hla5, tw_le hatI, hms2.1 m (List.mem_of_getElem? hm), fun H6 sb6 sa6 => ?_⟩
      obtain ⟨dx6, hp6⟩ := sa6
      have hb6 := sb6 _ _ hb5 npb
      have ete6 := sb6 _ _ ete5 ntep
      refine ⟨hb, _, _, rfl, rfl, hb6, ?_, ?_⟩
      · rw [List.length_cons, List.length_map, nums_len, List.length_take]
        exact size_big (by omega)
      · have etk : ms.take (i + 1) = ms.take i ++ [m] := by rw [List.take_add_one, hm]; rfl
        have hhb : H hb = none := hfresh
        refine ⟨_, rfl, fun b' o e n => ?_, ?_, ⟨dx6, ?_⟩, ?_⟩
        · rw [upd_ne (fun z => by rw [z, hhb] at e; cases e)]
          exact (sb.trans (sbA.trans sb6)) _ _ e n
        · rw [upd_ne (Ne.symm nhbt)]; exact ete6
        · rw [upd_ne (Ne.symm npb), hp6, etk, nums_snoc]
        · rw [upd_same, etk, nums_snoc]
          simp only [List.map_append, List.cons_append]
          rfl
    · rintro σ H' ⟨v4, rfl, sb, ete, ⟨dx1, hp4⟩, hb4⟩
      rw [List.length_map, List.take_length] at hp4 hb4
      refine ⟨_, rfl, hb, _, rfl, .inl ⟨SqL.of hb4, fun r nr => ?_⟩⟩
      have t5 := same_upd (o := .tup (V.str (wordOf ws (twS b wb sc).2) :: (numsS b ms (twS b wb sc).1).2.map vN)) nr
      refine q _ r (sb.trans (SB.of t5)) ?_ ⟨dx1, t5 _ _ hp4⟩ upd_same
      cases e : H r with
      | none => rfl
      | some o =>
        by_cases z : r = p
        · rw [z, hp4] at nr; cases nr
        · rw [sb _ _ e z] at nr; cases nr
end
end CP
/-! HText4 -/
namespace CP
open PySem PySem.Spec PyProof.Rows L2
theorem sendS_nd : sendS.Nodup := by decide +kernel
theorem takeS_nd : takeS.Nodup := by decide +kernel
theorem sendS_ne : ("" : Str) ∉ sendS := by decide +kernel
theorem takeS_ne : ("" : Str) ∉ takeS := by decide +kernel
theorem sendS_len : ∀ x ∈ sendS, x.length ≤ 1000 := by decide +kernel
theorem takeS_len : ∀ x ∈ takeS, x.length ≤ 1000 := by decide +kernel
theorem sendN_lt : (∀ l ∈ sendN, ∀ m ∈ l, m < 256) ∧ ∀ l ∈ sendN, l.length ≤ 10 := by decide
theorem takeN_lt : (∀ l ∈ takeNs, ∀ m ∈ l, m < 256) ∧ ∀ l ∈ takeNs, l.length ≤ 10 := by decide
theorem fresh_sb {H H' : Hp} {p r : Addr} (sb : SB p H H') (hp : H' p ≠ none) (nr : H' r = none) : H r = none := by
  cases e : H r with
  | none => rfl
  | some o =>
    by_cases z : r = p
    · rw [z] at nr; exact absurd nr hp
    · rw [sb _ _ e z] at nr; cases nr
/-- a wire as its two hubs are read -/
def wsV (r : (Option Nat × List Nat) × (Option Nat × List Nat)) (H : Hp) (a : Addr) : Prop := ∃ s t, H a = some (.tup [.ref s, .ref t]) ∧ H s = some (.tup (hubV sendS r.1)) ∧ H t = some (.tup (hubV takeS r.2))
def sendV (x : Pu.Wire) : List V := .str (sendS.getD x.kind "") :: (sendNums x).map vN
def takeV (x : Pu.Wire) : List V := [.str (takeS.getD x.into ""), vN x.k]
def WireAt (H : Hp) (a : Addr) (x : Pu.Wire) : Prop := ∃ s t, H a = some (.tup [.ref s, .ref t]) ∧ H s = some (.tup (sendV x)) ∧ H t = some (.tup (takeV x))
theorem WireAt.same {H H' : Hp} {a : Addr} {x : Pu.Wire} (h : WireAt H a x) (s : Same H H') : WireAt H' a x := by
  obtain ⟨u, v, h1, h2, h3⟩ := h
  exact ⟨u, v, s _ _ h1, s _ _ h2, s _ _ h3⟩
inductive WiresIn (H : Hp) : List Addr → List Pu.Wire → Prop
  | nil : WiresIn H [] []
  | cons {a : Addr} {x : Pu.Wire} {as : List Addr} {d : List Pu.Wire} : WireAt H a x → WiresIn H as d → WiresIn H (a :: as) (x :: d)
theorem WiresIn.len {H : Hp} {as : List Addr} {d : List Pu.Wire} (h : WiresIn H as d) : as.length = d.length := by
  induction h with
  | nil => rfl
  | cons _ _ ih => simp only [List.length_cons, ih]
theorem WiresIn.same {H H' : Hp} {as : List Addr} {d : List Pu.Wire} (h : WiresIn H as d) (s : Same H H') : WiresIn H' as d := by
  induction h with
  | nil => exact .nil
  | cons e _ ih => exact .cons (e.same s) ih
theorem WiresIn.append {H : Hp} {as bs : List Addr} {d e : List Pu.Wire} (h : WiresIn H as d) (k : WiresIn H bs e) : WiresIn H (as ++ bs) (d ++ e) := by
  induction h with
  | nil => exact k
  | cons q _ ih => exact .cons q ih
theorem WiresIn.get {H : Hp} : ∀ {as : List Addr} {d : List Pu.Wire} {i : Nat} {x : Pu.Wire}, WiresIn H as d → d[i]? = some x → ∃ a, as[i]? = some a ∧ WireAt H a x
  | _, _, i, x, .nil, h => by simp at h
  | _, _, 0, x, .cons (a := a) e _, h => by
    have : _ = x := Option.some.inj h
    subst this
    exact ⟨a, rfl, e⟩
  | _, _, i + 1, x, .cons _ t, h => WiresIn.get (i := i) t h
theorem WiresIn.get' {H : Hp} : ∀ {as : List Addr} {d : List Pu.Wire} {i : Nat} {a : Addr}, WiresIn H as d → as[i]? = some a → ∃ x, d[i]? = some x ∧ WireAt H a x
  | _, _, i, x, .nil, h => by simp at h
  | _, _, 0, a, .cons (x := x) e _, h => by
    have : _ = a := Option.some.inj h
    subst this
    exact ⟨x, rfl, e⟩
  | _, _, i + 1, x, .cons _ t, h => WiresIn.get' (i := i) t h
def WiresAt (H : Hp) (p : Addr) (ws : List Pu.Wire) : Prop := ∃ as, H p = some (.lst (as.map V.ref)) ∧ WiresIn H as ws
/-- a list that changes is no tuple -/
theorem WireAt.upd {H : Hp} {a p : Addr} {x : Pu.Wire} {xs : List V} {o : HO} (h : WireAt H a x) (hp : H p = some (.lst xs)) : WireAt (L2.upd H p o) a x := by
  obtain ⟨u, v, h1, h2, h3⟩ := h
  exact ⟨u, v, by rw [upd_ne (ne_of h1 hp (fun e => by cases e))]; exact h1, by rw [upd_ne (ne_of h2 hp (fun e => by cases e))]; exact h2, by rw [upd_ne (ne_of h3 hp (fun e => by cases e))]; exact h3⟩
theorem WiresIn.upd {H : Hp} {as : List Addr} {d : List Pu.Wire} {p : Addr} {xs : List V} {o : HO} (h : WiresIn H as d) (hp : H p = some (.lst xs)) : WiresIn (L2.upd H p o) as d := by
  induction h with
  | nil => exact .nil
  | cons e _ ih => exact .cons (e.upd hp) ih
section
variable {P : Program} {w : World} {K : PySem.W.Frag} {mg : Str → Option Value} {base : Heap} {ad : Ad}
abbrev s_take_wire : Stmt := topS 38
abbrev N_take_wire : List Str := ["scan", "sender", "taker"]
theorem sc_take_wire : FnScope N_take_wire ["scan"] (defScope s_take_wire) := ⟨rfl, rfl, rfl, by decide +kernel, rfl, by decide +kernel, by decide +kernel⟩
def sp_take_wire (K : PySem.W.Frag) (ad : Ad) : Sp := fun vs H Q _ => ∃ (p la : Addr) (s : Sc) (b : Pu.Bytes), vs = [.ref p] ∧ ScanAt ad H p la s ∧ SqL K H la (b.map vB) ∧ s.at_ ≤ b.length ∧
  ∀ (H' : Hp) (r : Addr), SB p H H' → H r = none → ScanAt ad H' p la (wireS b s).1 → wsV (wireS b s).2 H' r → Q (.ref r) H'
theorem ok_take_wire {f : Addr} {fd : FuncData} (F : Fun K "take_wire" "take_wire" s_take_wire f fd) (T : Txt P w K mg ad) (D_LineScan_take_word : MDcl P w K mg base 2 ad.cS "take_word" ["self", "words"] (sp_take_word K ad)) (D_take_hub : Dcl P w K mg base 4 "take_hub" ["scan", "hubs"] (sp_take_hub K ad)) : FnOk P w K mg base CX0 5 f fd ["scan"] (sp_take_wire K ad) := by
  refine F.ok sc_take_wire (fun vs H Q E h => ?_) (fun cdv A outer s H vs Q E hr h => ?_)
  · obtain ⟨p, la, s, b, rfl, _⟩ := h; rfl
  · obtain ⟨p, la, sc, b, rfl, ⟨dx, hp⟩, hla, hat, q⟩ := h
    obtain ⟨ts1, l1, kd1, kt1⟩ := T.d_SE
    obtain ⟨ts2, l2, kd2, kt2⟩ := T.d_TA
    refine ⟨_, (pss_cons (ps_set (i := 1) sc_take_wire.nd rfl (Or.inl rfl) (pe_call D_take_hub.ok (hr.mono (by decide)) (by rfl) D_take_hub.g D_take_hub.kp D_take_hub.b .nil pass0 (pa_cons (pv 0) (pa_cons (pe_callTy call_dictK (by rfl) T.b_dict (by decide +kernel) (pa_cons (pe_gref (by rfl) T.g_SENDERS) pa_nil)) pa_nil))))
      (pss_cons (ps_expr (pe_meth (pv 0) T.cl_LineScan D_LineScan_take_word.m D_LineScan_take_word.ok (hr.mono (by decide)) D_LineScan_take_word.b .nil pass0 (pa_cons (pe_lst (pa_cons pe_str pa_nil)) pa_nil)))
      (pss_cons (ps_set (i := 2) sc_take_wire.nd rfl (Or.inl rfl) (pe_call D_take_hub.ok (hr.mono (by decide)) (by rfl) D_take_hub.g D_take_hub.kp D_take_hub.b .nil pass0 (pa_cons (pv 0) (pa_cons (pe_callTy call_dictK (by rfl) T.b_dict (by decide +kernel) (pa_cons (pe_gref (by rfl) T.g_TAKERS) pa_nil)) pa_nil))))
      (pss_cons (ps_expr (pe_meth (pv 0) T.cl_LineScan D_LineScan_take_word.m D_LineScan_take_word.ok (hr.mono (by decide)) D_LineScan_take_word.b .nil pass0 (pa_cons (pe_lst (pa_cons pe_str pa_nil)) pa_nil)))
      (pss_one (ps_ret (pe_tup (pa_cons (pv 1) (pa_cons (pv 2) pa_nil))))))))), ?_⟩
    refine ⟨_, rfl, ad.se, _, rfl, kd1, fun h1 n1 => ?_⟩
    have t1 := same_upd (o := .dK (hubKvs sendS ts1)) n1
    refine ⟨p, la, h1, sc, b, sendS, sendW, sendN, ts1, rfl, ⟨dx, t1 _ _ hp⟩, t1.seq hla, hat, upd_same, l1, kt1, isb_send, sendS_nd, sendS_ne, sendS_len, sendN_lt.1, sendN_lt.2, fun H1 a1 sb1 na1 sa1 ea1 => ?_⟩
    have sbA : SB p H H1 := (SB.of t1).trans sb1
    obtain ⟨dx1, hp1⟩ := sa1
    have hat1 : (hubS b sendW sendN sc).1.at_ ≤ b.length := hub_le hat
    have hla1 : SqL K H1 la (b.map vB) := sbA.seq' hp hla
    refine ⟨_, rfl, p, dx1, _, rfl, hp1, sc_no_tw la _, (by show 1 ≤ sizeLine; decide), fun r1 nr1 => ?_⟩
    have t2 := same_upd (o := .lst [V.str " > "]) nr1
    refine ⟨p, la, r1, _, b, [" > "], [arrow], rfl, ⟨dx1, t2 _ _ hp1⟩, t2.seq hla1, SqL.of upd_same, isb_arrow, (fun x hx => by rw [show x = (" > " : Str) by simpa using hx]; decide +kernel), hat1, fun H2 sb2 sa2 => ?_⟩
    obtain ⟨dx2, hp2⟩ := sa2
    have sbB : SB p H1 H2 := (SB.of t2).trans sb2
    have na1p : a1 ≠ p := ne_of ea1 hp1 (fun e => by cases e)
    have ea2 := sbB _ _ ea1 na1p
    have hat2 := tw_le (ws := [arrow]) hat1
    have hla2 : SqL K H2 la (b.map vB) := (sbA.trans sbB).seq' hp hla
    refine ⟨_, rfl, ad.ta, _, rfl, kd2, fun h2 n2 => ?_⟩
    have t3 := same_upd (o := .dK (hubKvs takeS ts2)) n2
    refine ⟨p, la, h2, _, b, takeS, takeW, takeNs, ts2, rfl, ⟨dx2, t3 _ _ hp2⟩, t3.seq hla2, hat2, upd_same, l2, kt2, isb_take, takeS_nd, takeS_ne, takeS_len, takeN_lt.1, takeN_lt.2, fun H3 a3 sb3 na3 sa3 ea3 => ?_⟩
    obtain ⟨dx3, hp3⟩ := sa3
    have sbC : SB p H2 H3 := (SB.of t3).trans sb3
    have hat3 : (hubS b takeW takeNs (twS b [arrow] (hubS b sendW sendN sc).1).1).1.at_ ≤ b.length := hub_le hat2
    have ea2' := sbC _ _ ea2 na1p
    have hla3 : SqL K H3 la (b.map vB) := (sbA.trans (sbB.trans sbC)).seq' hp hla
    have na3p : a3 ≠ p := ne_of ea3 hp3 (fun e => by cases e)
    refine ⟨_, rfl, p, dx3, _, rfl, hp3, sc_no_tw la _, (by show 1 ≤ sizeLine; decide), fun r2 nr2 => ?_⟩
    have t4 := same_upd (o := .lst [V.str "\n"]) nr2
    refine ⟨p, la, r2, _, b, ["\n"], [[10]], rfl, ⟨dx3, t4 _ _ hp3⟩, t4.seq hla3, SqL.of upd_same, isb_nl, (fun x hx => by rw [show x = ("\n" : Str) by simpa using hx]; decide +kernel), hat3, fun H4 sb4 sa4 => ?_⟩
    obtain ⟨dx4, hp4⟩ := sa4
    have sbD : SB p H3 H4 := (SB.of t4).trans sb4
    refine ⟨_, rfl, _, rfl, (by show 2 ≤ sizeLine; decide), fun r nr => ?_⟩
    have t5 := same_upd (o := .tup [V.ref a1, V.ref a3]) nr
    have sbE : SB p H H4 := sbA.trans (sbB.trans (sbC.trans sbD))
    refine q _ r (sbE.trans (SB.of t5)) (fresh_sb sbE (by rw [hp4]; exact fun z => by cases z) nr) ⟨dx4, t5 _ _ hp4⟩ ⟨a1, a3, upd_same, t5 _ _ (sbD _ _ ea2' na1p), t5 _ _ (sbD _ _ ea3 na3p)⟩
abbrev s_text_fault : Stmt := topS 39
abbrev N_text_fault : List Str := ["text", "place", "line", "scan"]
theorem sc_text_fault : FnScope N_text_fault ["text"] (defScope s_text_fault) := ⟨rfl, rfl, rfl, by decide +kernel, rfl, by decide +kernel, by decide +kernel⟩
def faultV : Option (Nat × Nat) → List V
  | none => []
  | some (i, k) => [.int (if 256 ≤ i then 2 else 1), .int (i : Int), .int (k : Int)]
def sp_text_fault (K : PySem.W.Frag) : Sp := fun vs H Q _ => ∃ (a : Addr) (b : Pu.Bytes), vs = [.ref a] ∧ SqL K H a (b.map vB) ∧ b.length ≤ 100000 ∧ NewL H Q (faultV (Pu.textFault Pu.wireForms Pu.WIRES b))
theorem ok_text_fault {f : Addr} {fd : FuncData} (F : Fun K "text_fault" "text_fault" s_text_fault f fd) (T : Txt P w K mg ad) (D_lines_of : Dcl P w K mg base 1 "lines_of" ["text"] (sp_lines_of K)) (D_take_wire : Dcl P w K mg base 5 "take_wire" ["scan"] (sp_take_wire K ad)) (D_LineScan : CDcl P w K mg base 1 ad.cS "LineScan" ["self", "line"] (sp_scan_init ad)) : FnOk P w K mg base CX0 6 f fd ["text"] (sp_text_fault K) := by
  refine F.ok sc_text_fault (fun vs H Q E h => ?_) (fun cdv A outer s H vs Q E hr h => ?_)
  · obtain ⟨a, b, rfl, _⟩ := h; rfl
  · obtain ⟨a, b, rfl, ha, hl, q⟩ := h
    refine ⟨_, (pss_cons (ps_for PassesOwn.never rfl (pi_enum (by rfl) T.b_enumerate (pa_cons (pe_call D_lines_of.ok (hr.mono (by decide)) (by rfl) D_lines_of.g D_lines_of.kp D_lines_of.b .nil pass0 (pa_cons (pv 0) pa_nil)) pa_nil)) (pg_tup rfl (pgs_cons (pg_name (i := 1) sc_text_fault.nd rfl (Or.inl rfl)) (pgs_cons (pg_name (i := 2) sc_text_fault.nd rfl (Or.inl rfl)) pgs_nil)))
      (pss_cons (ps_if (pt_cmpR op_eq (pv 1) (pe_gint (by rfl) T.g_MOST_WIRES) (nomark _))
      (pss_one (ps_ret (pe_lst (pa_cons pe_int (pa_cons (pv 1) (pa_cons pe_int pa_nil))))))
      pss_nil)
      (pss_cons (ps_set (i := 3) sc_text_fault.nd rfl (Or.inl rfl) (pe_make D_LineScan.make D_LineScan.ok (hr.mono (by decide)) (by rfl) D_LineScan.g D_LineScan.b .nil pass0 (pa_cons (pv 2) pa_nil)))
      (pss_cons (ps_expr (pe_call D_take_wire.ok (hr.mono (by decide)) (by rfl) D_take_wire.g D_take_wire.kp D_take_wire.b .nil pass0 (pa_cons (pv 3) pa_nil)))
      (pss_one (ps_if (pt_not (pt_val (pe_fld (pv 3) rfl)))
      (pss_one (ps_ret (pe_lst (pa_cons pe_int (pa_cons (pv 1) (pa_cons (pe_fld (pv 3) rfl) pa_nil))))))
      pss_nil))))))
      (pss_one (ps_ret (pe_lst pa_nil)))), ?_⟩
    refine ⟨_, rfl, a, b, rfl, ha, hl, fun H1 p s1 np ⟨as, ep, cs⟩ => ?_⟩
    have lenp : as.length = (Pu.pieces b).length := by rw [cs.len, List.length_map]
    refine ⟨p, _, rfl, SqL.of ep, ?_⟩
    refine for_enum (K := K) (a := p) (xs := as.map V.ref) (fun i σ H' => ∃ v1 v2 v3, σ = [some (.ref a), v1, v2, v3] ∧ Same H1 H' ∧ i ≤ 256 ∧ ∀ j l, j < i → (Pu.pieces b)[j]? = some l → lineOk l = true) ⟨none, none, none, rfl, Same.refl H1, by omega, fun j l hj => by omega⟩ ?_ ?_ ?_
    · rintro i σ H' _ ⟨v1, v2, v3, rfl, sm, _⟩
      exact SqL.of (sm _ _ ep)
    · rintro i y σ H' T0 hy ⟨v1, v2, v3, rfl, sm, hi6, hok⟩ nT
      have hi : i < (Pu.pieces b).length := by
        apply Classical.byContradiction; intro z
        rw [List.getElem?_eq_none (by rw [List.length_map]; omega)] at hy; cases hy
      have hln : (Pu.pieces b)[i]? = some (Pu.pieces b)[i] := List.getElem?_eq_getElem hi
      have hln2 : ((Pu.pieces b).map bN)[i]? = some (bN (Pu.pieces b)[i]) := by rw [List.getElem?_map, hln]; rfl
      obtain ⟨l, e1, e2⟩ := cs.get hln2
      rw [List.getElem?_map, e1] at hy
      have ey : y = .ref l := (Option.some.inj hy).symm
      subst ey
      generalize (Pu.pieces b)[i] = ln at *
      have sT := same_upd (o := .tup [V.int (i : Nat), V.ref l]) nT
      have sm2 := sm.trans sT
      refine ⟨T0, [_, _], rfl, .inl (.inl upd_same), rfl, _, [_], rfl, _, [], rfl, rfl, ?_⟩
      refine ⟨_, rfl, rfl, _, rfl, ?_⟩
      by_cases c1 : i = 256
      · refine ift (decide_eq_true (by rw [c1]; rfl)) ?_
        refine ⟨_, rfl, (by show 3 ≤ sizeLine; decide), fun r nr => ?_⟩
        rw [textFault_some hln hi6 hok (Or.inl c1)] at q
        have t := same_upd (o := .lst [V.int 2, V.int (i : Nat), V.int 0]) nr
        refine q _ r (s1.trans (sm2.trans t)) (s1.free (sm2.free nr)) ?_
        rw [upd_same, faultV, if_pos (by omega), if_pos (by omega)]; rfl
      · refine iff_ (decide_eq_false (fun z => c1 (by have := V.int.inj z; omega))) ?_
        refine ⟨_, rfl, ?_⟩
        intro x dx nx ndx nex
        refine ⟨x, l, dx, rfl, upd_same, fun H3 sa3 sb3 => ⟨rfl, ?_⟩⟩
        have s3 : Same (upd H' T0 (.tup [V.int (i : Nat), V.ref l])) H3 := Same.made nx ndx sb3
        have hl3 : SqL K H3 l (ln.map vB) := by
          refine SqL.of ?_
          rw [← bN_vN]
          exact s3 _ _ (sm2 _ _ e2)
        refine ⟨_, rfl, x, l, ⟨0, true⟩, ln, rfl, sa3, hl3, Nat.zero_le _, fun H4 r4 sb4 nr4 sa4 ws4 => ?_⟩
        have s4 : Same (upd H' T0 (.tup [V.int (i : Nat), V.ref l])) H4 := fun c o e => sb4 _ _ (s3 _ _ e) (ne_of_none e nx)
        obtain ⟨dx4, hp4⟩ := sa4
        refine ⟨_, rfl, x, ad.cS, dx4, _, _, rfl, hp4, T.cl_LineScan, T.n_right, scF_right l _, _, rfl, ?_⟩
        cases hr0 : (wireS ln ⟨0, true⟩).1.right with
        | false =>
          refine ift rfl ?_
          refine ⟨_, rfl, _, rfl, x, ad.cS, dx4, _, _, rfl, hp4, T.cl_LineScan, T.n_at, scF_at l _, (by show 3 ≤ sizeLine; decide), fun r nr => ?_⟩
          rw [textFault_some hln hi6 hok (Or.inr hr0)] at q
          have t := same_upd (o := .lst [V.int 1, V.int (i : Nat), V.int ((wireS ln ⟨0, true⟩).1.at_ : Nat)]) nr
          refine q _ r (s1.trans (sm2.trans (s4.trans t))) (s1.free (sm2.free (s4.free nr))) ?_
          rw [upd_same, faultV, if_neg (by omega), if_neg (by omega)]
        | true =>
          refine iff_ rfl ?_
          refine ⟨_, _, _, rfl, sm2.trans s4, by omega, fun j l' hj hl' => ?_⟩
          by_cases z : j = i
          · subst z
            rw [hln] at hl'
            rw [← Option.some.inj hl']
            exact hr0
          · exact hok j l' (by omega) hl'
    · rintro σ H' ⟨v1, v2, v3, rfl, sm, hi6, hok⟩
      rw [List.length_map, lenp] at hi6 hok
      refine ⟨Nat.zero_le _, fun r nr => ?_⟩
      rw [textFault_none hi6 (fun l hl => by
        obtain ⟨j, hj, rfl⟩ := List.mem_iff_getElem.mp hl
        exact hok j _ hj (List.getElem?_eq_getElem hj))] at q
      exact q _ r (s1.trans (sm.trans (same_upd nr))) (s1.free (sm.free nr)) upd_same
abbrev s_wires_of : Stmt := topS 40
abbrev N_wires_of : List Str := ["text", "line"]
theorem sc_wires_of : FnScope N_wires_of ["text"] (defScope s_wires_of) := ⟨rfl, rfl, rfl, by decide +kernel, rfl, by decide +kernel, by decide +kernel⟩
def sp_wires_of (K : PySem.W.Frag) : Sp := fun vs H Q _ => ∃ (a : Addr) (b : Pu.Bytes), vs = [.ref a] ∧ SqL K H a (b.map vB) ∧ b.length ≤ 100000 ∧ (∀ l ∈ Pu.pieces b, lineOk l = true) ∧
  ∀ (H' : Hp) (p : Addr), Same H H' → H p = none → WiresAt H' p ((Pu.pieces b).map Pu.wireOf) → Q (.ref p) H'
theorem pieces_len : ∀ b : Pu.Bytes, (Pu.pieces b).length ≤ b.length
  | [] => Nat.le_refl _
  | c :: r => by
    have := pieces_len r
    rw [Pu.pieces]
    split
    · simp only [List.length_cons]; omega
    · cases e : Pu.pieces r with
      | nil => simp
      | cons p l => rw [e] at this; simp only [List.length_cons] at this ⊢; omega
theorem wsV_wire {H : Hp} {a : Addr} {ln : Pu.Bytes} (hp : Piece ln) (hr : lineOk ln = true) (h : wsV (wireS ln ⟨0, true⟩).2 H a) : WireAt H a (Pu.wireOf ln) := by
  obtain ⟨_, e1, e2⟩ := (line_right hp).2.2 hr
  obtain ⟨s, t, h1, h2, h3⟩ := h
  rw [e1] at h2
  rw [e2] at h3
  exact ⟨s, t, h1, h2, h3⟩
theorem ok_wires_of {f : Addr} {fd : FuncData} (F : Fun K "wires_of" "wires_of" s_wires_of f fd) (T : Txt P w K mg ad) (D_lines_of : Dcl P w K mg base 1 "lines_of" ["text"] (sp_lines_of K)) (D_take_wire : Dcl P w K mg base 5 "take_wire" ["scan"] (sp_take_wire K ad)) (D_LineScan : CDcl P w K mg base 1 ad.cS "LineScan" ["self", "line"] (sp_scan_init ad)) : FnOk P w K mg base CX0 6 f fd ["text"] (sp_wires_of K) := by
  refine F.ok sc_wires_of (fun vs H Q E h => ?_) (fun cdv A outer s H vs Q E hr h => ?_)
  · obtain ⟨a, b, rfl, _⟩ := h; rfl
  · obtain ⟨a, b, rfl, ha, hl, hok, q⟩ := h
    refine ⟨_, (pss_one (ps_ret (pe_lc (own := [("line", 1)]) (g := gName 1) (tt := tYes) (te := tCall (sp_take_wire K ad) [] E0 (tCons (tMake ad.cS (sp_scan_init ad) [] E0 (tCons (tVar 1) tNil)) tNil)) (by rfl) sc_wires_of.nd (pi_list (pe_call D_lines_of.ok (hr.mono (by decide)) (by rfl) D_lines_of.g D_lines_of.kp D_lines_of.b .nil pass0 (pa_cons (pv 0) pa_nil))) (blkOk_by (own := [("line", 1)]) (N := N_wires_of) (sc := defScope s_wires_of) (by decide +kernel)) (fun _ _ _ _ _ => pg_name (i := 1) sc_wires_of.nd rfl (Or.inl rfl)) (fun _ _ _ _ _ => pts_nil) (fun _ _ _ _ _ => (pe_call D_take_wire.ok (hr.mono (by decide)) (by rfl) D_take_wire.g D_take_wire.kp D_take_wire.b .nil pass0 (pa_cons (pe_make D_LineScan.make D_LineScan.ok (hr.mono (by decide)) (by rfl) D_LineScan.g D_LineScan.b .nil pass0 (pa_cons (pv 1) pa_nil)) pa_nil)))))), ?_⟩
    refine ⟨_, rfl, a, b, rfl, ha, hl, fun H1 p s1 np ⟨as, ep, cs⟩ => ?_⟩
    have lenp : as.length = (Pu.pieces b).length := by rw [cs.len, List.length_map]
    have plen := pieces_len b
    refine ⟨p, rfl, ⟨_, SqL.of ep⟩, fun D nD => ?_⟩
    refine lc_list (K := K) (a := p) (xs := as.map V.ref) (fun i H' => Same H1 H' ∧ WiresAt H' D (((Pu.pieces b).take i).map Pu.wireOf)) ⟨same_upd nD, [], upd_same, .nil⟩ ?_ ?_ ?_
    · rintro i H' _ ⟨sm, _⟩
      exact SqL.of (sm _ _ ep)
    · rintro i y H' hy ⟨sm, ws, eD, wi⟩
      have hi : i < (Pu.pieces b).length := by
        apply Classical.byContradiction; intro z
        rw [List.getElem?_eq_none (by rw [List.length_map]; omega)] at hy; cases hy
      have hln : (Pu.pieces b)[i]? = some (Pu.pieces b)[i] := List.getElem?_eq_getElem hi
      have hln2 : ((Pu.pieces b).map bN)[i]? = some (bN (Pu.pieces b)[i]) := by rw [List.getElem?_map, hln]; rfl
      obtain ⟨l, e1, e2⟩ := cs.get hln2
      rw [List.getElem?_map, e1] at hy
      have ey : y = .ref l := (Option.some.inj hy).symm
      subst ey
      have hmem := List.getElem_mem hi
      have etk : ((Pu.pieces b).take (i + 1)).map Pu.wireOf = ((Pu.pieces b).take i).map Pu.wireOf ++ [Pu.wireOf (Pu.pieces b)[i]] := by rw [List.take_add_one, hln, List.map_append]; rfl
      generalize (Pu.pieces b)[i] = ln at *
      refine ⟨rfl, ?_⟩
      refine ⟨_, rfl, ?_⟩
      intro x dx nx ndx nex
      refine ⟨x, l, dx, rfl, upd_same, fun H3 sa3 sb3 => ⟨rfl, ?_⟩⟩
      have s3 : Same H' H3 := Same.made nx ndx sb3
      have hl3 : SqL K H3 l (ln.map vB) := by
        refine SqL.of ?_
        rw [← bN_vN]
        exact s3 _ _ (sm _ _ e2)
      refine ⟨x, l, ⟨0, true⟩, ln, rfl, sa3, hl3, Nat.zero_le _, fun H4 r4 sb4 nr4 sa4 ws4 => ?_⟩
      have s4 : Same H' H4 := fun c o e => sb4 _ _ (s3 _ _ e) (ne_of_none e nx)
      have eD4 := s4 _ _ eD
      refine ⟨_, eD4, ?_, Same.mut (sm.trans s4) nD, ws ++ [r4], by rw [upd_same, List.map_append]; rfl, ?_⟩
      · rw [List.length_map, wi.len, List.length_map, List.length_take]
        exact size_big (by omega)
      · rw [etk]
        exact ((wi.same s4).upd eD4).append (.cons ((wsV_wire (pieces_piece b ln hmem).1 (hok ln hmem) ws4).upd eD4) .nil)
    · rintro H' ⟨sm, hd⟩
      rw [List.length_map, lenp, List.take_length] at hd
      exact q H' D (s1.trans sm) (s1.free nD) hd
end
end CP
/-! HPan1 -/
namespace CP
open PySem PySem.Spec PyProof.Rows L2
/-- a box as a tuple -/
def boxS : List Str := ["", "split", "look", "chosen", "both"]
def boxV (b : Pu.Box) : List V := [.str (boxS.getD b.1 ""), .int (b.2 : Int)]
def kBox (b : Pu.Box) : List L2.Key := [Sum.inr (boxS.getD b.1 ""), Sum.inl (b.2 : Int)]
theorem kBox_kV (b : Pu.Box) : (kBox b).map kV = boxV b := rfl
theorem at_zero {x : V} {xs : List V} : atI (x :: xs) 0 = some x := at_of (j := 0) rfl rfl
theorem at_one {x y : V} {xs : List V} : atI (x :: y :: xs) 1 = some y := at_of (j := 1) rfl rfl
theorem at_two {x y z : V} {xs : List V} : atI (x :: y :: z :: xs) 2 = some z := at_of (j := 2) rfl rfl
def bsTab (k : Nat) : Bool := (List.range 8).all fun k => decide (valV bsKvs (Sum.inr (sendS.getD k "")) = match (Pu.Wire.outOf ⟨k, 0, 0, 0, 0⟩) with | none => none | some b => some (.str (boxS.getD b.1 "")))
theorem bs_tab {k : Nat} (h : k < 8) (n m i j : Nat) : valV bsKvs (Sum.inr (sendS.getD k "")) = (Pu.Wire.outOf ⟨k, n, m, i, j⟩).map fun b => .str (boxS.getD b.1 "") := by
  match k, h with
  | 0, _ => rfl
  | 1, _ => rfl
  | 2, _ => rfl
  | 3, _ => rfl
  | 4, _ => rfl
  | 5, _ => rfl
  | 6, _ => rfl
  | 7, _ => rfl
theorem bt_tab {i : Nat} (h : i < 8) (k n m j : Nat) : valV btKvs (Sum.inr (takeS.getD i "")) = (Pu.Wire.inTo ⟨k, n, m, i, j⟩).map fun b => .str (boxS.getD b.1 "") := by
  match i, h with
  | 0, _ => rfl
  | 1, _ => rfl
  | 2, _ => rfl
  | 3, _ => rfl
  | 4, _ => rfl
  | 5, _ => rfl
  | 6, _ => rfl
  | 7, _ => rfl
theorem out_n {x : Pu.Wire} {b : Pu.Box} (h : x.outOf = some b) : b.2 = x.n := by
  unfold Pu.Wire.outOf at h
  repeat' split at h
  all_goals first | (cases h; rfl) | cases h
theorem in_k {x : Pu.Wire} {b : Pu.Box} (h : x.inTo = some b) : b.2 = x.k := by
  unfold Pu.Wire.inTo at h
  repeat' split at h
  all_goals first | (cases h; rfl) | cases h
theorem sendV_two (x : Pu.Wire) : ∃ r, sendV x = .str (sendS.getD x.kind "") :: .int (x.n : Int) :: r := by
  unfold sendV sendNums
  split
  · exact ⟨_, rfl⟩
  · exact ⟨_, rfl⟩
section
variable {P : Program} {w : World} {K : PySem.W.Frag} {mg : Str → Option Value} {base : Heap} {ad : Ad}
abbrev s_sending_box : Stmt := topS 48
abbrev N_sending_box : List Str := ["wire", "sender"]
theorem sc_sending_box : FnScope N_sending_box ["wire"] (defScope s_sending_box) := ⟨rfl, rfl, rfl, by decide +kernel, rfl, by decide +kernel, by decide +kernel⟩
def NewT (H : Hp) (Q : VK) (xs : List V) : Prop := ∀ (H' : Hp) (p : Addr), Same H H' → H p = none → H' p = some (.tup xs) → Q (.ref p) H'
def sp_box (g : Pu.Wire → Option Pu.Box) : Sp := fun vs H Q _ => ∃ (a : Addr) (x : Pu.Wire), vs = [.ref a] ∧ WireAt H a x ∧ x.ok = true ∧ (g x = none → Q .non H) ∧ ∀ b, g x = some b → NewT H Q (boxV b)
theorem ok_sending_box {f : Addr} {fd : FuncData} (F : Fun K "sending_box" "sending_box" s_sending_box f fd) (T : Txt P w K mg ad) : FnOk P w K mg base CX0 1 f fd ["wire"] (sp_box Pu.Wire.outOf) := by
  refine F.ok sc_sending_box (fun vs H Q E h => ?_) (fun cdv A outer s H vs Q E hr h => ?_)
  · obtain ⟨a, x, rfl, _⟩ := h; rfl
  · obtain ⟨a, x, rfl, ⟨sa, ta, h1, h2, h3⟩, ok, qn, qs⟩ := h
    refine ⟨_, (pss_cons (ps_set (i := 1) sc_sending_box.nd rfl (Or.inl rfl) (pe_ix ix_tup (pv 0) pe_int (fun _ _ => rfl)))
      (pss_cons (ps_if (pt_cmp (pc_knotin (pe_ix ix_tup (pv 1) pe_int (fun _ _ => rfl)) (pe_gref (by rfl) T.g_BOX_THAT_SENDS)))
      (pss_one (ps_ret pe_non))
      pss_nil)
      (pss_one (ps_ret (pe_tup (pa_cons (pe_kget (pe_gref (by rfl) T.g_BOX_THAT_SENDS) (pe_ix ix_tup (pv 1) pe_int (fun _ _ => rfl)) (fun _ _ => rfl)) (pa_cons (pe_ix ix_tup (pv 1) pe_int (fun _ _ => rfl)) pa_nil))))))), ?_⟩
    obtain ⟨r, er⟩ := sendV_two x
    rw [er] at h2
    have tab := bs_tab (k := x.kind) (by have := (okw ok).1; omega) x.n x.m x.into x.k
    refine ⟨_, rfl, a, _, _, _, rfl, rfl, SqT.of h1, at_zero, ?_⟩
    refine ⟨_, rfl, sa, _, _, _, rfl, rfl, SqT.of h2, at_zero, ad.bs, bsKvs, Sum.inr _, rfl, T.d_BS, rfl, _, rfl, ?_⟩
    cases e : x.outOf with
    | none =>
      have ev : valV bsKvs (Sum.inr (sendS.getD x.kind "")) = none := by rw [tab]; exact congrArg (Option.map _) e
      rw [ev]
      exact ift rfl (qn e)
    | some b =>
      have ev : valV bsKvs (Sum.inr (sendS.getD x.kind "")) = some (.str (boxS.getD b.1 "")) := by rw [tab]; exact congrArg (Option.map _) e
      rw [ev]
      refine iff_ rfl ?_
      refine ⟨_, rfl, sa, _, _, _, rfl, rfl, SqT.of h2, at_zero, ad.bs, bsKvs, Sum.inr _, _, rfl, T.d_BS, rfl, ev, _, rfl, sa, _, _, _, rfl, rfl, SqT.of h2, at_one, (by show 2 ≤ sizeLine; decide), fun p np => ?_⟩
      refine qs b e _ p (same_upd np) np ?_
      rw [upd_same, boxV, out_n e]
abbrev s_taking_box : Stmt := topS 49
abbrev N_taking_box : List Str := ["wire", "taker"]
theorem sc_taking_box : FnScope N_taking_box ["wire"] (defScope s_taking_box) := ⟨rfl, rfl, rfl, by decide +kernel, rfl, by decide +kernel, by decide +kernel⟩
theorem ok_taking_box {f : Addr} {fd : FuncData} (F : Fun K "taking_box" "taking_box" s_taking_box f fd) (T : Txt P w K mg ad) : FnOk P w K mg base CX0 1 f fd ["wire"] (sp_box Pu.Wire.inTo) := by
  refine F.ok sc_taking_box (fun vs H Q E h => ?_) (fun cdv A outer s H vs Q E hr h => ?_)
  · obtain ⟨a, x, rfl, _⟩ := h; rfl
  · obtain ⟨a, x, rfl, ⟨sa, ta, h1, h2, h3⟩, ok, qn, qs⟩ := h
    refine ⟨_, (pss_cons (ps_set (i := 1) sc_taking_box.nd rfl (Or.inl rfl) (pe_ix ix_tup (pv 0) pe_int (fun _ _ => rfl)))
      (pss_cons (ps_if (pt_cmp (pc_knotin (pe_ix ix_tup (pv 1) pe_int (fun _ _ => rfl)) (pe_gref (by rfl) T.g_BOX_THAT_TAKES)))
      (pss_one (ps_ret pe_non))
      pss_nil)
      (pss_one (ps_ret (pe_tup (pa_cons (pe_kget (pe_gref (by rfl) T.g_BOX_THAT_TAKES) (pe_ix ix_tup (pv 1) pe_int (fun _ _ => rfl)) (fun _ _ => rfl)) (pa_cons (pe_ix ix_tup (pv 1) pe_int (fun _ _ => rfl)) pa_nil))))))), ?_⟩
    have h3' : H ta = some (.tup [.str (takeS.getD x.into ""), .int (x.k : Int)]) := h3
    have tab := bt_tab (i := x.into) (by have := (okw ok).2.2.2.1; omega) x.kind x.n x.m x.k
    refine ⟨_, rfl, a, _, _, _, rfl, rfl, SqT.of h1, at_one, ?_⟩
    refine ⟨_, rfl, ta, _, _, _, rfl, rfl, SqT.of h3', at_zero, ad.bt, btKvs, Sum.inr _, rfl, T.d_BT, rfl, _, rfl, ?_⟩
    cases e : x.inTo with
    | none =>
      have ev : valV btKvs (Sum.inr (takeS.getD x.into "")) = none := by rw [tab]; exact congrArg (Option.map _) e
      rw [ev]
      exact ift rfl (qn e)
    | some b =>
      have ev : valV btKvs (Sum.inr (takeS.getD x.into "")) = some (.str (boxS.getD b.1 "")) := by rw [tab]; exact congrArg (Option.map _) e
      rw [ev]
      refine iff_ rfl ?_
      refine ⟨_, rfl, ta, _, _, _, rfl, rfl, SqT.of h3', at_zero, ad.bt, btKvs, Sum.inr _, _, rfl, T.d_BT, rfl, ev, _, rfl, ta, _, _, _, rfl, rfl, SqT.of h3', at_one, (by show 2 ≤ sizeLine; decide), fun p np => ?_⟩
      refine qs b e _ p (same_upd np) np ?_
      rw [upd_same, boxV, in_k e]
abbrev s_joins_boxes : Stmt := topS 50
abbrev N_joins_boxes : List Str := ["wire"]
theorem sc_joins_boxes : FnScope N_joins_boxes ["wire"] (defScope s_joins_boxes) := ⟨rfl, rfl, rfl, by decide +kernel, rfl, by decide +kernel, by decide +kernel⟩
def sp_joins_boxes : Sp := fun vs H Q _ => ∃ (a : Addr) (x : Pu.Wire), vs = [.ref a] ∧ WireAt H a x ∧ x.ok = true ∧ ∀ H', Same H H' → Q (.bl (x.outOf.isSome && x.inTo.isSome)) H'
theorem ok_joins_boxes {f : Addr} {fd : FuncData} (F : Fun K "joins_boxes" "joins_boxes" s_joins_boxes f fd) (D_sending_box : Dcl P w K mg base 1 "sending_box" ["wire"] (sp_box Pu.Wire.outOf)) (D_taking_box : Dcl P w K mg base 1 "taking_box" ["wire"] (sp_box Pu.Wire.inTo)) : FnOk P w K mg base CX0 2 f fd ["wire"] sp_joins_boxes := by
  refine F.ok sc_joins_boxes (fun vs H Q E h => ?_) (fun cdv A outer s H vs Q E hr h => ?_)
  · obtain ⟨a, x, rfl, _⟩ := h; rfl
  · obtain ⟨a, x, rfl, hw, ok, q⟩ := h
    refine ⟨_, (pss_one (ps_ret (pe_and (pe_cmpR op_notN (pe_call D_sending_box.ok (hr.mono (by decide)) (by rfl) D_sending_box.g D_sending_box.kp D_sending_box.b .nil pass0 (pa_cons (pv 0) pa_nil)) pe_non (nomark _)) (pe_one (pe_cmpR op_notN (pe_call D_taking_box.ok (hr.mono (by decide)) (by rfl) D_taking_box.g D_taking_box.kp D_taking_box.b .nil pass0 (pa_cons (pv 0) pa_nil)) pe_non (nomark _)))))), ?_⟩
    refine ⟨_, rfl, a, x, rfl, hw, ok, fun e => ?_, fun b e H1 p s1 np hp => ?_⟩
    · refine ⟨rfl, _, rfl, iff_ rfl ?_⟩
      exact qbl (q H (Same.refl H)) (by rw [e]; rfl)
    · refine ⟨rfl, _, rfl, ift rfl ?_⟩
      refine ⟨_, rfl, a, x, rfl, hw.same s1, ok, fun e2 => ?_, fun b2 e2 H2 p2 s2 np2 hp2 => ?_⟩
      · exact ⟨rfl, qbl (q H1 s1) (by rw [e, e2]; rfl)⟩
      · exact ⟨rfl, qbl (q H2 (s1.trans s2)) (by rw [e, e2]; rfl)⟩
end
end CP
/-! HPan2 -/
namespace CP
open PySem PySem.Spec PyProof.Rows L2
def kTo (i k : Nat) : List L2.Key := [Sum.inr (takeS.getD i ""), Sum.inl (k : Int)]
theorem takeS_inj {i j : Nat} (hi : i < 8) (hj : j < 8) (e : takeS.getD i "" = takeS.getD j "") : i = j := by
  have h1 : takeS[i]? = some (takeS.getD i "") := by
    rw [List.getD_eq_getElem?_getD, List.getElem?_eq_getElem (show i < takeS.length from hi)]; rfl
  have h2 : takeS[j]? = some (takeS.getD j "") := by
    rw [List.getD_eq_getElem?_getD, List.getElem?_eq_getElem (show j < takeS.length from hj)]; rfl
  rw [← e] at h2
  exact nd_ix takeS_nd h1 h2
theorem kTo_inj {i k j l : Nat} (hi : i < 8) (hj : j < 8) (e : kTo i k = kTo j l) : i = j ∧ k = l := by
  have e1 := (List.cons.inj e).1
  have e2 := (List.cons.inj (List.cons.inj e).2).1
  exact ⟨takeS_inj hi hj (Sum.inr.inj e1), by have := Sum.inl.inj e2; omega⟩
/-- what goes into the hubs, in a dict -/
def GoesAt (H : Hp) (g : Addr) (t : Pu.Flow) : Prop := ∃ kvs, H g = some (.dT kvs) ∧ kvs.length ≤ 300 ∧ ∀ i k : Nat, i < 8 → (valV kvs (kTo i k)).getD (.int 0) = .int (t i k : Int)
theorem GoesAt.same {H H' : Hp} {g : Addr} {t : Pu.Flow} (h : GoesAt H g t) (s : Same H H') : GoesAt H' g t := by
  obtain ⟨kvs, e, l, q⟩ := h
  exact ⟨kvs, s _ _ e, l, q⟩
theorem dec_str {a b : Str} (h : (a == b) = false) : decide (V.str a = V.str b) = false := decide_eq_false fun e => by rw [V.str.inj e, beq_self_eq_true] at h; cases h
section
variable {P : Program} {w : World} {K : PySem.W.Frag} {mg : Str → Option Value} {base : Heap} {ad : Ad}
abbrev s_machine_sending : Stmt := topS 57
abbrev N_machine_sending : List Str := ["holes"]
theorem sc_machine_sending : FnScope N_machine_sending ["holes"] (defScope s_machine_sending) := ⟨rfl, rfl, rfl, by decide +kernel, rfl, by decide +kernel, by decide +kernel⟩
def sp_machine_sending : Sp := fun vs H Q _ => ∃ (a : Addr) (hs : List Nat), vs = [.ref a] ∧ H a = some (.lst (hs.map vN)) ∧ hs.length ≤ 256 ∧ NewL H Q ((hs ++ List.replicate (256 - hs.length) 0).map vN)
theorem rep_flat (n : Nat) : (List.replicate n [V.int 0]).flatten = (List.replicate n 0).map vN := by
  induction n with
  | zero => rfl
  | succ n ih => rw [List.replicate_succ, List.flatten_cons, ih, List.replicate_succ]; rfl
theorem ok_machine_sending {f : Addr} {fd : FuncData} (F : Fun K "machine_sending" "machine_sending" s_machine_sending f fd) (T : Txt P w K mg ad) : FnOk P w K mg base CX0 1 f fd ["holes"] sp_machine_sending := by
  refine F.ok sc_machine_sending (fun vs H Q E h => ?_) (fun cdv A outer s H vs Q E hr h => ?_)
  · obtain ⟨a, hs, rfl, _⟩ := h; rfl
  · obtain ⟨a, hs, rfl, ha, hl, q⟩ := h
    refine ⟨_, (pss_one (ps_ret (pe_op op_cat (pv 0) (pe_op op_rep (pe_lst (pa_cons pe_int pa_nil)) (pe_op op_sub (pe_gint (by rfl) T.g_PLACES) (pe_callB call_len_seq (by rfl) T.b_len PySem.boot_len (pa_cons (pv 0) pa_nil))))))), ?_⟩
    refine ⟨_, rfl, by decide, fun l nl => ?_⟩
    have t1 := same_upd (o := .lst [V.int 0]) nl
    refine ⟨_, rfl, a, _, rfl, .inl (SqL.of (t1 _ _ ha)), _, _, rfl, rfl, l, _, _, rfl, rfl, upd_same, by rw [List.length_map]; omega, by rw [List.length_map]; omega, ?_, fun p hp => ?_⟩
    · rw [List.length_map]
      show 1 * ((256 : Int) - (hs.length : Int)).toNat ≤ sizeLine
      exact Nat.le_of_lt (size_big (by omega))
    · have en : ((256 : Int) - ((hs.map vN).length : Int)).toNat = 256 - hs.length := by rw [List.length_map]; omega
      rw [en, rep_flat]
      have t2 := same_upd (o := .lst ((List.replicate (256 - hs.length) 0).map vN)) hp
      refine ⟨a, p, _, _, rfl, rfl, t2 _ _ (t1 _ _ ha), upd_same, ?_, fun r nr => ?_⟩
      · rw [List.length_map, List.length_map, List.length_replicate]
        exact Nat.le_of_lt (size_big (by omega))
      · rw [← List.map_append]
        exact q _ r ((t1.trans t2).trans (same_upd nr)) ((t1.trans t2).free nr) upd_same
abbrev s_silent_machine : Stmt := topS 58
abbrev N_silent_machine : List Str := []
theorem sc_silent_machine : FnScope N_silent_machine [] (defScope s_silent_machine) := ⟨rfl, rfl, rfl, by decide +kernel, rfl, by decide +kernel, by decide +kernel⟩
def sp_silent_machine : Sp := fun vs H Q _ => vs = [] ∧ NewL H Q ((List.replicate 256 0).map vN)
theorem ok_silent_machine {f : Addr} {fd : FuncData} (F : Fun K "silent_machine" "silent_machine" s_silent_machine f fd) (D_machine_sending : Dcl P w K mg base 1 "machine_sending" ["holes"] sp_machine_sending) : FnOk P w K mg base CX0 2 f fd [] sp_silent_machine := by
  refine F.ok sc_silent_machine (fun vs H Q E h => ?_) (fun cdv A outer s H vs Q E hr h => ?_)
  · obtain ⟨rfl, _⟩ := h; rfl
  · obtain ⟨rfl, q⟩ := h
    refine ⟨_, (pss_one (ps_ret (pe_call D_machine_sending.ok (hr.mono (by decide)) (by rfl) D_machine_sending.g D_machine_sending.kp D_machine_sending.b .nil pass0 (pa_cons (pe_lst pa_nil) pa_nil)))), ?_⟩
    refine ⟨by decide, fun l hl => ?_⟩
    refine ⟨l, [], rfl, upd_same, by decide, fun H2 p s2 n2 h2 => ?_⟩
    exact q _ p ((same_upd hl).trans s2) ((same_upd hl).free n2) h2
abbrev s_machine_gets : Stmt := topS 59
abbrev N_machine_gets : List Str := ["goes", "place"]
theorem sc_machine_gets : FnScope N_machine_gets ["goes", "place"] (defScope s_machine_gets) := ⟨rfl, rfl, rfl, by decide +kernel, rfl, by decide +kernel, by decide +kernel⟩
def sp_machine_gets : Sp := fun vs H Q _ => ∃ (g : Addr) (k : Nat) (t : Pu.Flow), vs = [.ref g, .int (k : Int)] ∧ GoesAt H g t ∧ ∀ H', Same H H' → Q (.int (t 0 k : Int)) H'
theorem ok_machine_gets {f : Addr} {fd : FuncData} (F : Fun K "machine_gets" "machine_gets" s_machine_gets f fd) : FnOk P w K mg base CX0 1 f fd ["goes", "place"] sp_machine_gets := by
  refine F.ok sc_machine_gets (fun vs H Q E h => ?_) (fun cdv A outer s H vs Q E hr h => ?_)
  · obtain ⟨g, k, t, rfl, _⟩ := h; rfl
  · obtain ⟨g, k, t, rfl, hg, q⟩ := h
    refine ⟨_, (pss_one (ps_ret (pe_dget2 (hu_of hr) (pv 0) (pe_tup (pa_cons pe_str (pa_cons (pv 1) pa_nil))) pe_int ⟨rfl, rfl, rfl, rfl⟩))), ?_⟩
    obtain ⟨kvs, eg, lk, hk⟩ := hg
    refine ⟨_, rfl, g, rfl, .inr ⟨kvs, .inl eg⟩, _, rfl, (by show 2 ≤ sizeLine; decide), fun r nr => ?_⟩
    have t1 := same_upd (o := .tup [.str "to", .int (k : Int)]) nr
    refine ⟨_, DGet.t (k := kTo 0 k) (t1 _ _ eg) upd_same, ?_⟩
    rw [hk 0 k (by decide)]
    exact q _ t1
abbrev s_sent_by_box : Stmt := topS 60
abbrev N_sent_by_box : List Str := ["sender", "goes", "name", "k"]
theorem sc_sent_by_box : FnScope N_sent_by_box ["sender", "goes"] (defScope s_sent_by_box) := ⟨rfl, rfl, rfl, by decide +kernel, rfl, by decide +kernel, by decide +kernel⟩
def sp_sent_by_box : Sp := fun vs H Q _ => ∃ (sa g : Addr) (x : Pu.Wire) (t : Pu.Flow), vs = [.ref sa, .ref g] ∧ H sa = some (.tup (sendV x)) ∧ x.ok = true ∧ 3 ≤ x.kind ∧ GoesAt H g t ∧ ∀ H', Same H H' → ∀ c frm : List Nat, Q (.int (sentP c frm t x : Int)) H'
theorem ok_sent_by_box {f : Addr} {fd : FuncData} (F : Fun K "sent_by_box" "sent_by_box" s_sent_by_box f fd) (T : Txt P w K mg ad) : FnOk P w K mg base CX0 1 f fd ["sender", "goes"] sp_sent_by_box := by
  refine F.ok sc_sent_by_box (fun vs H Q E h => ?_) (fun cdv A outer s H vs Q E hr h => ?_)
  · obtain ⟨sa, g, x, t, rfl, _⟩ := h; rfl
  · obtain ⟨sa, g, x, t, rfl, h2, ok, h3, ⟨kvs, eg, lg, hg⟩, q⟩ := h
    refine ⟨_, (pss_cons (ps_set (i := 2) sc_sent_by_box.nd rfl (Or.inl rfl) (pe_ix ix_tup (pv 0) pe_int (fun _ _ => rfl)))
      (pss_cons (ps_set (i := 3) sc_sent_by_box.nd rfl (Or.inl rfl) (pe_ix ix_tup (pv 0) pe_int (fun _ _ => rfl)))
      (pss_cons (ps_if (pt_cmpR op_eq (pv 2) pe_str (nomark _))
      (pss_one (ps_ret (pe_op op_and (pe_dget2 (hu_of hr) (pv 1) (pe_tup (pa_cons pe_str (pa_cons (pv 3) pa_nil))) pe_int ⟨rfl, rfl, rfl, rfl⟩) (pe_gint (by rfl) T.g_UPPER_ROWS))))
      pss_nil)
      (pss_cons (ps_if (pt_cmpR op_eq (pv 2) pe_str (nomark _))
      (pss_one (ps_ret (pe_op op_and (pe_dget2 (hu_of hr) (pv 1) (pe_tup (pa_cons pe_str (pa_cons (pv 3) pa_nil))) pe_int ⟨rfl, rfl, rfl, rfl⟩) (pe_gint (by rfl) T.g_LOWER_ROWS))))
      pss_nil)
      (pss_cons (ps_if (pt_cmpR op_eq (pv 2) pe_str (nomark _))
      (pss_one (ps_ret (pe_op op_and (pe_dget2 (hu_of hr) (pv 1) (pe_tup (pa_cons pe_str (pa_cons (pv 3) pa_nil))) pe_int ⟨rfl, rfl, rfl, rfl⟩) (pe_op op_shl pe_int (pe_ix ix_tup (pv 0) pe_int (fun _ _ => rfl))))))
      pss_nil)
      (pss_cons (ps_if (pt_cmpR op_eq (pv 2) pe_str (nomark _))
      (pss_one (ps_ret (pe_op op_or (pe_dget2 (hu_of hr) (pv 1) (pe_tup (pa_cons pe_str (pa_cons (pv 3) pa_nil))) pe_int ⟨rfl, rfl, rfl, rfl⟩) (pe_dget2 (hu_of hr) (pv 1) (pe_tup (pa_cons pe_str (pa_cons (pv 3) pa_nil))) pe_int ⟨rfl, rfl, rfl, rfl⟩))))
      pss_nil)
      (pss_cons (ps_if (pt_cmpR op_gt (pe_dget2 (hu_of hr) (pv 1) (pe_tup (pa_cons pe_str (pa_cons (pv 3) pa_nil))) pe_int ⟨rfl, rfl, rfl, rfl⟩) pe_int (nomark _))
      (pss_one (ps_ret (pe_dget2 (hu_of hr) (pv 1) (pe_tup (pa_cons pe_str (pa_cons (pv 3) pa_nil))) pe_int ⟨rfl, rfl, rfl, rfl⟩)))
      pss_nil)
      (pss_one (ps_ret (pe_dget2 (hu_of hr) (pv 1) (pe_tup (pa_cons pe_str (pa_cons (pv 3) pa_nil))) pe_int ⟨rfl, rfl, rfl, rfl⟩)))))))))), ?_⟩
    have okk := okw ok
    have q := fun H' s => q H' s [] []
    obtain ⟨kind, n, m, into, k⟩ := x
    simp only at h3 okk
    have isd : ∀ H', Same H H' → IsD H' g := fun H' s => .inr ⟨kvs, .inl (s _ _ eg)⟩
    match kind, h3, okk, h2, q with
    | 3, _, _, h2, q =>
      have h2' : H sa = some (.tup [.str "upper", .int (n : Int)]) := h2
      refine ⟨_, rfl, sa, _, _, _, rfl, rfl, SqT.of h2', at_zero, ?_⟩
      refine ⟨_, rfl, sa, _, _, _, rfl, rfl, SqT.of h2', at_one, ?_⟩
      refine ⟨_, rfl, rfl, _, rfl, ift (decide_eq_true rfl) ?_⟩
      refine ⟨_, rfl, g, rfl, isd H (Same.refl H), _, rfl, (by show 2 ≤ sizeLine; decide), fun r nr => ?_⟩
      have t1 := same_upd (o := .tup [.str "split", .int (n : Int)]) nr
      refine ⟨_, DGet.t (k := kTo 1 n) (t1 _ _ eg) upd_same, _, _, hg 1 n (by decide), rfl, ?_⟩
      refine qint (q _ t1) ?_
      exact (band_nat (t 1 n) 3).symm
    | 4, _, _, h2, q =>
      have h2' : H sa = some (.tup [.str "lower", .int (n : Int)]) := h2
      refine ⟨_, rfl, sa, _, _, _, rfl, rfl, SqT.of h2', at_zero, ?_⟩
      refine ⟨_, rfl, sa, _, _, _, rfl, rfl, SqT.of h2', at_one, ?_⟩
      refine ⟨_, rfl, rfl, _, rfl, iff_ (dec_str (by decide +kernel)) ?_⟩
      refine ⟨_, rfl, rfl, _, rfl, ift (decide_eq_true rfl) ?_⟩
      refine ⟨_, rfl, g, rfl, isd H (Same.refl H), _, rfl, (by show 2 ≤ sizeLine; decide), fun r nr => ?_⟩
      have t1 := same_upd (o := .tup [.str "split", .int (n : Int)]) nr
      refine ⟨_, DGet.t (k := kTo 1 n) (t1 _ _ eg) upd_same, _, _, hg 1 n (by decide), rfl, ?_⟩
      refine qint (q _ t1) ?_
      exact (band_nat (t 1 n) 4092).symm
    | 5, _, okk, h2, q =>
      have h2' : H sa = some (.tup [.str "hole", .int (n : Int), .int (m : Int)]) := h2
      refine ⟨_, rfl, sa, _, _, _, rfl, rfl, SqT.of h2', at_zero, ?_⟩
      refine ⟨_, rfl, sa, _, _, _, rfl, rfl, SqT.of h2', at_one, ?_⟩
      refine ⟨_, rfl, rfl, _, rfl, iff_ (dec_str (by decide +kernel)) ?_⟩
      refine ⟨_, rfl, rfl, _, rfl, iff_ (dec_str (by decide +kernel)) ?_⟩
      refine ⟨_, rfl, rfl, _, rfl, ift (decide_eq_true rfl) ?_⟩
      refine ⟨_, rfl, g, rfl, isd H (Same.refl H), _, rfl, (by show 2 ≤ sizeLine; decide), fun r nr => ?_⟩
      have t1 := same_upd (o := .tup [.str "look", .int (n : Int)]) nr
      refine ⟨_, DGet.t (k := kTo 2 n) (t1 _ _ eg) upd_same, _, rfl, sa, _, _, _, rfl, rfl, SqT.of (t1 _ _ h2'), at_two, _, _, rfl, rfl, ⟨by omega, by omega, by decide⟩, _, _, hg 2 n (by decide), rfl, ?_⟩
      refine qint (q _ t1) ?_
      have e : (1 : Int) * 2 ^ ((m : Int)).toNat = ((2 ^ m : Nat) : Int) := by rw [Int.toNat_natCast, Int.one_mul, Int.natCast_pow]; rfl
      show ((t 2 n &&& 2 ^ m : Nat) : Int) = Builtin.bitAnd (t 2 n : Int) ((1 : Int) * 2 ^ ((m : Int)).toNat)
      rw [e, band_nat]
    | 6, _, _, h2, q =>
      have h2' : H sa = some (.tup [.str "chosen", .int (n : Int)]) := h2
      refine ⟨_, rfl, sa, _, _, _, rfl, rfl, SqT.of h2', at_zero, ?_⟩
      refine ⟨_, rfl, sa, _, _, _, rfl, rfl, SqT.of h2', at_one, ?_⟩
      refine ⟨_, rfl, rfl, _, rfl, iff_ (dec_str (by decide +kernel)) ?_⟩
      refine ⟨_, rfl, rfl, _, rfl, iff_ (dec_str (by decide +kernel)) ?_⟩
      refine ⟨_, rfl, rfl, _, rfl, iff_ (dec_str (by decide +kernel)) ?_⟩
      refine ⟨_, rfl, rfl, _, rfl, iff_ (dec_str (by decide +kernel)) ?_⟩
      refine ⟨_, rfl, g, rfl, isd H (Same.refl H), _, rfl, (by show 2 ≤ sizeLine; decide), fun r nr => ?_⟩
      have t1 := same_upd (o := .tup [.str "by", .int (n : Int)]) nr
      refine ⟨_, DGet.t (k := kTo 3 n) (t1 _ _ eg) upd_same, _, _, hg 3 n (by decide), rfl, _, rfl, ?_⟩
      by_cases c : (0 : Int) < (t 3 n : Int)
      · refine ift (decide_eq_true c) ?_
        refine ⟨_, rfl, g, rfl, isd _ t1, _, rfl, (by show 2 ≤ sizeLine; decide), fun r2 nr2 => ?_⟩
        have t2 := same_upd (o := .tup [.str "other", .int (n : Int)]) nr2
        refine ⟨_, DGet.t (k := kTo 5 n) (t2 _ _ (t1 _ _ eg)) upd_same, ?_⟩
        rw [hg 5 n (by decide)]
        refine qint (q _ (t1.trans t2)) ?_
        show ((if 0 < t 3 n then t 5 n else t 4 n : Nat) : Int) = _
        rw [if_pos (by omega)]
      · refine iff_ (decide_eq_false c) ?_
        refine ⟨_, rfl, g, rfl, isd _ t1, _, rfl, (by show 2 ≤ sizeLine; decide), fun r2 nr2 => ?_⟩
        have t2 := same_upd (o := .tup [.str "plain", .int (n : Int)]) nr2
        refine ⟨_, DGet.t (k := kTo 4 n) (t2 _ _ (t1 _ _ eg)) upd_same, ?_⟩
        rw [hg 4 n (by decide)]
        refine qint (q _ (t1.trans t2)) ?_
        show ((if 0 < t 3 n then t 5 n else t 4 n : Nat) : Int) = _
        rw [if_neg (by omega)]
    | 7, _, _, h2, q =>
      have h2' : H sa = some (.tup [.str "both", .int (n : Int)]) := h2
      refine ⟨_, rfl, sa, _, _, _, rfl, rfl, SqT.of h2', at_zero, ?_⟩
      refine ⟨_, rfl, sa, _, _, _, rfl, rfl, SqT.of h2', at_one, ?_⟩
      refine ⟨_, rfl, rfl, _, rfl, iff_ (dec_str (by decide +kernel)) ?_⟩
      refine ⟨_, rfl, rfl, _, rfl, iff_ (dec_str (by decide +kernel)) ?_⟩
      refine ⟨_, rfl, rfl, _, rfl, iff_ (dec_str (by decide +kernel)) ?_⟩
      refine ⟨_, rfl, rfl, _, rfl, ift (decide_eq_true rfl) ?_⟩
      refine ⟨_, rfl, g, rfl, isd H (Same.refl H), _, rfl, (by show 2 ≤ sizeLine; decide), fun r nr => ?_⟩
      have t1 := same_upd (o := .tup [.str "one", .int (n : Int)]) nr
      refine ⟨_, DGet.t (k := kTo 6 n) (t1 _ _ eg) upd_same, ?_⟩
      refine ⟨_, rfl, g, rfl, isd _ t1, _, rfl, (by show 2 ≤ sizeLine; decide), fun r2 nr2 => ?_⟩
      have t2 := same_upd (o := .tup [.str "two", .int (n : Int)]) nr2
      refine ⟨_, DGet.t (k := kTo 7 n) (t2 _ _ (t1 _ _ eg)) upd_same, _, _, hg 6 n (by decide), hg 7 n (by decide), ?_⟩
      refine qint (q _ (t1.trans t2)) ?_
      exact (bor_nat (t 6 n) (t 7 n)).symm
    | z + 8, _, okk, _, _ => omega
abbrev s_sent : Stmt := topS 61
abbrev N_sent : List Str := ["sender", "card", "machine", "goes", "name"]
theorem sc_sent : FnScope N_sent ["sender", "card", "machine", "goes"] (defScope s_sent) := ⟨rfl, rfl, rfl, by decide +kernel, rfl, by decide +kernel, by decide +kernel⟩
def sp_sent (K : PySem.W.Frag) : Sp := fun vs H Q _ => ∃ (sa ca ma g : Addr) (x : Pu.Wire) (c frm : List Nat) (t : Pu.Flow), vs = [.ref sa, .ref ca, .ref ma, .ref g] ∧ H sa = some (.tup (sendV x)) ∧ x.ok = true ∧ SqL K H ca (c.map vN) ∧ c.length = 80 ∧ SqL K H ma (frm.map vN) ∧ frm.length = 256 ∧ GoesAt H g t ∧
  ∀ H', Same H H' → Q (.int (sentP c frm t x : Int)) H'
theorem ok_sent {f : Addr} {fd : FuncData} (F : Fun K "sent" "sent" s_sent f fd) (T : Txt P w K mg ad) (D_code_holes : Dcl P w K mg base 2 "code_holes" ["number"] sp_code_holes) (D_sent_by_box : Dcl P w K mg base 1 "sent_by_box" ["sender", "goes"] sp_sent_by_box) : FnOk P w K mg base CX0 3 f fd ["sender", "card", "machine", "goes"] (sp_sent K) := by
  refine F.ok sc_sent (fun vs H Q E h => ?_) (fun cdv A outer s H vs Q E hr h => ?_)
  · obtain ⟨sa, ca, ma, g, x, c, frm, t, rfl, _⟩ := h; rfl
  · obtain ⟨sa, ca, ma, g, x, c, frm, t, rfl, h2, ok, hc, lc, hm, lm, hg, q⟩ := h
    refine ⟨_, (pss_cons (ps_set (i := 4) sc_sent.nd rfl (Or.inl rfl) (pe_ix ix_tup (pv 0) pe_int (fun _ _ => rfl)))
      (pss_cons (ps_if (pt_cmpR op_eq (pv 4) pe_str (nomark _))
      (pss_one (ps_ret (pe_ix ix_list (pv 1) (pe_ix ix_tup (pv 0) pe_int (fun _ _ => rfl)) (fun _ _ => rfl))))
      pss_nil)
      (pss_cons (ps_if (pt_cmpR op_eq (pv 4) pe_str (nomark _))
      (pss_one (ps_ret (pe_call D_code_holes.ok (hr.mono (by decide)) (by rfl) D_code_holes.g D_code_holes.kp D_code_holes.b .nil pass0 (pa_cons (pe_ix ix_tup (pv 0) pe_int (fun _ _ => rfl)) pa_nil))))
      pss_nil)
      (pss_cons (ps_if (pt_cmpR op_eq (pv 4) pe_str (nomark _))
      (pss_one (ps_ret (pe_ix ix_list (pv 2) (pe_ix ix_tup (pv 0) pe_int (fun _ _ => rfl)) (fun _ _ => rfl))))
      pss_nil)
      (pss_one (ps_ret (pe_call D_sent_by_box.ok (hr.mono (by decide)) (by rfl) D_sent_by_box.g D_sent_by_box.kp D_sent_by_box.b .nil pass0 (pa_cons (pv 0) (pa_cons (pv 3) pa_nil))))))))), ?_⟩
    have okx := ok
    unfold Pu.Wire.ok at okx
    simp only [Bool.and_eq_true, decide_eq_true_eq] at okx
    obtain ⟨kind, n, m, into, k⟩ := x
    simp only at okx
    have last : 3 ≤ kind → (decide (V.str (sendS.getD kind "") = V.str "read") = false ∧ decide (V.str (sendS.getD kind "") = V.str "send") = false ∧ decide (V.str (sendS.getD kind "") = V.str "from") = false) := by
      intro h
      match kind, h, okx.1 with
      | 3, _, _ => exact ⟨dec_str (by decide +kernel), dec_str (by decide +kernel), dec_str (by decide +kernel)⟩
      | 4, _, _ => exact ⟨dec_str (by decide +kernel), dec_str (by decide +kernel), dec_str (by decide +kernel)⟩
      | 5, _, _ => exact ⟨dec_str (by decide +kernel), dec_str (by decide +kernel), dec_str (by decide +kernel)⟩
      | 6, _, _ => exact ⟨dec_str (by decide +kernel), dec_str (by decide +kernel), dec_str (by decide +kernel)⟩
      | 7, _, _ => exact ⟨dec_str (by decide +kernel), dec_str (by decide +kernel), dec_str (by decide +kernel)⟩
      | z + 8, _, h8 => omega
    by_cases h3 : 3 ≤ kind
    · obtain ⟨d1, d2, d3⟩ := last h3
      refine ⟨_, rfl, sa, _, _, _, rfl, rfl, SqT.of h2, at_zero, ?_⟩
      refine ⟨_, rfl, rfl, _, rfl, iff_ d1 ?_⟩
      refine ⟨_, rfl, rfl, _, rfl, iff_ d2 ?_⟩
      refine ⟨_, rfl, rfl, _, rfl, iff_ d3 ?_⟩
      exact ⟨_, rfl, _, rfl, sa, g, _, t, rfl, h2, ok, h3, hg, fun H' s' c' f' => by
        have := q H' s'
        have e : sentP c' f' t ⟨kind, n, m, into, k⟩ = sentP c frm t ⟨kind, n, m, into, k⟩ := by
          match kind, h3 with
          | 3, _ => rfl
          | 4, _ => rfl
          | 5, _ => rfl
          | 6, _ => rfl
          | 7, _ => rfl
          | z + 8, _ => rfl
        rw [e]
        exact this⟩
    · match kind, h3, okx, h2, q with
      | 0, _, okx, h2, q =>
        have h2' : H sa = some (.tup [.str "read", .int (n : Int)]) := h2
        have hn : n < 80 := okx.2.1
        refine ⟨_, rfl, sa, _, _, _, rfl, rfl, SqT.of h2', at_zero, ?_⟩
        refine ⟨_, rfl, rfl, _, rfl, ift (decide_eq_true rfl) ?_⟩
        exact ⟨_, rfl, _, rfl, sa, _, _, _, rfl, rfl, SqT.of h2', at_one, ca, _, _, _, rfl, rfl, hc, at_nat (by omega) rfl, q H (Same.refl H)⟩
      | 1, _, okx, h2, q =>
        have h2' : H sa = some (.tup [.str "send", .int (n : Int)]) := h2
        have hn : n < 64 := okx.2.1
        refine ⟨_, rfl, sa, _, _, _, rfl, rfl, SqT.of h2', at_zero, ?_⟩
        refine ⟨_, rfl, rfl, _, rfl, iff_ (dec_str (by decide +kernel)) ?_⟩
        refine ⟨_, rfl, rfl, _, rfl, ift (decide_eq_true rfl) ?_⟩
        refine ⟨_, rfl, sa, _, _, _, rfl, rfl, SqT.of h2', at_one, n, rfl, hn, ?_⟩
        refine qint (q H (Same.refl H)) ?_
        show ((codeM n : Nat) : Int) = _
        rw [code_eq hn]
      | 2, _, okx, h2, q =>
        have h2' : H sa = some (.tup [.str "from", .int (n : Int)]) := h2
        have hn : n < 256 := okx.2.1
        refine ⟨_, rfl, sa, _, _, _, rfl, rfl, SqT.of h2', at_zero, ?_⟩
        refine ⟨_, rfl, rfl, _, rfl, iff_ (dec_str (by decide +kernel)) ?_⟩
        refine ⟨_, rfl, rfl, _, rfl, iff_ (dec_str (by decide +kernel)) ?_⟩
        refine ⟨_, rfl, rfl, _, rfl, ift (decide_eq_true rfl) ?_⟩
        exact ⟨_, rfl, _, rfl, sa, _, _, _, rfl, rfl, SqT.of h2', at_one, ma, _, _, _, rfl, rfl, hm, at_nat (by omega) rfl, q H (Same.refl H)⟩
      | z + 3, h, _, _, _ => omega
abbrev s_run_panel : Stmt := topS 62
abbrev N_run_panel : List Str := ["panel", "card", "machine", "goes", "wire"]
theorem sc_run_panel : FnScope N_run_panel ["panel", "card", "machine"] (defScope s_run_panel) := ⟨rfl, rfl, rfl, by decide +kernel, rfl, by decide +kernel, by decide +kernel⟩
def sp_run_panel (K : PySem.W.Frag) : Sp := fun vs H Q _ => ∃ (pa ca ma : Addr) (ws : List Pu.Wire) (c frm : List Nat), vs = [.ref pa, .ref ca, .ref ma] ∧ WiresAt H pa ws ∧ ws.length ≤ 256 ∧ (∀ x ∈ ws, x.ok = true) ∧ SqL K H ca (c.map vN) ∧ c.length = 80 ∧ (∀ h ∈ c, h < 4096) ∧ SqL K H ma (frm.map vN) ∧ frm.length = 256 ∧ (∀ h ∈ frm, h < 4096) ∧
  ∀ (H' : Hp) (g : Addr), Same H H' → GoesAt H' g (goesL c frm ws) → Q (.ref g) H'
theorem getD_lt {l : List Nat} (h : ∀ x ∈ l, x < 4096) (k : Nat) : l.getD k 0 < 4096 := by
  rw [List.getD_eq_getElem?_getD]
  by_cases q : k < l.length
  · rw [List.getElem?_eq_getElem q]
    exact h _ (List.getElem_mem q)
  · rw [List.getElem?_eq_none (by omega)]
    decide
theorem ok_run_panel {f : Addr} {fd : FuncData} (F : Fun K "run_panel" "run_panel" s_run_panel f fd) (D_sent : Dcl P w K mg base 3 "sent" ["sender", "card", "machine", "goes"] (sp_sent K)) : FnOk P w K mg base CX0 4 f fd ["panel", "card", "machine"] (sp_run_panel K) := by
  refine F.ok sc_run_panel (fun vs H Q E h => ?_) (fun cdv A outer s H vs Q E hr h => ?_)
  · obtain ⟨pa, ca, ma, ws, c, frm, rfl, _⟩ := h; rfl
  · obtain ⟨pa, ca, ma, ws, c, frm, rfl, ⟨as, ep, wi⟩, lw, okw', hc, lc, ltc, hm, lm, ltm, q⟩ := h
    have lenw := wi.len
    refine ⟨_, (pss_cons (ps_set (i := 3) sc_run_panel.nd rfl (Or.inl rfl) pe_dnewT)
      (pss_cons (ps_for PassesOwn.never rfl (pi_list (pv 0)) (pg_name (i := 4) sc_run_panel.nd rfl (Or.inl rfl))
      (pss_one (ps_dput (hu_of hr) (pv 3) (pe_ix ix_tup (pv 4) pe_int (fun _ _ => rfl)) (pe_call D_sent.ok (hr.mono (by decide)) (by rfl) D_sent.g D_sent.kp D_sent.b .nil pass0 (pa_cons (pe_ix ix_tup (pv 4) pe_int (fun _ _ => rfl)) (pa_cons (pv 1) (pa_cons (pv 2) (pa_cons (pv 3) pa_nil))))) rfl)))
      (pss_one (ps_ret (pv 3))))), ?_⟩
    intro g ng
    refine ⟨_, rfl, pa, rfl, ⟨_, SqL.of ((same_upd ng) _ _ ep)⟩, ?_⟩
    refine for_list (K := K) (a := pa) (xs := as.map V.ref) (fun i σ H' => ∃ v4 kvs, σ = [some (.ref pa), some (.ref ca), some (.ref ma), some (.ref g), v4] ∧ Same H H' ∧ H' g = some (.dT kvs) ∧ kvs.length ≤ i ∧ ∀ j k : Nat, j < 8 → (valV kvs (kTo j k)).getD (.int 0) = .int (goesL c frm (ws.take i) j k : Int)) ⟨none, [], rfl, same_upd ng, upd_same, Nat.le_refl _, fun j k _ => rfl⟩ ?_ ?_ ?_
    · rintro i σ H' _ ⟨v4, kvs, rfl, sm, _⟩
      exact SqL.of (sm _ _ ep)
    · rintro i y σ H' hy ⟨v4, kvs, rfl, sm, eg, lk, hk⟩
      have hi : i < ws.length := by
        apply Classical.byContradiction; intro z
        rw [List.getElem?_eq_none (by rw [List.length_map]; omega)] at hy; cases hy
      have hwi : ws[i]? = some ws[i] := List.getElem?_eq_getElem hi
      obtain ⟨a, e1, sa, ta, h1, h2, h3⟩ := wi.get hwi
      rw [List.getElem?_map, e1] at hy
      have ey : y = .ref a := (Option.some.inj hy).symm
      subst ey
      have okx := okw' _ (List.getElem_mem hi)
      have etk : ws.take (i + 1) = ws.take i ++ [ws[i]] := by rw [List.take_add_one, hwi]; rfl
      generalize ws[i] = x at *
      have h1' := sm _ _ h1
      refine ⟨_, rfl, a, _, _, _, rfl, rfl, SqT.of h1', at_zero, _, rfl, _, rfl, _, rfl, sa, ca, ma, g, x, c, frm, goesL c frm (ws.take i), rfl, sm _ _ h2, okx, sm.seq hc, lc, sm.seq hm, lm, ⟨kvs, eg, by omega, hk⟩, fun H2 s2 => ?_⟩
      have h3' : H2 ta = some (.tup ((kTo x.into x.k).map kV)) := s2 _ _ (sm _ _ h3)
      refine ⟨_, rfl, _, rfl, a, _, _, _, rfl, rfl, SqT.of (s2 _ _ h1'), at_one, g, _, rfl, DPut.t (k := kTo x.into x.k) (s2 _ _ eg) h3' (size_big (by omega)), ?_⟩
      refine ⟨_, _, rfl, Same.mut (sm.trans s2) ng, upd_same, ?_, fun j k hj => ?_⟩
      · have := length_putK kvs (kTo x.into x.k) (V.int (sentP c frm (goesL c frm (ws.take i)) x : Int))
        omega
      · have okk := okw okx
        have bd : ∀ a b, goesL c frm (ws.take i) a b < 4096 := goesL_lt (getD_lt ltc) (getD_lt ltm) fun z hz => okw' z (List.mem_of_mem_take hz)
        rw [valV_put, etk, goes_push, sentP_is okx bd]
        unfold goesStep setFl
        by_cases z : j = x.into ∧ k = x.k
        · rw [if_pos (by rw [z.1, z.2]), if_pos z]; rfl
        · rw [if_neg (fun e => z (kTo_inj hj (by omega) e)), if_neg z]
          exact hk j k hj
    · rintro σ H' ⟨v4, kvs, rfl, sm, eg, lk, hk⟩
      rw [List.length_map, lenw] at lk hk
      rw [List.take_length] at hk
      exact ⟨_, rfl, q H' g sm ⟨kvs, eg, by omega, hk⟩⟩
end
end CP
/-! HKt -/
namespace CP
open PySem PySem.Spec PyProof.Rows L2
/-- {k: v}, the key a tuple -/
def tDisp1T (tk tv : TE) : TE := fun σ H Q => ∀ p, H p = none → tk σ (upd H p (.dT [])) fun y H1 => tv σ H1 fun v H2 => H2 p = some (.dT []) ∧ ∃ b k, y = .ref b ∧ H2 b = some (.tup (k.map kV)) ∧ Q (.ref p) (upd H2 p (.dT [(k, v)]))
/-- d.setdefault(y, z), the keys tuples -/
def tDSetdT (td ty tx : TE) : TE := fun σ H Q => td σ H fun x H1 => ∃ a, x = .ref a ∧ IsD H1 a ∧ ty σ H1 fun y H2 => tx σ H2 fun z H3 => ∃ (kvs : List (List L2.Key × V)) (k : List L2.Key) (b : Addr), H3 a = some (.dT kvs) ∧ y = .ref b ∧ H3 b = some (.tup (k.map kV)) ∧ kvs.length < sizeLine ∧
  (∀ v, valV kvs k = some v → Q v H3) ∧ (valV kvs k = none → Q z (upd H3 a (.dT (putK kvs k z))))
section
variable {X : Cx} {o e f k v : Expr} {apos cpos pos : Pos} {td ty tx tk tv : TE}
theorem pe_dsetdT (hu : X.A.units + 1 < cLine) (ho : PE X o td) (he : PE X e ty) (hf : PE X f tx) (m : M2 X o "setdefault" apos e f cpos) : PE X (.Call (.Attribute o "setdefault" apos) [e, f] [] cpos) (tDSetdT td ty tx) := by
  refine ⟨fun pins s σ H Q I h => ?_⟩
  refine wpAny_Call_method m.base m.few m.line PySem.F.plainAttrs_dict PySem.F.slot_dict_setdefault PySem.F.type_dict_setdefault (thn (ho.run pins s σ H _ I h) fun u s1 ⟨x, H1, I1, rx, a, ex, d, q1⟩ => ?_)
  subst ex
  obtain rfl : u = Value.ref a := rx
  obtain ⟨t1, t2, _⟩ := isD_at I1 d
  refine ⟨t1, t2, ?_⟩
  rw [m.trees]
  refine Calls.callWith_builtin rfl (Calls.evalArgs_plain (Calls.spliced_cons (thn (he.run pins s1 σ H1 _ I1 q1) fun iv s2 ⟨y, H2, I2, ry, q2⟩ =>
    Calls.spliced_cons (thn (hf.run pins s2 σ H2 _ I2 q2) fun fv s3 ⟨z, H3, I3, rz, kvs, k, b, ea, ey, eb, hl, q3, q4⟩ => Calls.spliced_nil ?_))))
  subst ey
  cases (show iv = Value.ref b from ry)
  obtain ⟨hz, hd, xs, rel, dd⟩ := dt_of I3.hok ea
  have hzx : xs.length ≤ sizeLine := by rw [← Paired.length rel]; exact hz
  refine call_setdefault_heap (hsz := hzx) (tupleKind_room_in1 hu) (key_of I3.hok eb) hd dd (fun p hp => ?_) fun hn h' dd' hs => ?_
  · have r := rel.val k
    rw [hp] at r
    cases q0 : valV kvs k with
    | none => rw [q0] at r; exact (show False from r).elim
    | some v0 =>
      rw [q0] at r
      exact ⟨v0, H3, I3.tok _, r, q3 v0 q0⟩
  · have r := rel.val k
    rw [hn] at r
    cases q0 : valV kvs k with
    | some v0 => rw [q0] at r; exact (show False from r).elim
    | none =>
      have hl2 : (putK kvs k z).length ≤ sizeLine := by have := length_putK kvs k z; omega
      obtain ⟨qo, es, ep, hq, h2, h3, h4, _, h5⟩ := dd'
      refine ⟨z, _, d_write (ob := .dT (putK kvs k z)) I3 (by rw [ea]; exact True.intro) hs ⟨qo, hq⟩ ⟨hl2, hd, _, (rel.put k eb rz).keeps fun c ys ec => ?_, qo, es, ep, hq, h2, h3, h4, h5⟩, rz, q4 q0⟩
      rw [upd_ne (ne_of ec ea (fun z => nomatch z))]
      exact ec
theorem pe_disp1T (hu : X.A.units + 1 < cLine) (hk : PE X k tk) (hv : PE X v tv) : PE X (.Dict [some k] [v] pos) (tDisp1T tk tv) := by
  refine ⟨fun pins s σ H Q I q => ?_⟩
  have hn := I.hok.fresh (Nat.le_refl s.heap.objs.size)
  have I1 := I.laid (a := s.heap.objs.size) (o := .dT []) (h' := s.heap.push { cls := .type "dict", data := .dict #[] }) (t' := s.toks) (fun _ _ q => Heap.get?_push_of_some _ q) (Nat.le_refl _) (dt_empty s.heap I.big)
  rw [arm_eval_Dict, zip_pairTrees [some k] [v] X.env pos rfl rfl, dictDisplay_pairs _ (by intro z; cases z) (by show 1 < 17; decide)]
  refine wpAny_bind (wpAny_standAt (wpAny_bind (wpAny_subDictH (knd := tupleKind (mixKind X.prog X.w)) (show X.A.units < cLine by omega) (by show 1 ≤ 15; decide) ?_)))
  refine pairTrees_cons_walk (thn (hk.run pins _ σ _ _ I1 (q _ hn)) fun u s1 ⟨x, H1, I2, rx, q1⟩ => thn (hv.run pins s1 σ H1 _ I2 q1) fun w2 s2 ⟨y, H2, I3, ry, e, b, kk, ex, eb, q2⟩ => pairTrees_nil_walk ?_)
  subst ex
  obtain rfl : u = Value.ref b := rx
  obtain ⟨hz, hd, xs, rel, dd⟩ := dt_of I3.hok e
  cases rel
  refine ⟨[(kk, b, w2)], ⟨rfl, rfl, key_of I3.hok eb, trivial⟩, dd, fun h' tkk dd' hs => ?_⟩
  have e2 : storedAllH ([] : List (List L2.Key × Addr × Value)) [(kk, b, w2)] = [(kk, b, w2)] := rfl
  rw [e2] at dd'
  obtain ⟨qo, es, ep, hq, h2, h3, h4, _, h5⟩ := dd'
  refine wpAny_pure ⟨.ref s.heap.objs.size, _, d_write (ob := .dT [(kk, y)]) I3 (by rw [e]; exact True.intro) hs ⟨qo, hq⟩ ⟨by show 1 ≤ sizeLine; decide, hd, [(kk, b, w2)], .cons ⟨rfl, ?_, ry⟩ .nil, qo, es, ep, hq, h2, h3, h4, h5⟩, rfl, q2⟩
  rw [upd_ne (ne_of eb e (fun z => nomatch z))]
  exact eb
end
end CP
/-! HPan3 -/
namespace CP
open PySem PySem.Spec PyProof.Rows L2
def BoxOk (b : Pu.Box) : Prop := 1 ≤ b.1 ∧ b.1 ≤ 4
theorem out_ok {x : Pu.Wire} {b : Pu.Box} (h : x.outOf = some b) : BoxOk b := by
  unfold Pu.Wire.outOf at h
  repeat' split at h
  all_goals first | (cases h; simp [BoxOk]) | cases h
theorem in_ok {x : Pu.Wire} {b : Pu.Box} (h : x.inTo = some b) : BoxOk b := by
  unfold Pu.Wire.inTo at h
  repeat' split at h
  all_goals first | (cases h; simp [BoxOk]) | cases h
theorem boxS_nd : boxS.Nodup := by decide +kernel
theorem boxS_inj {i j : Nat} (hi : i < 5) (hj : j < 5) (e : boxS.getD i "" = boxS.getD j "") : i = j := by
  have h1 : boxS[i]? = some (boxS.getD i "") := by
    rw [List.getD_eq_getElem?_getD, List.getElem?_eq_getElem (show i < boxS.length from hi)]; rfl
  have h2 : boxS[j]? = some (boxS.getD j "") := by
    rw [List.getD_eq_getElem?_getD, List.getElem?_eq_getElem (show j < boxS.length from hj)]; rfl
  rw [← e] at h2
  exact nd_ix boxS_nd h1 h2
theorem kBox_inj {a b : Pu.Box} (ha : BoxOk a) (hb : BoxOk b) (e : kBox a = kBox b) : a = b := by
  have e1 := Sum.inr.inj (List.cons.inj e).1
  have e2 := Sum.inl.inj (List.cons.inj (List.cons.inj e).2).1
  have h1 := boxS_inj (by unfold BoxOk at ha; omega) (by unfold BoxOk at hb; omega) e1
  exact Prod.ext h1 (by omega)
inductive BoxesIn (H : Hp) : List Addr → List Pu.Box → Prop
  | nil : BoxesIn H [] []
  | cons {a : Addr} {x : Pu.Box} {as : List Addr} {d : List Pu.Box} : H a = some (.tup (boxV x)) → BoxesIn H as d → BoxesIn H (a :: as) (x :: d)
theorem BoxesIn.len {H : Hp} {as : List Addr} {d : List Pu.Box} (h : BoxesIn H as d) : as.length = d.length := by
  induction h with
  | nil => rfl
  | cons _ _ ih => simp only [List.length_cons, ih]
theorem BoxesIn.same {H H' : Hp} {as : List Addr} {d : List Pu.Box} (h : BoxesIn H as d) (s : ∀ a xs, H a = some (.tup xs) → H' a = some (.tup xs)) : BoxesIn H' as d := by
  induction h with
  | nil => exact .nil
  | cons e _ ih => exact .cons (s _ _ e) ih
theorem BoxesIn.append {H : Hp} {as bs : List Addr} {d e : List Pu.Box} (h : BoxesIn H as d) (k : BoxesIn H bs e) : BoxesIn H (as ++ bs) (d ++ e) := by
  induction h with
  | nil => exact k
  | cons q _ ih => exact .cons q ih
theorem BoxesIn.get' {H : Hp} : ∀ {as : List Addr} {d : List Pu.Box} {i : Nat} {a : Addr}, BoxesIn H as d → as[i]? = some a → ∃ x, d[i]? = some x ∧ H a = some (.tup (boxV x))
  | _, _, i, x, .nil, h => by simp at h
  | _, _, 0, a, .cons (x := x) e _, h => by
    have : _ = a := Option.some.inj h
    subst this
    exact ⟨x, rfl, e⟩
  | _, _, i + 1, x, .cons _ t, h => BoxesIn.get' (i := i) t h
theorem BoxesIn.last {H : Hp} {as : List Addr} {d : List Pu.Box} (h : BoxesIn H as d) (ne : d ≠ []) : ∃ as' a d' x, as = as' ++ [a] ∧ d = d' ++ [x] ∧ BoxesIn H as' d' ∧ H a = some (.tup (boxV x)) := by
  induction h with
  | nil => exact absurd rfl ne
  | @cons a x as d e t ih =>
    cases d with
    | nil =>
      cases t
      exact ⟨[], a, [], x, rfl, rfl, .nil, e⟩
    | cons y d =>
      obtain ⟨as', a', d', x', e1, e2, t', e'⟩ := ih (by simp)
      exact ⟨a :: as', a', x :: d', x', by rw [e1]; rfl, by rw [e2]; rfl, .cons e t', e'⟩
/-- what the boxes send to, in a dict of lists -/
def FolAt (H : Hp) (f : Addr) (l : List Pu.Wire) : Prop := ∃ kvs, H f = some (.dT kvs) ∧ kvs.length ≤ l.length ∧
  (∀ b, BoxOk b → (valV kvs (kBox b) = none → follow l b = []) ∧ ∀ v, valV kvs (kBox b) = some v → ∃ fa bs, v = .ref fa ∧ H fa = some (.lst (bs.map V.ref)) ∧ BoxesIn H bs (follow l b)) ∧
  ∀ a b v, BoxOk a → BoxOk b → valV kvs (kBox a) = some v → valV kvs (kBox b) = some v → a = b
theorem FolAt.same {H H' : Hp} {f : Addr} {l : List Pu.Wire} (h : FolAt H f l) (s : Same H H') : FolAt H' f l := by
  obtain ⟨kvs, e, n, q, i⟩ := h
  refine ⟨kvs, s _ _ e, n, fun b hb => ⟨(q b hb).1, fun v hv => ?_⟩, i⟩
  obtain ⟨fa, bs, e1, e2, e3⟩ := (q b hb).2 v hv
  exact ⟨fa, bs, e1, s _ _ e2, e3.same fun a xs h => s _ _ h⟩
theorem follow_ok {l : List Pu.Wire} {a : Pu.Box} : ∀ y ∈ follow l a, BoxOk y := by
  intro y hy
  obtain ⟨w, _, _, hi⟩ := follow_mem.mp hy
  exact in_ok hi
theorem shaped_box {b : Pu.Box} (h : BoxOk b) : SeqAt.shaped (.tuple [.str (boxS.getD b.1 ""), .int (b.2 : Int)]) = true := by
  obtain ⟨k, n⟩ := b
  unfold BoxOk at h
  simp only at h
  have core : ∀ x : Str, PyData.strOk x = true → SeqAt.shaped (.tuple [.str x, .int (n : Int)]) = true := by
    intro x hx
    simp [SeqAt.shaped, PyData.canLay0, PyData.canLayAll0, PyData.depth, PyData.depthAll, hx]
  match k, h with
  | 1, _ => exact core _ (show PyData.strOk (boxS.getD 1 "") = true by decide +kernel)
  | 2, _ => exact core _ (show PyData.strOk (boxS.getD 2 "") = true by decide +kernel)
  | 3, _ => exact core _ (show PyData.strOk (boxS.getD 3 "") = true by decide +kernel)
  | 4, _ => exact core _ (show PyData.strOk (boxS.getD 4 "") = true by decide +kernel)
  | 0, h => omega
  | z + 5, h => omega
theorem eqv_box {a b : Pu.Box} (ha : BoxOk a) (hb : BoxOk b) : PyData.eqv (.tuple [.str (boxS.getD a.1 ""), .int (a.2 : Int)]) (.tuple [.str (boxS.getD b.1 ""), .int (b.2 : Int)]) = decide (a = b) := by
  show ((boxS.getD a.1 "" == boxS.getD b.1 "") && (((a.2 : Int) == (b.2 : Int)) && true)) = _
  rw [Bool.and_true]
  by_cases e : a = b
  · rw [e, decide_eq_true rfl, beq_self_eq_true, beq_self_eq_true]; rfl
  · rw [decide_eq_false e]
    apply Bool.eq_false_iff.mpr
    intro z
    rw [Bool.and_eq_true] at z
    apply e
    have h1 := boxS_inj (by unfold BoxOk at ha; omega) (by unfold BoxOk at hb; omega) (eq_of_beq z.1)
    have h2 := eq_of_beq z.2
    exact Prod.ext h1 (by omega)
section
variable {P : Program} {w : World} {K : PySem.W.Frag} {mg : Str → Option Value} {base : Heap} {ad : Ad}
abbrev s_leads_to : Stmt := topS 51
abbrev N_leads_to : List Str := ["followers", "start", "goal", "waiting", "met", "box", "follower"]
theorem sc_leads_to : FnScope N_leads_to ["followers", "start", "goal"] (defScope s_leads_to) := ⟨rfl, rfl, rfl, by decide +kernel, rfl, by decide +kernel, by decide +kernel⟩
def sp_leads_to : Sp := fun vs H Q _ => ∃ (f sa ga : Addr) (l : List Pu.Wire) (b g : Pu.Box), vs = [.ref f, .ref sa, .ref ga] ∧ FolAt H f l ∧ l.length ≤ 256 ∧ H sa = some (.tup (boxV b)) ∧ H ga = some (.tup (boxV g)) ∧ BoxOk b ∧ BoxOk g ∧
  ∀ (r : Bool), (r = true ↔ Reach l b g) → ∀ H', Same H H' → Q (.bl r) H'
def lenL (H : Hp) (a : Addr) : Nat := match H a with
  | some (.lst xs) => xs.length
  | _ => 0
def lenD (H : Hp) (a : Addr) : Nat := match H a with
  | some (.dT xs) => xs.length
  | _ => 0
theorem lenL_of {H : Hp} {a : Addr} {xs : List V} (h : H a = some (.lst xs)) : lenL H a = xs.length := by unfold lenL; rw [h]
theorem lenD_of {H : Hp} {a : Addr} {xs : List (List L2.Key × V)} (h : H a = some (.dT xs)) : lenD H a = xs.length := by unfold lenD; rw [h]
theorem ok_leads_to {f : Addr} {fd : FuncData} (F : Fun K "leads_to" "leads_to" s_leads_to f fd) (T : Txt P w K mg ad) : FnOk P w K mg base CX0 1 f fd ["followers", "start", "goal"] sp_leads_to := by
  refine F.ok sc_leads_to (fun vs H Q E h => ?_) (fun cdv A outer s H vs Q E hr h => ?_)
  · obtain ⟨f, sa, ga, l, b, g, rfl, _⟩ := h; rfl
  · obtain ⟨f, sa, ga, l, b, g, rfl, hf, hl, es, eg, ob, og, q⟩ := h
    refine ⟨_, (pss_cons (ps_set (i := 3) sc_leads_to.nd rfl (Or.inl rfl) (pe_lst (pa_cons (pv 1) pa_nil)))
      (pss_cons (ps_set (i := 4) sc_leads_to.nd rfl (Or.inl rfl) (pe_disp1T (hu_of hr) (pv 1) pe_bl))
      (pss_cons (ps_while PassesOwn.never (pt_cmpR op_gt (pe_callB call_len_seq (by rfl) T.b_len PySem.boot_len (pa_cons (pv 3) pa_nil)) pe_int (nomark _))
      (pss_cons (ps_set (i := 5) sc_leads_to.nd rfl (Or.inl rfl) (pe_bm0 PySem.F.plainAttrs_list PySem.F.slot_list_pop PySem.F.type_list_pop mt_pop (pv 3)))
      (pss_cons (ps_if (pt_cmpR (op_eqD hr.units) (pv 5) (pv 2) (nomark _))
      (pss_one (ps_ret pe_bl))
      pss_nil)
      (pss_one (ps_for PassesOwn.never rfl (pi_list (pe_dget2 (hu_of hr) (pv 0) (pv 5) (pe_lst pa_nil) ⟨rfl, rfl, rfl, rfl⟩)) (pg_name (i := 6) sc_leads_to.nd rfl (Or.inl rfl))
      (pss_one (ps_if (pt_cmp (pc_dnotin (hu_of hr) (pv 6) (pv 4)))
      (pss_cons (ps_dput (hu_of hr) (pv 4) (pv 6) pe_bl rfl)
      (pss_one (ps_expr (pe_bm PySem.F.plainAttrs_list PySem.F.slot_list_append PySem.F.type_list_append mt_append (pv 3) (pa_cons (pv 6) pa_nil)))))
      pss_nil)))))))
      (pss_one (ps_ret pe_bl))))), ?_⟩
    refine ⟨_, rfl, (by show 1 ≤ sizeLine; decide), fun wa nwa => ?_⟩
    have t1 := same_upd (o := .lst [V.ref sa]) nwa
    intro ma nma
    have t2 := same_upd (o := .dT []) nma
    have nwm : wa ≠ ma := fun z => by rw [← z, upd_same] at nma; cases nma
    refine ⟨_, rfl, upd_same, sa, kBox b, rfl, t2 _ _ (t1 _ _ es), ?_⟩
    have hma : H ma = none := t1.free nma
    have s0 : Same H (upd (upd (upd H wa (.lst [V.ref sa])) ma (.dT [])) ma (.dT [(kBox b, V.bl true)])) := Same.mut (t1.trans t2) hma
    refine while_by (fun σ H' => ∃ (v5 v6 : Option V) (ws : List Addr) (waiting met : List Pu.Box) (kvs : List (List L2.Key × V)), σ = [some (.ref f), some (.ref sa), some (.ref ga), some (.ref wa), some (.ref ma), v5, v6] ∧ Same H H' ∧ H' wa = some (.lst (ws.map V.ref)) ∧ BoxesIn H' ws waiting ∧ H' ma = some (.dT kvs) ∧ kvs.length = met.length ∧
        (∀ x, BoxOk x → ((valV kvs (kBox x)).isSome = true ↔ x ∈ met)) ∧ (∀ x ∈ met, BoxOk x) ∧ Dfs l b g none waiting met ∧ 2 * (258 - met.length) + waiting.length ≤ 515) (fun σ H' => 2 * (258 - lenD H' ma) + lenL H' wa) ?_ ?_ ?_
    · refine ⟨none, none, [sa], [b], [b], [(kBox b, V.bl true)], rfl, s0, ?_, .cons (s0 _ _ es) .nil, upd_same, rfl, fun x hx => ?_, (fun x hx => by rw [show x = b by simpa using hx]; exact ob), Dfs.begin l b g, (by show 2 * (258 - 1) + 1 ≤ 515; decide)⟩
      · rw [upd_ne nwm, upd_ne nwm, upd_same]; rfl
      · by_cases z : x = b
        · rw [z, valV_pos (by rfl)]; simp
        · rw [valV_neg (fun e => z (kBox_inj ob hx e).symm)]
          simp [z, valV_nil]
    · rintro σ H' ⟨v5, v6, ws, waiting, met, kvs, rfl, sm, ew, bw, em, lk, hm, om, D, mu5⟩
      refine ⟨_, rfl, wa, _, rfl, .inl (SqL.of ew), _, _, rfl, rfl, _, rfl, ?_⟩
      by_cases c0 : waiting = []
      · subst c0
        have : ws = [] := by cases bw; rfl
        subst this
        refine iff_ rfl ?_
        refine q false ⟨(fun z => by cases z), fun z => absurd z D.end_⟩ H' sm
      · obtain ⟨ws', wl, waiting', box, e1, e2, bw', ewl⟩ := bw.last c0
        subst e1 e2
        refine ift (decide_eq_true (by rw [List.length_map, List.length_append]; show (0 : Int) < ((ws'.length + 1 : Nat) : Int); omega)) ?_
        have elast : ((ws' ++ [wl]).map V.ref)[((ws' ++ [wl]).map V.ref).length - 1]? = some (.ref wl) := by
          rw [List.length_map, List.length_append, List.map_append]
          show (ws'.map V.ref ++ [V.ref wl])[ws'.length + 1 - 1]? = _
          rw [Nat.add_sub_cancel, List.getElem?_append_right (by rw [List.length_map]; exact Nat.le_refl _), List.length_map, Nat.sub_self]; rfl
        have edl : ((ws' ++ [wl]).map V.ref).dropLast = ws'.map V.ref := by rw [List.map_append]; exact List.dropLast_concat
        refine ⟨_, rfl, .inl ⟨rfl, _, SqL.of ew⟩, wa, _, _, rfl, rfl, ew, elast, ?_⟩
        have hwa : H wa = none := nwa
        have s1 : Same H (upd H' wa (.lst ((ws' ++ [wl]).map V.ref).dropLast)) := Same.mut sm hwa
        have keepT : ∀ a xs, H' a = some (.tup xs) → (upd H' wa (.lst ((ws' ++ [wl]).map V.ref).dropLast)) a = some (.tup xs) := fun a xs h => by rw [upd_ne (ne_of h ew (fun e => by cases e))]; exact h
        obtain ⟨rb, mb, D1⟩ := D.pop
        have obx : BoxOk box := om box mb
        have ewl1 := keepT _ _ ewl
        refine ⟨_, rfl, _, rfl, _, _, .tup (SqT.of ewl1) (.cons (.str _) (.cons (.int _) .nil)), .tup (SqT.of (s1 _ _ eg)) (.cons (.str _) (.cons (.int _) .nil)), shaped_box obx, shaped_box og, _, rfl, ?_⟩
        rw [eqv_box obx og]
        by_cases c1 : box = g
        · refine ift (decide_eq_true c1) ?_
          exact q true ⟨fun _ => c1 ▸ rb, fun _ => rfl⟩ _ s1
        · refine iff_ (decide_eq_false c1) ?_
          have em1 : (upd H' wa (.lst ((ws' ++ [wl]).map V.ref).dropLast)) ma = some (.dT kvs) := by rw [upd_ne (Ne.symm nwm)]; exact em
          have ew1 : (upd H' wa (.lst ((ws' ++ [wl]).map V.ref).dropLast)) wa = some (.lst (ws'.map V.ref)) := by rw [upd_same, edl]
          have bw1 : BoxesIn (upd H' wa (.lst ((ws' ++ [wl]).map V.ref).dropLast)) ws' waiting' := bw'.same keepT
          generalize upd H' wa (.lst ((ws' ++ [wl]).map V.ref).dropLast) = H1 at *
          have lenm := D.len hl
          obtain ⟨fk, ef, lf, hfk, _⟩ := hf
          have ef1 := s1 _ _ ef
          have mu0 : 2 * (258 - lenD H' ma) + lenL H' wa = 2 * (258 - met.length) + (ws'.length + 1) := by
            rw [lenD_of em, lenL_of ew, lk, List.length_map, List.length_append]; rfl
          rw [mu0]
          generalize hm0 : met.length = m0 at *
          refine ⟨_, rfl, f, rfl, .inr ⟨fk, .inl ef1⟩, _, rfl, Nat.zero_le _, fun e0 ne0 => ?_⟩
          have t3 := same_upd (o := .lst []) ne0
          have ewl2 := t3 _ _ ewl1
          refine ⟨_, DGet.t (k := kBox box) (t3 _ _ ef1) ewl2, ?_⟩
          have VV : ∃ va bs, (valV fk (kBox box)).getD (V.ref e0) = .ref va ∧ va ≠ wa ∧ (upd H1 e0 (.lst [])) va = some (.lst (bs.map V.ref)) ∧ BoxesIn (upd H1 e0 (.lst [])) bs (follow l box) := by
            cases hv : valV fk (kBox box) with
            | none =>
              refine ⟨e0, [], rfl, (fun z => by rw [z, ew1] at ne0; cases ne0), upd_same, ?_⟩
              rw [(hfk box obx).1 hv]
              exact .nil
            | some v =>
              obtain ⟨fa, bs, e1, e2, e3⟩ := (hfk box obx).2 v hv
              subst e1
              refine ⟨fa, bs, rfl, (fun z => by rw [z, hwa] at e2; cases e2), t3 _ _ (s1 _ _ e2), (e3.same fun a xs h => s1 _ _ h).same fun a xs h => t3 _ _ h⟩
          obtain ⟨va, bs, eva, nva, hva, bva⟩ := VV
          refine ⟨va, eva, ⟨_, SqL.of hva⟩, ?_⟩
          have s2 := s1.trans t3
          have ew2 := t3 _ _ ew1
          have em2 := t3 _ _ em1
          have bw2 := bw1.same fun a xs h => t3 _ _ h
          generalize upd H1 e0 (.lst []) = H2 at *
          have lbs := bva.len
          refine for_list (K := K) (a := va) (xs := bs.map V.ref) (fun i σ H' => ∃ (v6 : Option V) (ws : List Addr) (waiting met : List Pu.Box) (kvs : List (List L2.Key × V)), σ = [some (.ref f), some (.ref sa), some (.ref ga), some (.ref wa), some (.ref ma), some (.ref wl), v6] ∧ Same H H' ∧ H' va = some (.lst (bs.map V.ref)) ∧ BoxesIn H' bs (follow l box) ∧ H' wa = some (.lst (ws.map V.ref)) ∧ BoxesIn H' ws waiting ∧ H' ma = some (.dT kvs) ∧ kvs.length = met.length ∧
            (∀ x, BoxOk x → ((valV kvs (kBox x)).isSome = true ↔ x ∈ met)) ∧ (∀ x ∈ met, BoxOk x) ∧ Dfs l b g (some box) waiting met ∧ box ∈ met ∧ (∀ y ∈ (follow l box).take i, y ∈ met) ∧ 2 * (258 - met.length) + waiting.length < 2 * (258 - m0) + (ws'.length + 1)) ?_ ?_ ?_ ?_
          · refine ⟨_, ws', waiting', met, kvs, rfl, s2, hva, bva, ew2, bw2, em2, lk.trans hm0.symm, hm, om, D1, mb, (fun y hy => by rw [List.take_zero] at hy; cases hy), ?_⟩
            rw [hm0, ← bw'.len]
            omega
          · rintro i σ H3 _ ⟨v6, ws3, wt3, met3, kvs3, rfl, s3, hva3, _⟩
            exact SqL.of hva3
          · rintro i y σ H3 hy ⟨v6, ws3, wt3, met3, kvs3, rfl, s3, hva3, bva3, ew3, bw3, em3, lk3, hm3, om3, D3, mb3, fol3, mu3⟩
            obtain ⟨ba, e1, rfl⟩ : ∃ ba, bs[i]? = some ba ∧ y = V.ref ba := by
              rw [List.getElem?_map] at hy
              cases e : bs[i]? with
              | none => rw [e] at hy; cases hy
              | some x => rw [e] at hy; exact ⟨x, rfl, (Option.some.inj hy).symm⟩
            obtain ⟨yb, e2, e3⟩ := bva3.get' e1
            have oyb : BoxOk yb := follow_ok yb (List.mem_of_getElem? e2)
            have edge : Edge l box yb := follow_mem.mp (List.mem_of_getElem? e2)
            have etk : (follow l box).take (i + 1) = (follow l box).take i ++ [yb] := by rw [List.take_add_one, e2]; rfl
            have nvm : va ≠ ma := ne_of hva3 em3 (fun e => by cases e)
            refine ⟨_, rfl, _, rfl, ma, _, rfl, DGet.t (k := kBox yb) em3 e3, _, rfl, ?_⟩
            cases hin : (valV kvs3 (kBox yb)).isSome with
            | true =>
              refine iff_ rfl ?_
              refine ⟨_, ws3, wt3, met3, kvs3, rfl, s3, hva3, bva3, ew3, bw3, em3, lk3, hm3, om3, D3, mb3, fun z hz => ?_, mu3⟩
              rw [etk] at hz
              rcases List.mem_append.mp hz with z1 | z1
              · exact fol3 z z1
              · have : z = yb := by simpa using z1
                rw [this]; exact (hm3 yb oyb).mp hin
            | false =>
              have nin : yb ∉ met3 := fun z => by rw [(hm3 yb oyb).mpr z] at hin; cases hin
              have hnone : valV kvs3 (kBox yb) = none := by
                cases h : valV kvs3 (kBox yb) with
                | none => rfl
                | some v => rw [h] at hin; cases hin
              have l3 := D3.len hl
              refine ift rfl ?_
              refine ⟨_, rfl, _, rfl, ma, _, rfl, DPut.t (k := kBox yb) em3 e3 (size_big (by omega)), ?_⟩
              have s4 : Same H (upd H3 ma (.dT (putK kvs3 (kBox yb) (V.bl true)))) := Same.mut s3 hma
              have kT1 : ∀ a xs, H3 a = some (.tup xs) → (upd H3 ma (.dT (putK kvs3 (kBox yb) (V.bl true)))) a = some (.tup xs) := fun a xs h => by rw [upd_ne (ne_of h em3 (fun e => by cases e))]; exact h
              have ew4 : (upd H3 ma (.dT (putK kvs3 (kBox yb) (V.bl true)))) wa = some (.lst (ws3.map V.ref)) := by rw [upd_ne nwm]; exact ew3
              have hva4 : (upd H3 ma (.dT (putK kvs3 (kBox yb) (V.bl true)))) va = some (.lst (bs.map V.ref)) := by rw [upd_ne nvm]; exact hva3
              refine ⟨_, rfl, .inl ⟨rfl, _, SqL.of ew4⟩, _, rfl, wa, _, _, rfl, rfl, ew4, ?_, ?_⟩
              · rw [List.length_map, bw3.len]
                have : wt3.length ≤ 2 * (258 - m0) + (ws'.length + 1) := by omega
                have hw5 : ws'.length ≤ 600 := by
                  rw [bw'.len]
                  rw [List.length_append] at mu5
                  omega
                exact size_big (by omega)
              · have kT2 : ∀ a xs, (upd H3 ma (.dT (putK kvs3 (kBox yb) (V.bl true)))) a = some (.tup xs) → (upd (upd H3 ma (.dT (putK kvs3 (kBox yb) (V.bl true)))) wa (.lst (ws3.map V.ref ++ [V.ref ba]))) a = some (.tup xs) := fun a xs h => by rw [upd_ne (ne_of h ew4 (fun e => by cases e))]; exact h
                have lput : (putK kvs3 (kBox yb) (V.bl true)).length = kvs3.length + 1 := by rw [putK_new _ hnone, List.length_append]; rfl
                refine ⟨_, ws3 ++ [ba], wt3 ++ [yb], met3 ++ [yb], putK kvs3 (kBox yb) (V.bl true), rfl, Same.mut s4 hwa, by rw [upd_ne nva]; exact hva4, (bva3.same kT1).same kT2, by rw [upd_same, List.map_append]; rfl, ((bw3.same kT1).same kT2).append (.cons (kT2 _ _ (kT1 _ _ e3)) .nil), by rw [upd_ne (Ne.symm nwm)]; exact upd_same, by rw [lput, lk3, List.length_append]; rfl, fun x hx => ?_, fun x hx => ?_, D3.add mb3 edge nin, List.mem_append_left _ mb3, fun z hz => ?_, ?_⟩
                · rw [valV_put]
                  by_cases z : x = yb
                  · rw [z, if_pos rfl]; simp
                  · rw [if_neg (fun e => z (kBox_inj hx oyb e)), hm3 x hx]
                    simp [z]
                · rcases List.mem_append.mp hx with z | z
                  · exact om3 x z
                  · rw [show x = yb by simpa using z]; exact oyb
                · rw [etk] at hz
                  rcases List.mem_append.mp hz with z1 | z1
                  · exact List.mem_append_left _ (fol3 z z1)
                  · exact List.mem_append_right _ z1
                · rw [List.length_append, List.length_append]
                  show 2 * (258 - (met3.length + 1)) + (wt3.length + 1) < _
                  omega
          · rintro σ H3 ⟨v6, ws3, wt3, met3, kvs3, rfl, s3, hva3, bva3, ew3, bw3, em3, lk3, hm3, om3, D3, mb3, fol3, mu3⟩
            rw [List.length_map, lbs, List.take_length] at fol3
            refine ⟨⟨_, _, ws3, wt3, met3, kvs3, rfl, s3, ew3, bw3, em3, lk3, hm3, om3, D3.close c1 fun y hy => fol3 y (follow_mem.mpr hy), ?_⟩, ?_⟩
            · have := bw'.len
              rw [List.length_append] at mu5
              have : ([box] : List Pu.Box).length = 1 := rfl
              omega
            rw [lenD_of em3, lenL_of ew3, lk3, List.length_map, bw3.len]
            exact mu3
    · rintro σ H1 Q1 Q2 hq ⟨u1, e1, u3, u4, e3, e4, u5, u6, e5, e6, u7, e7, z⟩
      exact ⟨u1, e1, u3, u4, e3, e4, u5, u6, e5, e6, u7, e7, hq _ _ z⟩
theorem FolAt.push {H : Hp} {f ca tb : Addr} {l : List Pu.Wire} {x : Pu.Wire} {a0 b0 : Pu.Box} {kv : List (List L2.Key × V)} {bs : List Addr} (ef : H f = some (.dT kv)) (lk : kv.length ≤ l.length + 1) (ox : x.outOf = some a0) (ix : x.inTo = some b0)
    (hv : valV kv (kBox a0) = some (.ref ca)) (hca : H ca = some (.lst (bs.map V.ref))) (hb : BoxesIn H bs (follow l a0)) (htb : H tb = some (.tup (boxV b0)))
    (rest : ∀ b, BoxOk b → b ≠ a0 → (valV kv (kBox b) = none → follow l b = []) ∧ ∀ v, valV kv (kBox b) = some v → ∃ fa bs, v = .ref fa ∧ H fa = some (.lst (bs.map V.ref)) ∧ BoxesIn H bs (follow l b))
    (inj : ∀ a b v, BoxOk a → BoxOk b → valV kv (kBox a) = some v → valV kv (kBox b) = some v → a = b) : FolAt (L2.upd H ca (.lst (bs.map V.ref ++ [.ref tb]))) f (l ++ [x]) := by
  have oa := out_ok ox
  have kT : ∀ a xs, H a = some (.tup xs) → (L2.upd H ca (.lst (bs.map V.ref ++ [.ref tb]))) a = some (.tup xs) := fun a xs h => by rw [upd_ne (ne_of h hca (fun e => by cases e))]; exact h
  refine ⟨kv, by rw [upd_ne (ne_of ef hca (fun e => by cases e))]; exact ef, by rw [List.length_append]; exact lk, fun b ob => ?_, inj⟩
  by_cases e : b = a0
  · subst e
    refine ⟨(fun z => by rw [hv] at z; cases z), fun v hv' => ?_⟩
    rw [hv] at hv'
    cases hv'
    refine ⟨ca, bs ++ [tb], rfl, by rw [upd_same, List.map_append]; rfl, ?_⟩
    rw [follow_push, if_pos ox, ix]
    exact (hb.same kT).append (.cons (kT _ _ htb) .nil)
  · have ef' : follow (l ++ [x]) b = follow l b := by
      rw [follow_push, if_neg (by rw [ox]; exact fun z => e (Option.some.inj z).symm), List.append_nil]
    rw [ef']
    refine ⟨(rest b ob e).1, fun v hv' => ?_⟩
    obtain ⟨fa, bs', e1, e2, e3⟩ := (rest b ob e).2 v hv'
    subst e1
    have ne : fa ≠ ca := fun z => by
      subst z
      exact e (inj b a0 _ ob oa hv' hv)
    exact ⟨fa, bs', rfl, by rw [upd_ne ne]; exact e2, e3.same kT⟩
theorem FolAt.stay {H : Hp} {f : Addr} {l : List Pu.Wire} {x : Pu.Wire} (h : FolAt H f l) (hx : x.outOf = none ∨ x.inTo = none) : FolAt H f (l ++ [x]) := by
  obtain ⟨kv, ef, lk, q, inj⟩ := h
  refine ⟨kv, ef, by rw [List.length_append]; show _ ≤ l.length + 1; omega, fun b ob => ?_, inj⟩
  have e : follow (l ++ [x]) b = follow l b := by
    rw [follow_push]
    rcases hx with z | z
    · rw [if_neg (by rw [z]; exact fun z => by cases z), List.append_nil]
    · rw [z]
      split <;> simp
  rw [e]
  exact q b ob
theorem FolAt.upd {H : Hp} {f p : Addr} {l : List Pu.Wire} {kv : List (List L2.Key × V)} {o : HO} (h : FolAt H f l) (ne : f ≠ p) (hp : H p = some (.dT kv)) : FolAt (L2.upd H p o) f l := by
  obtain ⟨fk, ef, lk, q, inj⟩ := h
  refine ⟨fk, by rw [upd_ne ne]; exact ef, lk, fun b ob => ⟨(q b ob).1, fun v hv => ?_⟩, inj⟩
  obtain ⟨fa, bs, e1, e2, e3⟩ := (q b ob).2 v hv
  exact ⟨fa, bs, e1, by rw [upd_ne (ne_of e2 hp (fun e => by cases e))]; exact e2, e3.same fun a xs h => by rw [upd_ne (ne_of h hp (fun e => by cases e))]; exact h⟩
abbrev s_wire_fault : Stmt := topS 52
abbrev N_wire_fault : List Str := ["wires", "taken", "followers", "place", "wire"]
theorem sc_wire_fault : FnScope N_wire_fault ["wires"] (defScope s_wire_fault) := ⟨rfl, rfl, rfl, by decide +kernel, rfl, by decide +kernel, by decide +kernel⟩
def wfV : Option (Nat × Nat) → List V
  | none => []
  | some (j, x) => [.int ((x : Int) + 1), .int (j : Int), .int 0]
def sp_wire_fault : Sp := fun vs H Q _ => ∃ (a : Addr) (ws : List Pu.Wire), vs = [.ref a] ∧ WiresAt H a ws ∧ ws.length ≤ 256 ∧ (∀ x ∈ ws, x.ok = true) ∧ NewL H Q (wfV (Pu.faultIn_ ws))
theorem ok_wire_fault {f : Addr} {fd : FuncData} (F : Fun K "wire_fault" "wire_fault" s_wire_fault f fd) (T : Txt P w K mg ad) (D_joins_boxes : Dcl P w K mg base 2 "joins_boxes" ["wire"] sp_joins_boxes) (D_leads_to : Dcl P w K mg base 1 "leads_to" ["followers", "start", "goal"] sp_leads_to)
    (D_sending_box : Dcl P w K mg base 1 "sending_box" ["wire"] (sp_box Pu.Wire.outOf)) (D_taking_box : Dcl P w K mg base 1 "taking_box" ["wire"] (sp_box Pu.Wire.inTo)) : FnOk P w K mg base CX0 3 f fd ["wires"] sp_wire_fault := by
  refine F.ok sc_wire_fault (fun vs H Q E h => ?_) (fun cdv A outer s H vs Q E hr h => ?_)
  · obtain ⟨a, ws, rfl, _⟩ := h; rfl
  · obtain ⟨a, ws, rfl, ⟨as, ea, wi⟩, lw, okw', q⟩ := h
    have lenw := wi.len
    refine ⟨_, (pss_cons (ps_set (i := 1) sc_wire_fault.nd rfl (Or.inl rfl) pe_dnewT)
      (pss_cons (ps_set (i := 2) sc_wire_fault.nd rfl (Or.inl rfl) pe_dnewT)
      (pss_cons (ps_for PassesOwn.never rfl (pi_enum (by rfl) T.b_enumerate (pa_cons (pv 0) pa_nil)) (pg_tup rfl (pgs_cons (pg_name (i := 3) sc_wire_fault.nd rfl (Or.inl rfl)) (pgs_cons (pg_name (i := 4) sc_wire_fault.nd rfl (Or.inl rfl)) pgs_nil)))
      (pss_cons (ps_if (pt_cmp (pc_din (hu_of hr) (pe_ix ix_tup (pv 4) pe_int (fun _ _ => rfl)) (pv 1)))
      (pss_one (ps_ret (pe_lst (pa_cons pe_int (pa_cons (pv 3) (pa_cons pe_int pa_nil))))))
      pss_nil)
      (pss_cons (ps_dput (hu_of hr) (pv 1) (pe_ix ix_tup (pv 4) pe_int (fun _ _ => rfl)) pe_bl rfl)
      (pss_one (ps_if (pt_val (pe_call D_joins_boxes.ok (hr.mono (by decide)) (by rfl) D_joins_boxes.g D_joins_boxes.kp D_joins_boxes.b .nil pass0 (pa_cons (pv 4) pa_nil)))
      (pss_cons (ps_if (pt_val (pe_call D_leads_to.ok (hr.mono (by decide)) (by rfl) D_leads_to.g D_leads_to.kp D_leads_to.b .nil pass0 (pa_cons (pv 2) (pa_cons (pe_call D_taking_box.ok (hr.mono (by decide)) (by rfl) D_taking_box.g D_taking_box.kp D_taking_box.b .nil pass0 (pa_cons (pv 4) pa_nil)) (pa_cons (pe_call D_sending_box.ok (hr.mono (by decide)) (by rfl) D_sending_box.g D_sending_box.kp D_sending_box.b .nil pass0 (pa_cons (pv 4) pa_nil)) pa_nil)))))
      (pss_one (ps_ret (pe_lst (pa_cons pe_int (pa_cons (pv 3) (pa_cons pe_int pa_nil))))))
      pss_nil)
      (pss_one (ps_expr (pe_bm PySem.F.plainAttrs_list PySem.F.slot_list_append PySem.F.type_list_append mt_append (pe_dsetdT (hu_of hr) (pv 2) (pe_call D_sending_box.ok (hr.mono (by decide)) (by rfl) D_sending_box.g D_sending_box.kp D_sending_box.b .nil pass0 (pa_cons (pv 4) pa_nil)) (pe_lst pa_nil) ⟨rfl, rfl, rfl, rfl⟩) (pa_cons (pe_call D_taking_box.ok (hr.mono (by decide)) (by rfl) D_taking_box.g D_taking_box.kp D_taking_box.b .nil pass0 (pa_cons (pv 4) pa_nil)) pa_nil)))))
      pss_nil)))))
      (pss_one (ps_ret (pe_lst pa_nil)))))), ?_⟩
    intro ta nta
    intro fa nfa
    have t1 := same_upd (o := .dT []) nta
    have t2 := same_upd (o := .dT []) nfa
    have ntf : ta ≠ fa := fun z => by rw [← z, upd_same] at nfa; cases nfa
    have hfa : H fa = none := t1.free nfa
    refine ⟨_, rfl, a, _, rfl, SqL.of ((t1.trans t2) _ _ ea), ?_⟩
    refine for_enum (K := K) (xs := as.map V.ref) (fun i σ H' => ∃ v3 v4 kvs, σ = [some (.ref a), some (.ref ta), some (.ref fa), v3, v4] ∧ Same H H' ∧ H' ta = some (.dT kvs) ∧ kvs.length ≤ i ∧ (∀ j k : Nat, j < 8 → ((valV kvs (kTo j k)).isSome = true ↔ ∃ x ∈ ws.take i, x.into = j ∧ x.k = k)) ∧ FolAt H' fa (ws.take i) ∧ (∀ fk, H' fa = some (.dT fk) → ∀ b v, BoxOk b → valV fk (kBox b) = some v → ∀ c, v = .ref c → H c = none) ∧ ∀ j, j < i → Pu.wrongAt ws j = none) ?_ ?_ ?_ ?_
    · refine ⟨none, none, [], rfl, t1.trans t2, t2 _ _ upd_same, Nat.le_refl _, fun j k _ => ?_, ⟨[], upd_same, Nat.le_refl _, fun b _ => ⟨fun _ => rfl, fun v hv => by cases hv⟩, fun a b v _ _ hv => by cases hv⟩, fun fk hfk b v _ hv => ?_, fun j hj => by omega⟩
      · simp [valV_nil]
      · rw [upd_same] at hfk
        have := HO.dT.inj (Option.some.inj hfk)
        rw [← this] at hv
        cases hv
    · rintro i σ H' _ ⟨v3, v4, kvs, rfl, sm, _⟩
      exact SqL.of (sm _ _ ea)
    · rintro i y σ H' T0 hy ⟨v3, v4, kvs, rfl, sm, et, lk, hk, hF, hFn, hwr⟩ nT
      have hi : i < ws.length := by
        apply Classical.byContradiction; intro z
        rw [List.getElem?_eq_none (by rw [List.length_map]; omega)] at hy; cases hy
      have hwi : ws[i]? = some ws[i] := List.getElem?_eq_getElem hi
      obtain ⟨wa, e1, hwat⟩ := wi.get hwi
      rw [List.getElem?_map, e1] at hy
      have ey : y = .ref wa := (Option.some.inj hy).symm
      subst ey
      have okx := okw' _ (List.getElem_mem hi)
      have wra := wrongAt_eq hwi
      have etk : ws.take (i + 1) = ws.take i ++ [ws[i]] := by rw [List.take_add_one, hwi]; rfl
      generalize ws[i] = x at *
      have ltk : (ws.take i).length ≤ 256 := by rw [List.length_take]; omega
      have sT := same_upd (o := .tup [V.int (i : Nat), V.ref wa]) nT
      have sm1 := sm.trans sT
      have et1 := sT _ _ et
      have hF1 := hF.same sT
      have eFT : ∀ fk, (upd H' T0 (.tup [V.int (i : Nat), V.ref wa])) fa = some (.dT fk) → H' fa = some (.dT fk) := fun fk hfk => by
        obtain ⟨fk', ef', _⟩ := hF
        rw [sT _ _ ef'] at hfk
        rw [ef']; exact hfk
      have hTt : (upd H' T0 (.tup [V.int (i : Nat), V.ref wa])) T0 = some (.tup [V.int (i : Nat), V.ref wa]) := upd_same
      generalize upd H' T0 (.tup [V.int (i : Nat), V.ref wa]) = H1 at *
      have hw1 := hwat.same sm1
      obtain ⟨sa, tka, g1, g2, g3⟩ := hw1
      have g3' : H1 tka = some (.tup ((kTo x.into x.k).map kV)) := g3
      have into8 : x.into < 8 := by have := (okw okx).2.2.2.1; omega
      refine ⟨T0, [_, _], rfl, .inl (.inl hTt), rfl, _, [_], rfl, _, [], rfl, rfl, ?_⟩
      refine ⟨_, rfl, wa, _, _, _, rfl, rfl, SqT.of g1, at_one, _, rfl, ta, _, rfl, DGet.t (k := kTo x.into x.k) et1 g3', _, rfl, ?_⟩
      have anyI : ((ws.take i).any fun v => sameTo v x) = true ↔ ∃ v ∈ ws.take i, v.into = x.into ∧ v.k = x.k := by
        rw [List.any_eq_true]
        constructor
        · rintro ⟨v, hv, z⟩
          unfold sameTo at z
          rw [Bool.and_eq_true] at z
          exact ⟨v, hv, eq_of_beq z.1, eq_of_beq z.2⟩
        · rintro ⟨v, hv, z1, z2⟩
          refine ⟨v, hv, ?_⟩
          unfold sameTo
          rw [z1, z2, beq_self_eq_true, beq_self_eq_true]; rfl
      cases hin : (valV kvs (kTo x.into x.k)).isSome with
      | true =>
        refine ift rfl ?_
        refine ⟨_, rfl, (by show 3 ≤ sizeLine; decide), fun r nr => ?_⟩
        rw [if_pos (anyI.mpr ((hk _ _ into8).mp hin))] at wra
        rw [fault_some hi hwr wra] at q
        exact q _ r (sm1.trans (same_upd nr)) (sm1.free nr) upd_same
      | false =>
        have notany : ¬ ((ws.take i).any fun v => sameTo v x) = true := fun z => by
          rw [(hk _ _ into8).mpr (anyI.mp z)] at hin; cases hin
        rw [if_neg notany] at wra
        refine iff_ rfl ?_
        refine ⟨_, rfl, _, rfl, wa, _, _, _, rfl, rfl, SqT.of g1, at_one, ta, _, rfl, DPut.t (k := kTo x.into x.k) et1 g3' (size_big (by omega)), ?_⟩
        have s2 : Same H (upd H1 ta (.dT (putK kvs (kTo x.into x.k) (V.bl true)))) := Same.mut sm1 nta
        have hF2 : FolAt (upd H1 ta (.dT (putK kvs (kTo x.into x.k) (V.bl true)))) fa (ws.take i) := hF1.upd (Ne.symm ntf) et1
        have et2 : (upd H1 ta (.dT (putK kvs (kTo x.into x.k) (V.bl true)))) ta = some (.dT (putK kvs (kTo x.into x.k) (V.bl true))) := upd_same
        have eF2 : ∀ fk, (upd H1 ta (.dT (putK kvs (kTo x.into x.k) (V.bl true)))) fa = some (.dT fk) → H' fa = some (.dT fk) := fun fk hfk => by
          rw [upd_ne (Ne.symm ntf)] at hfk
          exact eFT fk hfk
        have lk2 : (putK kvs (kTo x.into x.k) (V.bl true)).length ≤ i + 1 := by
          have := length_putK kvs (kTo x.into x.k) (V.bl true)
          omega
        have hk2 : ∀ j k : Nat, j < 8 → ((valV (putK kvs (kTo x.into x.k) (V.bl true)) (kTo j k)).isSome = true ↔ ∃ z ∈ ws.take (i + 1), z.into = j ∧ z.k = k) := by
          intro j k hj
          rw [valV_put, etk]
          by_cases z : j = x.into ∧ k = x.k
          · rw [if_pos (by rw [z.1, z.2])]
            exact ⟨fun _ => ⟨x, List.mem_append_right _ (by simp), z.1.symm, z.2.symm⟩, fun _ => rfl⟩
          · rw [if_neg (fun e => z (kTo_inj hj into8 e)), hk j k hj]
            constructor
            · rintro ⟨v, hv, zz⟩
              exact ⟨v, List.mem_append_left _ hv, zz⟩
            · rintro ⟨v, hv, zz⟩
              rcases List.mem_append.mp hv with u | u
              · exact ⟨v, u, zz⟩
              · have : v = x := by simpa using u
                subst this
                exact absurd ⟨zz.1.symm, zz.2.symm⟩ z
        generalize upd H1 ta (.dT (putK kvs (kTo x.into x.k) (V.bl true))) = H2 at *
        have hFn2 : ∀ fk, H2 fa = some (.dT fk) → ∀ b v, BoxOk b → valV fk (kBox b) = some v → ∀ c, v = .ref c → H c = none := fun fk hfk => hFn fk (eF2 fk hfk)
        refine ⟨_, rfl, wa, x, rfl, hwat.same s2, okx, fun H3 s3 => ⟨_, rfl, ?_⟩⟩
        have hfin : ∀ (H5 : Hp) (v3 v4 : Option V), Same H H5 → H5 ta = some (.dT (putK kvs (kTo x.into x.k) (V.bl true))) → FolAt H5 fa (ws.take (i + 1)) → (∀ fk, H5 fa = some (.dT fk) → ∀ b v, BoxOk b → valV fk (kBox b) = some v → ∀ c, v = .ref c → H c = none) → Pu.closes (ws.take i) x = false →
            ∃ v3' v4' kvs', [some (V.ref a), some (V.ref ta), some (V.ref fa), v3, v4] = [some (.ref a), some (.ref ta), some (.ref fa), v3', v4'] ∧ Same H H5 ∧ H5 ta = some (.dT kvs') ∧ kvs'.length ≤ i + 1 ∧ (∀ j k : Nat, j < 8 → ((valV kvs' (kTo j k)).isSome = true ↔ ∃ x ∈ ws.take (i + 1), x.into = j ∧ x.k = k)) ∧ FolAt H5 fa (ws.take (i + 1)) ∧ (∀ fk, H5 fa = some (.dT fk) → ∀ b v, BoxOk b → valV fk (kBox b) = some v → ∀ c, v = .ref c → H c = none) ∧ ∀ j, j < i + 1 → Pu.wrongAt ws j = none := by
          intro H5 v3 v4 a1 a2 a3 a4 a5
          refine ⟨v3, v4, _, rfl, a1, a2, lk2, hk2, a3, a4, fun j hj => ?_⟩
          by_cases z : j = i
          · rw [z, wra, if_neg (by rw [a5]; exact Bool.false_ne_true)]
          · exact hwr j (by omega)
        cases hj : (x.outOf.isSome && x.inTo.isSome) with
        | false =>
          refine iff_ rfl ?_
          have hnone : x.outOf = none ∨ x.inTo = none := by
            cases ho : x.outOf with
            | none => exact .inl rfl
            | some a0 =>
              cases hi0 : x.inTo with
              | none => exact .inr rfl
              | some b0 => rw [ho, hi0] at hj; cases hj
          refine hfin H3 _ _ (s2.trans s3) (s3 _ _ et2) ?_ ?_ ?_
          · rw [etk]; exact (hF2.same s3).stay hnone
          · intro fk hfk
            obtain ⟨fk', ef', _⟩ := hF2
            rw [s3 _ _ ef'] at hfk
            exact hFn2 fk (by rw [ef']; exact hfk)
          · cases hcl : Pu.closes (ws.take i) x with
            | false => rfl
            | true =>
              obtain ⟨a0, b0, z1, z2, _⟩ := (closes_iff ltk x).mp hcl
              rcases hnone with z | z
              · rw [z] at z1; cases z1
              · rw [z] at z2; cases z2
        | true =>
          refine ift rfl ?_
          obtain ⟨a0, ho⟩ : ∃ a0, x.outOf = some a0 := by
            cases ho : x.outOf with
            | none => rw [ho] at hj; cases hj
            | some a0 => exact ⟨a0, rfl⟩
          obtain ⟨b0, hi0⟩ : ∃ b0, x.inTo = some b0 := by
            cases hi0 : x.inTo with
            | none => rw [ho, hi0] at hj; cases hj
            | some b0 => exact ⟨b0, rfl⟩
          have s23 := s2.trans s3
          have oa := out_ok ho
          have ob := in_ok hi0
          refine ⟨_, rfl, _, rfl, wa, x, rfl, hwat.same s23, okx, (fun e => by rw [hi0] at e; cases e), fun b1 eb1 H4 tb s4 n4 h4 => ?_⟩
          obtain rfl : b0 = b1 := Option.some.inj (hi0.symm.trans eb1)
          refine ⟨_, rfl, wa, x, rfl, hwat.same (s23.trans s4), okx, (fun e => by rw [ho] at e; cases e), fun a1 ea1 H5 sb s5 n5 h5 => ?_⟩
          obtain rfl : a0 = a1 := Option.some.inj (ho.symm.trans ea1)
          refine ⟨fa, tb, sb, ws.take i, b0, a0, rfl, hF2.same (s3.trans (s4.trans s5)), ltk, s5 _ _ h4, h5, ob, oa, fun r hr0 H6 s6 => ⟨_, rfl, ?_⟩⟩
          have s26 := s23.trans (s4.trans (s5.trans s6))
          have clI : Pu.closes (ws.take i) x = r := by
            have h1 := closes_iff ltk x
            cases r with
            | true => exact h1.mpr ⟨a0, b0, ho, hi0, hr0.mp rfl⟩
            | false =>
              apply Bool.eq_false_iff.mpr
              intro z
              obtain ⟨a', b', z1, z2, z3⟩ := h1.mp z
              rw [ho] at z1
              rw [hi0] at z2
              cases z1
              cases z2
              have := hr0.mpr z3
              cases this
          cases r with
          | true =>
            refine ift rfl ?_
            refine ⟨_, rfl, (by show 3 ≤ sizeLine; decide), fun r nr => ?_⟩
            rw [if_pos clI] at wra
            rw [fault_some hi hwr wra] at q
            exact q _ r (s26.trans (same_upd nr)) (s26.free nr) upd_same
          | false =>
            refine iff_ rfl ?_
            have s2t := s3.trans (s4.trans (s5.trans s6))
            obtain ⟨fk, ef, lfk, qfk, ifk⟩ := hF2
            have ef6 := s2t _ _ ef
            refine ⟨_, rfl, fa, rfl, .inr ⟨fk, .inl ef6⟩, _, rfl, wa, x, rfl, hwat.same s26, okx, (fun e => by rw [ho] at e; cases e), fun a1 ea1 H7 sb2 s7 n7 h7 => ?_⟩
            obtain rfl : a0 = a1 := Option.some.inj (ho.symm.trans ea1)
            refine ⟨Nat.zero_le _, fun c0 nc0 => ?_⟩
            have t8 := same_upd (o := .lst []) nc0
            have s28 : Same H2 (upd H7 c0 (.lst [])) := s2t.trans (s7.trans t8)
            have hc0 : H c0 = none := (s2.trans (s2t.trans s7)).free nc0
            have ef8 := s28 _ _ ef
            have nfc : fa ≠ c0 := fun z => by rw [← z, (s2t.trans s7) _ _ ef] at nc0; cases nc0
            have etk' : ws.take (i + 1) = ws.take i ++ [x] := etk
            have lfk' : fk.length ≤ 256 := by omega
            refine ⟨fk, kBox a0, sb2, ef8, rfl, t8 _ _ h7, size_big (by omega), fun v hv => ?_, fun hv => ?_⟩
            · obtain ⟨ca, bs, e1, e2, e3⟩ := (qfk a0 oa).2 v hv
              subst e1
              have hca8 := s28 _ _ e2
              refine ⟨.inl ⟨rfl, _, SqL.of hca8⟩, ?_⟩
              refine ⟨_, rfl, wa, x, rfl, hwat.same (s2.trans s28), okx, (fun e => by rw [hi0] at e; cases e), fun b1 eb1 H9 tb2 s9 n9 h9 => ?_⟩
              obtain rfl : b0 = b1 := Option.some.inj (hi0.symm.trans eb1)
              have s29 := s28.trans s9
              have hca9 := s29 _ _ e2
              have hcn : H ca = none := hFn2 fk ef a0 _ oa hv ca rfl
              have bsl : bs.length ≤ 256 := by
                rw [e3.len]
                refine Nat.le_trans (List.length_filterMap_le _ _) ltk
              refine ⟨ca, _, _, rfl, rfl, hca9, by rw [List.length_map]; exact size_big (by omega), ?_⟩
              refine hfin _ _ _ (Same.mut (s2.trans s29) hcn) (by rw [upd_ne (ne_of (s29 _ _ et2) hca9 (fun e => by cases e))]; exact s29 _ _ et2) ?_ ?_ clI
              · rw [etk']
                refine FolAt.push (kv := fk) (s29 _ _ ef) (by omega) ho hi0 hv hca9 (e3.same fun a xs h => s29 _ _ h) h9 (fun b okb neb => ⟨(qfk b okb).1, fun v' hv' => ?_⟩) ifk
                obtain ⟨fa', bs', e1', e2', e3'⟩ := (qfk b okb).2 v' hv'
                exact ⟨fa', bs', e1', s29 _ _ e2', e3'.same fun a xs h => s29 _ _ h⟩
              · intro fk' hfk'
                rw [upd_ne (ne_of (s29 _ _ ef) hca9 (fun e => by cases e)), s29 _ _ ef] at hfk'
                have : fk = fk' := HO.dT.inj (Option.some.inj hfk')
                rw [← this]
                exact hFn2 fk ef
            · have ef9 : (upd (upd H7 c0 (.lst [])) fa (.dT (putK fk (kBox a0) (.ref c0)))) fa = some (.dT (putK fk (kBox a0) (.ref c0))) := upd_same
              have s2p : Same H (upd (upd H7 c0 (.lst [])) fa (.dT (putK fk (kBox a0) (.ref c0)))) := Same.mut (s2.trans s28) hfa
              have hc9 : (upd (upd H7 c0 (.lst [])) fa (.dT (putK fk (kBox a0) (.ref c0)))) c0 = some (.lst []) := by rw [upd_ne (Ne.symm nfc)]; exact upd_same
              have kD : ∀ a o, H2 a = some o → a ≠ fa → (upd (upd H7 c0 (.lst [])) fa (.dT (putK fk (kBox a0) (.ref c0)))) a = some o := fun a o h n => by rw [upd_ne n]; exact s28 _ _ h
              refine ⟨.inl ⟨rfl, _, SqL.of hc9⟩, ?_⟩
              refine ⟨_, rfl, wa, x, rfl, hwat.same s2p, okx, (fun e => by rw [hi0] at e; cases e), fun b1 eb1 H9 tb2 s9 n9 h9 => ?_⟩
              obtain rfl : b0 = b1 := Option.some.inj (hi0.symm.trans eb1)
              refine ⟨c0, _, _, rfl, rfl, s9 _ _ hc9, by show 0 < sizeLine; decide, ?_⟩
              have et9 : H9 ta = some (.dT (putK kvs (kTo x.into x.k) (V.bl true))) := s9 _ _ (kD _ _ et2 ntf)
              refine hfin _ _ _ (Same.mut (s2p.trans s9) hc0) (by rw [upd_ne (ne_of et9 (s9 _ _ hc9) (fun e => by cases e))]; exact et9) ?_ ?_ clI
              · rw [etk']
                have e0 : follow (ws.take i) a0 = [] := (qfk a0 oa).1 hv
                refine FolAt.push (kv := putK fk (kBox a0) (.ref c0)) (bs := []) (s9 _ _ ef9) ?_ ho hi0 (by rw [valV_put, if_pos rfl]) (s9 _ _ hc9) (by rw [e0]; exact .nil) h9 (fun b okb neb => ?_) ?_
                · have := length_putK fk (kBox a0) (V.ref c0)
                  omega
                · rw [valV_put, if_neg (fun e => neb (kBox_inj okb oa e))]
                  refine ⟨(qfk b okb).1, fun v' hv' => ?_⟩
                  obtain ⟨fa', bs', e1', e2', e3'⟩ := (qfk b okb).2 v' hv'
                  refine ⟨fa', bs', e1', s9 _ _ (kD _ _ e2' (ne_of e2' ef (fun e => by cases e))), (e3'.same fun a xs h => kD _ _ h (ne_of h ef (fun e => by cases e))).same fun a xs h => s9 _ _ h⟩
                · intro p r v op or' hp hr'
                  rw [valV_put] at hp hr'
                  by_cases zp : kBox p = kBox a0
                  · rw [if_pos zp] at hp
                    have pa := kBox_inj op oa zp
                    by_cases zr : kBox r = kBox a0
                    · exact pa.trans (kBox_inj or' oa zr).symm
                    · rw [if_neg zr] at hr'
                      obtain ⟨fa', bs', e1', e2', e3'⟩ := (qfk r or').2 v hr'
                      have : v = .ref c0 := (Option.some.inj hp).symm
                      rw [this] at e1'
                      have : c0 = fa' := V.ref.inj e1'
                      subst this
                      rw [(s2t.trans s7) _ _ e2'] at nc0
                      cases nc0
                  · rw [if_neg zp] at hp
                    by_cases zr : kBox r = kBox a0
                    · rw [if_pos zr] at hr'
                      obtain ⟨fa', bs', e1', e2', e3'⟩ := (qfk p op).2 v hp
                      have : v = .ref c0 := (Option.some.inj hr').symm
                      rw [this] at e1'
                      have : c0 = fa' := V.ref.inj e1'
                      subst this
                      rw [(s2t.trans s7) _ _ e2'] at nc0
                      cases nc0
                    · rw [if_neg zr] at hr'
                      exact ifk p r v op or' hp hr'
              · intro fk' hfk'
                rw [upd_ne nfc, s9 _ _ ef9] at hfk'
                have : putK fk (kBox a0) (V.ref c0) = fk' := HO.dT.inj (Option.some.inj hfk')
                rw [← this]
                intro b v okb hv' c hc
                rw [valV_put] at hv'
                by_cases z : kBox b = kBox a0
                · rw [if_pos z] at hv'
                  have : V.ref c0 = v := Option.some.inj hv'
                  rw [← this] at hc
                  rw [← V.ref.inj hc]; exact hc0
                · rw [if_neg z] at hv'
                  exact hFn2 fk ef b v okb hv' c hc
    · rintro σ H' ⟨v3, v4, kvs, rfl, sm, et, lk, hk, hF, hFn, hwr⟩
      rw [List.length_map, lenw] at hwr
      refine ⟨Nat.zero_le _, fun r nr => ?_⟩
      rw [fault_none hwr] at q
      exact q _ r (sm.trans (same_upd nr)) (sm.free nr) upd_same
end
end CP
/-! HPan4 -/
namespace CP
open PySem PySem.Spec PyProof.Rows L2
theorem none_textFault {b : Pu.Bytes} (h : Pu.textFault Pu.wireForms Pu.WIRES b = none) : (Pu.pieces b).length ≤ 256 ∧ ∀ p ∈ Pu.pieces b, lineOk p = true := by
  unfold Pu.textFault at h
  rw [Option.map_eq_none_iff, List.find?_eq_none] at h
  have key : ∀ (i : Nat) (hi : i < (Pu.pieces b).length), i < 256 ∧ lineOk (Pu.pieces b)[i] = true := by
    intro i hi
    have hm : ((Pu.pieces b)[i], i) ∈ (Pu.pieces b).zipIdx := by
      rw [List.mem_zipIdx_iff_getElem?]
      exact List.getElem?_eq_getElem hi
    have := h _ hm
    simp only [Bool.or_eq_true, not_or, decide_eq_true_eq] at this
    obtain ⟨z1, z2⟩ := this
    unfold Pu.WIRES at z1
    refine ⟨by omega, ?_⟩
    rw [(line_right (pieces_piece b _ (List.getElem_mem hi)).1).1] at z2
    unfold lineOk
    cases e : (wireS (Pu.pieces b)[i] ⟨0, true⟩).1.right with
    | true => rfl
    | false => rw [e] at z2; exact absurd rfl z2
  refine ⟨?_, fun p hp => ?_⟩
  · apply Classical.byContradiction
    intro z
    have := (key 256 (by omega)).1
    omega
  · obtain ⟨i, hi, rfl⟩ := List.mem_iff_getElem.mp hp
    exact (key i hi).2
theorem wires_ok {b : Pu.Bytes} (h : ∀ p ∈ Pu.pieces b, lineOk p = true) : ∀ x ∈ (Pu.pieces b).map Pu.wireOf, x.ok = true := by
  intro x hx
  obtain ⟨p, hp, rfl⟩ := List.mem_map.mp hx
  exact ((line_right (pieces_piece b p hp).1).2.2 (h p hp)).1
def refV : Except Machines.Answer (List Pu.Wire) → List Int
  | .error a => a.num :: a.more
  | .ok _ => []
/-- a panel that's taken -/
theorem panel_ok {b : Pu.Bytes} {l : List Pu.Wire} (h : Machines.panelOf b = .ok l) : b.length ≤ 16384 ∧ (∀ p ∈ Pu.pieces b, lineOk p = true) ∧ l = (Pu.pieces b).map Pu.wireOf ∧ Sound l ∧ ∀ x ∈ l, x.ok = true := by
  unfold Machines.panelOf Pu.TEXTMOST at h
  by_cases c : 16384 < b.length
  · rw [if_pos c] at h; cases h
  · rw [if_neg c] at h
    unfold Pu.readPanel at h
    cases hf : Pu.textFault Pu.wireForms Pu.WIRES b with
    | some p => rw [hf] at h; cases h
    | none =>
      rw [hf] at h
      simp only at h
      obtain ⟨l1, l2⟩ := none_textFault hf
      cases hw : Pu.faultIn_ ((Pu.pieces b).map Pu.wireOf) with
      | some p => rw [hw] at h; cases h
      | none =>
        rw [hw] at h
        have : (Pu.pieces b).map Pu.wireOf = l := by injection h
        subst this
        exact ⟨by omega, l2, rfl, sound_of (by rw [List.length_map]; exact l1) hw, wires_ok l2⟩
section
variable {P : Program} {w : World} {K : PySem.W.Frag} {mg : Str → Option Value} {base : Heap} {ad : Ad}
abbrev s_panel_refusal : Stmt := topS 53
abbrev N_panel_refusal : List Str := ["text", "fault"]
theorem sc_panel_refusal : FnScope N_panel_refusal ["text"] (defScope s_panel_refusal) := ⟨rfl, rfl, rfl, by decide +kernel, rfl, by decide +kernel, by decide +kernel⟩
def sp_panel_refusal (K : PySem.W.Frag) : Sp := fun vs H Q _ => ∃ (a : Addr) (b : Pu.Bytes), vs = [.ref a] ∧ SqL K H a (b.map vB) ∧ b.length ≤ 100000 ∧ NewL H Q ((refV (Machines.panelOf b)).map V.int)
theorem ok_panel_refusal {f : Addr} {fd : FuncData} (F : Fun K "panel_refusal" "panel_refusal" s_panel_refusal f fd) (T : Txt P w K mg ad) (D_text_fault : Dcl P w K mg base 6 "text_fault" ["text"] (sp_text_fault K)) (D_wires_of : Dcl P w K mg base 6 "wires_of" ["text"] (sp_wires_of K)) (D_wire_fault : Dcl P w K mg base 3 "wire_fault" ["wires"] sp_wire_fault) : FnOk P w K mg base CX0 7 f fd ["text"] (sp_panel_refusal K) := by
  refine F.ok sc_panel_refusal (fun vs H Q E h => ?_) (fun cdv A outer s H vs Q E hr h => ?_)
  · obtain ⟨a, b, rfl, _⟩ := h; rfl
  · obtain ⟨a, b, rfl, ha, hl, q⟩ := h
    refine ⟨_, (pss_cons (ps_if (pt_cmpR op_gt (pe_callB call_len_seq (by rfl) T.b_len PySem.boot_len (pa_cons (pv 0) pa_nil)) (pe_gint (by rfl) T.g_LONGEST_TEXT) (nomark _))
      (pss_one (ps_ret (pe_lst (pa_cons (pe_un un_neg pe_int) pa_nil))))
      pss_nil)
      (pss_cons (ps_set (i := 1) sc_panel_refusal.nd rfl (Or.inl rfl) (pe_call D_text_fault.ok (hr.mono (by decide)) (by rfl) D_text_fault.g D_text_fault.kp D_text_fault.b .nil pass0 (pa_cons (pv 0) pa_nil)))
      (pss_cons (ps_if (pt_cmpR op_eq (pe_callB call_len_seq (by rfl) T.b_len PySem.boot_len (pa_cons (pv 1) pa_nil)) pe_int (nomark _))
      (pss_one (ps_set (i := 1) sc_panel_refusal.nd rfl (Or.inl rfl) (pe_call D_wire_fault.ok (hr.mono (by decide)) (by rfl) D_wire_fault.g D_wire_fault.kp D_wire_fault.b .nil pass0 (pa_cons (pe_call D_wires_of.ok (hr.mono (by decide)) (by rfl) D_wires_of.g D_wires_of.kp D_wires_of.b .nil pass0 (pa_cons (pv 0) pa_nil)) pa_nil))))
      pss_nil)
      (pss_cons (ps_if (pt_cmpR op_gt (pe_callB call_len_seq (by rfl) T.b_len PySem.boot_len (pa_cons (pv 1) pa_nil)) pe_int (nomark _))
      (pss_one (ps_ret (pe_op op_cat (pe_lst (pa_cons (pe_un un_neg pe_int) pa_nil)) (pv 1))))
      pss_nil)
      (pss_one (ps_ret (pe_lst pa_nil))))))), ?_⟩
    refine ⟨_, rfl, a, _, rfl, .inl ha, _, _, rfl, rfl, _, rfl, ?_⟩
    unfold Machines.panelOf Pu.TEXTMOST at q
    by_cases c1 : 16384 < b.length
    · refine ift (decide_eq_true (by rw [List.length_map]; omega)) ?_
      rw [if_pos c1] at q
      refine ⟨_, rfl, (by show 1 ≤ sizeLine; decide), fun r nr => ?_⟩
      exact q _ r (same_upd nr) nr upd_same
    · refine iff_ (decide_eq_false (by rw [List.length_map]; omega)) ?_
      rw [if_neg c1] at q
      unfold Pu.readPanel at q
      refine ⟨_, rfl, a, b, rfl, ha, hl, fun H1 p1 s1 n1 h1 => ?_⟩
      cases hf : Pu.textFault Pu.wireForms Pu.WIRES b with
      | some ik =>
        obtain ⟨i, k⟩ := ik
        rw [hf] at q h1
        simp only at q
        refine ⟨_, rfl, p1, _, rfl, .inl (SqL.of h1), rfl, _, rfl, iff_ rfl ?_⟩
        refine ⟨_, rfl, p1, _, rfl, .inl (SqL.of h1), _, _, rfl, rfl, _, rfl, ift rfl ?_⟩
        refine ⟨_, rfl, (by show 1 ≤ sizeLine; decide), fun r nr => ?_⟩
        have t1 := same_upd (o := .lst [V.int (-6)]) nr
        refine ⟨_, rfl, r, p1, _, _, rfl, rfl, upd_same, t1 _ _ h1, (by show 1 + 3 ≤ sizeLine; decide), fun u nu => ?_⟩
        refine q _ u (s1.trans (t1.trans (same_upd nu))) (s1.free (t1.free nu)) ?_
        rw [upd_same]
        have e : Pu.WIRES = 256 := rfl
        show some (HO.lst [V.int (-6), V.int (if 256 ≤ i then 2 else 1), V.int (i : Int), V.int (k : Int)]) = some (HO.lst [V.int (-6), V.int ((if 256 ≤ i then 2 else 1 : Nat) : Int), V.int (i : Int), V.int (k : Int)])
        by_cases z : 256 ≤ i
        · rw [if_pos z, if_pos z]; rfl
        · rw [if_neg z, if_neg z]; rfl
      | none =>
        rw [hf] at q h1
        simp only at q
        obtain ⟨l1, l2⟩ := none_textFault hf
        refine ⟨_, rfl, p1, _, rfl, .inl (SqL.of h1), rfl, _, rfl, ift rfl ?_⟩
        refine ⟨_, rfl, a, b, rfl, s1.seq ha, hl, l2, fun H2 p2 s2 n2 h2 => ?_⟩
        refine ⟨p2, _, rfl, h2, by rw [List.length_map]; exact l1, wires_ok l2, fun H3 p3 s3 n3 h3 => ?_⟩
        cases hw : Pu.faultIn_ ((Pu.pieces b).map Pu.wireOf) with
        | some jx =>
          obtain ⟨j, x⟩ := jx
          rw [hw] at q h3
          simp only at q
          refine ⟨_, rfl, p3, _, rfl, .inl (SqL.of h3), _, _, rfl, rfl, _, rfl, ift rfl ?_⟩
          refine ⟨_, rfl, (by show 1 ≤ sizeLine; decide), fun r nr => ?_⟩
          have t1 := same_upd (o := .lst [V.int (-6)]) nr
          refine ⟨_, rfl, r, p3, _, _, rfl, rfl, upd_same, t1 _ _ h3, (by show 1 + 3 ≤ sizeLine; decide), fun u nu => ?_⟩
          refine q _ u (s1.trans (s2.trans (s3.trans (t1.trans (same_upd nu))))) (s1.free (s2.free (s3.free (t1.free nu)))) ?_
          rw [upd_same]
          rfl
        | none =>
          rw [hw] at q h3
          simp only at q
          refine ⟨_, rfl, p3, _, rfl, .inl (SqL.of h3), _, _, rfl, rfl, _, rfl, iff_ rfl ?_⟩
          refine ⟨Nat.zero_le _, fun r nr => ?_⟩
          exact q _ r (s1.trans (s2.trans (s3.trans (same_upd nr)))) (s1.free (s2.free (s3.free nr))) upd_same
end
end CP
/-! HKn -/
namespace CP
open PySem PySem.Spec PyProof.Rows L2
/-! ### a dict whose keys are None and tuples: what the machine does -/
section
variable {prog : Program} {w : World} {A : Around} {E : Value → Shared → Prop} {s : Shared}
/-- a key that stands for k -/
def KIs (h : Heap) (k : NestedKey) (u : Value) : Prop := NestedIs h k u ∧ k.depth ≤ 8
def nEntry (w : World) (x : NestedKey × Value × Value) : DictEntry := ⟨x.1.hash w, x.2.1, x.2.2⟩
theorem mayTell_no {u : Value} {k : NestedKey} {stored : List Value} {Q : Bool → Shared → Prop} (hk : KIs s.heap k u) (hst : ∀ v ∈ stored, ∃ k', KIs s.heap k' v) (h : Q false s) : wpAny (model prog w) A (tableMayTell u stored) Q E s := by
  unfold tableMayTell
  split
  · exact wpAny_pure h
  · refine wpAny_bind (quiet_key k u 8 s hk.1 hk.2 _ _ _ ?_)
    simp only [Bool.not_true, Bool.false_eq_true, if_false]
    refine wpAny_bind (wpAny_forIn_list _ (fun left r s' => r = (none, ()) ∧ s' = s ∧ ∀ v ∈ left, ∃ k', KIs s.heap k' v) _ ?_ ?_ _ _ ⟨rfl, rfl, hst⟩)
    · rintro v left r s' ⟨rfl, rfl, hl⟩
      obtain ⟨k', hv⟩ := hl v List.mem_cons_self
      refine wpAny_bind (quiet_key k' v 8 s' hv.1 hv.2 _ _ _ ?_)
      simp only [Bool.not_true, Bool.false_eq_true, if_false]
      exact wpAny_pure ⟨rfl, rfl, fun y hy => hl y (List.mem_cons_of_mem _ hy)⟩
    · rintro r s' ⟨rfl, rfl, _⟩
      exact wpAny_pure h
variable {d : Addr} {o : Obj} {es : Array DictEntry} {ep : Nat} {xs : List (NestedKey × Value × Value)} {k : NestedKey} {u : Value}
theorem nsize (he : es.toList = xs.map (nEntry w)) : es.size = xs.length := by rw [← Array.length_toList, he, List.length_map]
theorem nat_ (he : es.toList = xs.map (nEntry w)) (j : Nat) : es[j]? = (xs[j]?).map (nEntry w) := by rw [← Array.getElem?_toList, he, List.getElem?_map]
theorem nuniq (hn : (xs.map (·.1)).Nodup) {i j : Nat} {p q : Value × Value} (hi : xs[i]? = some (k, p)) (hj : xs[j]? = some (k, q)) : i = j := by
  refine nd_ix hn (x := k) ?_ ?_
  · rw [List.getElem?_map, hi]; rfl
  · rw [List.getElem?_map, hj]; rfl
/-- where the key stands: the loop over the places of its hash has gone up to i -/
def Gone (xs : List (NestedKey × Value × Value)) (k : NestedKey) (i : Nat) (hit : Option Nat) : Prop :=
  (hit = none ∧ ∀ (j : Nat) (p : Value × Value), j < i → xs[j]? ≠ some (k, p)) ∨ ∃ j p, hit = some j ∧ j < i ∧ xs[j]? = some (k, p)
theorem nplaces {i x : Nat} {left : List Nat} (he : es.toList = xs.map (nEntry w)) (hr : x :: left = (List.range' i (es.size - i)).filter (fun j => (es[j]?.map (·.hash)) == some (k.hash w))) (hi : i ≤ es.size) :
    i ≤ x ∧ x < es.size ∧ (∀ j p, i ≤ j → j < x → xs[j]? ≠ some (k, p)) ∧ left = (List.range' (x + 1) (es.size - (x + 1))).filter (fun j => (es[j]?.map (·.hash)) == some (k.hash w)) := by
  obtain ⟨h1, h2, _, h4, h5⟩ := filter_range'_cons _ _ _ _ _ hr.symm
  refine ⟨h1, by omega, fun j p z1 z2 z3 => ?_, ?_⟩
  · have := h4 j z1 z2
    rw [nat_ he j, z3] at this
    simp [nEntry] at this
  · rw [h5]; congr 2; omega
theorem nend {i : Nat} (he : es.toList = xs.map (nEntry w)) (hr : ([] : List Nat) = (List.range' i (es.size - i)).filter (fun j => (es[j]?.map (·.hash)) == some (k.hash w))) (hi : i ≤ es.size) : ∀ j p, i ≤ j → xs[j]? ≠ some (k, p) := by
  intro j p z1 z3
  have hj : j < xs.length := by
    apply Classical.byContradiction; intro z
    rw [List.getElem?_eq_none (by omega)] at z3; cases z3
  have hs := nsize he
  have := List.filter_eq_nil_iff.mp hr.symm j (List.mem_range'_1.mpr ⟨z1, by omega⟩)
  rw [nat_ he j, z3] at this
  simp [nEntry] at this
theorem nfind {Q : Option Nat → Shared → Prop} (hu : A.units + 8 < cLine) (hk : KIs s.heap k u) (hnr : u = .none ∨ ∃ a, u = .ref a)
    (ho : s.heap.get? d = some o) (hd : o.data = .dict es ep) (he : es.toList = xs.map (nEntry w)) (his : ∀ x ∈ xs, KIs s.heap x.1 x.2.1) (hn : (xs.map (·.1)).Nodup)
    (h0 : (∀ (j : Nat) (p : Value × Value), xs[j]? ≠ some (k, p)) → Q none s) (h1 : ∀ (j : Nat) (p : Value × Value), xs[j]? = some (k, p) → Q (some j) s) :
    wpAny (model prog w) A (dictFind d u (k.hash w)) Q E s := by
  have hsz := nsize he
  have hmem : ∀ e ∈ es, ∃ x ∈ xs, e = nEntry w x := by
    intro e hin
    have : e ∈ xs.map (nEntry w) := he ▸ Array.mem_toList_iff.mpr hin
    obtain ⟨x, hx, rfl⟩ := List.mem_map.mp this
    exact ⟨x, hx, rfl⟩
  have hst : ∀ v ∈ (placesWithHash es.size (fun i => es[i]?.map (·.hash)) (k.hash w)).filterMap (fun i => es[i]?.map (·.key)), ∃ k', KIs s.heap k' v := by
    intro v hv
    obtain ⟨i, _, hi⟩ := List.mem_filterMap.mp hv
    cases hei : es[i]? with
    | none => rw [hei] at hi; cases hi
    | some e =>
      rw [hei] at hi
      obtain rfl : e.key = v := by simpa using hi
      obtain ⟨x, hx, rfl⟩ := hmem e (Array.mem_of_getElem? hei)
      exact ⟨x.1, his x hx⟩
  have eqb : ∀ (x : NestedKey × Value × Value) (Q : Bool → Shared → Prop), x ∈ xs → Q (decide (x.1 = k)) s → wpAny (model prog w) A (eqBool x.2.1 u) Q E s := fun x Q hx q =>
    eqAt_key x.1 k A s _ _ (his x hx).1 hk.1 (by have := (his x hx).2; omega) _ _ _ _ (by rw [← NestedKey.decide_eq]; exact q)
  -- one place more
  have more : ∀ {i x : Nat} {hit : Option Nat} {q : Value × Value} {k' : NestedKey}, i ≤ x → (∀ (j : Nat) (p : Value × Value), i ≤ j → j < x → xs[j]? ≠ some (k, p)) → Gone xs k i hit → xs[x]? = some (k', q) → k' ≠ k → Gone xs k (x + 1) hit := by
    intro i x hit q k' hix hsk g hx hne
    rcases g with ⟨g0, g1⟩ | ⟨j, p, g0, g1, g2⟩
    · refine .inl ⟨g0, fun j p hj z => ?_⟩
      by_cases h1 : j < i
      · exact g1 j p h1 z
      · by_cases h2 : j < x
        · exact hsk j p (by omega) h2 z
        · obtain rfl : j = x := by omega
          rw [hx] at z
          cases z
          exact hne rfl
    · exact .inr ⟨j, p, g0, by omega, g2⟩
  have first : ∀ {i x : Nat} {hit : Option Nat} {q : Value × Value}, i ≤ x → (∀ (j : Nat) (p : Value × Value), i ≤ j → j < x → xs[j]? ≠ some (k, p)) → Gone xs k i hit → xs[x]? = some (k, q) → hit = none := by
    intro i x hit q hix hsk g hx
    rcases g with ⟨g0, g1⟩ | ⟨j, p, g0, g1, g2⟩
    · exact g0
    · have := nuniq hn g2 hx; omega
  have last : ∀ {i : Nat} {hit : Option Nat}, (∀ (j : Nat) (p : Value × Value), i ≤ j → xs[j]? ≠ some (k, p)) → Gone xs k i hit → Q hit s := by
    intro i hit hsk g
    rcases g with ⟨rfl, g1⟩ | ⟨j, p, rfl, g1, g2⟩
    · refine h0 fun j p z => ?_
      by_cases h1 : j < i
      · exact g1 j p h1 z
      · exact hsk j p (by omega) z
    · exact h1 j p g2
  have at_ : ∀ {x : Nat}, x < es.size → ∃ (k' : NestedKey) (q : Value × Value), xs[x]? = some (k', q) ∧ es[x]? = some (nEntry w (k', q)) := by
    intro x hx
    have hx' : x < xs.length := by omega
    refine ⟨xs[x].1, xs[x].2, List.getElem?_eq_getElem hx', ?_⟩
    rw [nat_ he x, List.getElem?_eq_getElem hx']
    rfl
  have start : placesWithHash es.size (fun i => es[i]?.map (·.hash)) (k.hash w) = (List.range' 0 (es.size - 0)).filter (fun j => (es[j]?.map (·.hash)) == some (k.hash w)) := by
    rw [placesWithHash, List.range_eq_range', Nat.sub_zero]
  have g0 : Gone xs k 0 none := .inl ⟨rfl, fun j p z => absurd z (Nat.not_lt_zero j)⟩
  generalize hS : (placesWithHash es.size (fun i => es[i]?.map (·.hash)) (k.hash w)).filterMap (fun i => es[i]?.map (·.key)) = S at hst
  have plain : wpAny (model prog w) A (dictWalkPlain d u (k.hash w) es (placesWithHash es.size (fun i => es[i]?.map (·.hash)) (k.hash w))) Q E s := by
    unfold dictWalkPlain
    rw [start]
    refine wpAny_bind (wpAny_forIn_list _ (fun left r s' => r = (none, ()) ∧ s' = s ∧ ∃ i, i ≤ es.size ∧ Gone xs k i none ∧ left = (List.range' i (es.size - i)).filter (fun j => (es[j]?.map (·.hash)) == some (k.hash w))) _ ?_ ?_ _ _ ⟨rfl, rfl, 0, Nat.zero_le _, g0, rfl⟩)
    · rintro x left r s' ⟨rfl, rfl, i, hi, g, hr⟩
      obtain ⟨z1, z2, z3, z4⟩ := nplaces he hr hi
      obtain ⟨k', q, hx, hex⟩ := at_ z2
      simp only [hex, nEntry]
      by_cases hh : (k'.hash w == k.hash w) = true
      · rw [if_pos hh]
        refine wpAny_bind (wpAny_dictEpoch ho hd (wpAny_bind (eqb (k', q) _ (List.mem_of_getElem? hx) (wpAny_bind (wpAny_dictEpoch ho hd ?_)))))
        rw [if_neg (by simp)]
        by_cases hkk : k' = k
        · subst hkk
          simp only [decide_true, if_true]
          exact wpAny_bind (wpAny_rule (wpAny_pure (wpAny_pure (h1 x q hx))))
        · simp only [decide_eq_false hkk, Bool.false_eq_true, if_false]
          exact wpAny_bind (wpAny_rule (wpAny_pure ⟨rfl, rfl, x + 1, z2, more z1 z3 g hx hkk, z4⟩))
      · rw [if_neg hh]
        exact wpAny_pure ⟨rfl, rfl, x + 1, z2, more z1 z3 g hx (fun e => hh (by rw [e]; simp)), z4⟩
    · rintro r s' ⟨rfl, rfl, i, hi, g, hr⟩
      exact wpAny_pure (last (nend he hr hi) g)
  have hany : ∀ a, u = .ref a → ¬ (es.any fun e => e.key == Value.ref a && e.hash != k.hash w) = true := by
    rintro a rfl z
    rw [← Array.any_toList, List.any_eq_true] at z
    obtain ⟨e, hin, hc⟩ := z
    obtain ⟨x, hx, rfl⟩ := hmem e (Array.mem_toList_iff.mp hin)
    simp only [nEntry, Bool.and_eq_true, beq_iff_eq, bne_iff_ne, ne_eq] at hc
    have := (his x hx).1
    rw [hc.1] at this
    exact hc.2 (by rw [NestedIs.inj _ _ _ this hk.1])
  unfold dictFind
  refine wpAny_holding (wpAny_bind (wpAny_dictEntries ho hd ?_))
  rcases hnr with rfl | ⟨a, rfl⟩ <;> dsimp only <;> rw [hS]
  case' inl =>
    by_cases hc : ((Value.none :: S).all carriedByValue) = true
    · rw [if_pos hc]; exact plain
    rw [if_neg hc]
  case' inr =>
    rw [if_neg (by simp [carriedByValue]), if_neg (hany a rfl)]
  all_goals (
    rw [start]
    split
    all_goals (
      first | refine wpAny_bind (wpAny_pure ?_) | refine wpAny_bind (mayTell_no hk hst ?_)
      simp only [Bool.false_and, Bool.false_eq_true, if_false]
      refine wpAny_bind (wpAny_forIn_list _ (fun left r s' => s' = s ∧ ∃ i hit, r = (none, hit) ∧ i ≤ es.size ∧ Gone xs k i hit ∧ left = (List.range' i (es.size - i)).filter (fun j => (es[j]?.map (·.hash)) == some (k.hash w))) _ ?_ ?_ _ _ ⟨rfl, 0, none, rfl, Nat.zero_le _, g0, rfl⟩)
      · rintro x left r s' ⟨rfl, i, hit, rfl, hi, g, hr⟩
        obtain ⟨z1, z2, z3, z4⟩ := nplaces he hr hi
        obtain ⟨k', q, hx, hex⟩ := at_ z2
        simp only [hex, nEntry]
        by_cases hh : (k'.hash w == k.hash w) = true
        · rw [if_pos hh]
          refine wpAny_bind (wpAny_dictEpoch ho hd (wpAny_bind (eqb (k', q) _ (List.mem_of_getElem? hx) (wpAny_bind (wpAny_dictEpoch ho hd ?_)))))
          rw [if_neg (by simp)]
          by_cases hkk : k' = k
          · subst hkk
            obtain rfl := first z1 z3 g hx
            simp only [decide_true, if_true, Option.isSome_none, Bool.false_eq_true, if_false]
            refine wpAny_bind (wpAny_rule ?_)
            split
            · exact wpAny_pure (wpAny_pure (h1 x q hx))
            · exact wpAny_pure ⟨rfl, x + 1, some x, rfl, z2, .inr ⟨x, q, rfl, Nat.lt_succ_self x, hx⟩, z4⟩
          · simp only [decide_eq_false hkk, Bool.false_eq_true, if_false]
            refine wpAny_bind (wpAny_rule ?_)
            exact wpAny_pure ⟨rfl, x + 1, hit, rfl, z2, more z1 z3 g hx hkk, z4⟩
        · rw [if_neg hh]
          exact wpAny_pure ⟨rfl, x + 1, hit, rfl, z2, more z1 z3 g hx (fun e => hh (by rw [e]; simp)), z4⟩
      · rintro r s' ⟨rfl, i, hit, rfl, hi, g, hr⟩
        exact wpAny_pure (last (nend he hr hi) g)))
end
end CP
/-! HKm -/
namespace CP
open PySem PySem.Spec PyProof.Rows L2
section
variable {prog : Program} {w : World} {A : Around} {E : Value → Shared → Prop} {s : Shared}
def NDict (w : World) (h : Heap) (d : Addr) (xs : List (NestedKey × Value × Value)) : Prop :=
  ∃ o es ep, h.get? d = some o ∧ o.ExactDict ∧ o.data = .dict es ep ∧ es.toList = xs.map (nEntry w) ∧ (xs.map (·.1)).Nodup
theorem NDict.typeIs {d : Addr} {xs : List (NestedKey × Value × Value)} (h : NDict w s.heap d xs) : s.TypeIs (.ref d) "dict" := by
  obtain ⟨o, _, _, h1, h2, _⟩ := h
  exact ⟨o, h1, h2.1⟩
theorem NDict.bare {d : Addr} {xs : List (NestedKey × Value × Value)} (h : NDict w s.heap d xs) : ∀ b, Value.ref d = .ref b → ∃ ob, s.heap.get? b = some ob ∧ ob.dict = none := by
  obtain ⟨o, _, _, h1, h2, _⟩ := h
  intro b e
  cases e
  exact ⟨o, h1, h2.2.1⟩
/-- the key's place gets v; a new key goes to the end -/
def NPut (xs : List (NestedKey × Value × Value)) (k : NestedKey) (u v : Value) (xs' : List (NestedKey × Value × Value)) : Prop :=
  (∃ (j : Nat) (p : Value × Value), xs[j]? = some (k, p) ∧ xs' = xs.set j (k, p.1, v)) ∨ ((∀ (j : Nat) (p : Value × Value), xs[j]? ≠ some (k, p)) ∧ xs' = xs ++ [(k, u, v)])
variable {d : Addr} {xs : List (NestedKey × Value × Value)} {k : NestedKey} {u : Value}
theorem ndictGet {Q : Option Value → Shared → Prop} (hu : A.units + 8 < cLine) (hk : KIs s.heap k u) (hnr : u = .none ∨ ∃ a, u = .ref a) (hm : NDict w s.heap d xs) (his : ∀ x ∈ xs, KIs s.heap x.1 x.2.1)
    (h0 : (∀ (j : Nat) (p : Value × Value), xs[j]? ≠ some (k, p)) → Q none { s with toks := s.toks + k.draws }) (h1 : ∀ (j : Nat) (p : Value × Value), xs[j]? = some (k, p) → Q (some p.2) { s with toks := s.toks + k.draws }) :
    wpAny (model prog w) A (dictGet d u) Q E s := by
  obtain ⟨o, es, ep, ho, _, hd, he, hn⟩ := hm
  unfold dictGet
  refine wpAny_holding (wpAny_bind (pyHash_key k u A s _ hk.1 (by have := hk.2; omega) (wpAny_bind (nfind (s := { s with toks := s.toks + k.draws }) hu hk hnr ho hd he his hn (fun z => wpAny_pure (h0 z)) fun j p hj => ?_))))
  refine wpAny_bind (wpAny_dictEntries (s := { s with toks := s.toks + k.draws }) ho hd ?_)
  rw [nat_ he j, hj]
  exact wpAny_pure (h1 j p hj)
theorem ndictSet {v : Value} {Q : Unit → Shared → Prop} (hu : A.units + 8 < cLine) (hk : KIs s.heap k u) (hnr : u = .none ∨ ∃ a, u = .ref a) (hm : NDict w s.heap d xs) (his : ∀ x ∈ xs, KIs s.heap x.1 x.2.1) (hz : xs.length ≤ sizeLine)
    (hQ : ∀ h' xs', NPut xs k u v xs' → NDict w h' d xs' → Heap.SameBut d s.heap h' → Q () { s with heap := h', toks := s.toks + k.draws }) :
    wpAny (model prog w) A (dictSet d u v) Q E s := by
  obtain ⟨o, es, ep, ho, hx, hd, he, hn⟩ := hm
  unfold dictSet
  refine wpAny_holding (wpAny_bind (pyHash_key k u A s _ hk.1 (by have := hk.2; omega) ?_))
  unfold dictSetHashed
  refine wpAny_holding (wpAny_bind (nfind (s := { s with toks := s.toks + k.draws }) hu hk hnr ho hd he his hn (fun z => ?_) fun j p hj => ?_))
  · refine wpAny_bind (wpAny_rule (wpAny_updateDictKeys (hz := by rw [nsize he]; exact hz) (s := { s with toks := s.toks + k.draws }) ho hd (hQ _ (xs ++ [(k, u, v)]) (.inr ⟨z, rfl⟩) ⟨_, _, ep + 1, Heap.get?_update_self _ ho (Obj.isFreed_of_dict (Obj.data_mapDictKeys hd _)), hx.mapDictKeys _, Obj.data_mapDictKeys hd _, ?_, ?_⟩ (Heap.SameBut.update ..))))
    · rw [Array.toList_push, he, List.map_append]; rfl
    · rw [List.map_append]
      refine List.nodup_append.mpr ⟨hn, by simp, fun a ha b hb e => ?_⟩
      obtain rfl : b = k := by simpa using hb
      subst e
      obtain ⟨y, hy, rfl⟩ := List.mem_map.mp ha
      obtain ⟨j, hj⟩ := List.mem_iff_getElem?.mp hy
      exact z j y.2 hj
  · refine wpAny_bind (wpAny_rule (wpAny_bind (wpAny_updateDict (s := { s with toks := s.toks + k.draws }) ho hd (wpAny_point (hQ _ (xs.set j (k, p.1, v)) (.inl ⟨j, p, hj, rfl⟩) ⟨_, _, ep, Heap.get?_update_self _ ho (Obj.isFreed_of_dict (Obj.data_mapDict hd _)), hx.mapDict _, Obj.data_mapDict hd _, ?_, ?_⟩ (Heap.SameBut.update ..))))))
    · rw [Array.toList_modify, he]
      refine List.ext_getElem? fun i => ?_
      rw [List.getElem?_modify, List.getElem?_map, List.getElem?_map, List.getElem?_set]
      by_cases hij : j = i
      · subst hij
        have hl : j < xs.length := (List.getElem?_eq_some_iff.mp hj).1
        rw [if_pos rfl, if_pos hl, hj]
        simp [nEntry]
      · rw [if_neg hij]
        cases hxi : xs[i]? with
        | none => rfl
        | some q => simp [hij]
    · have e : (xs.set j (k, p.1, v)).map (·.1) = xs.map (·.1) := by
        refine List.ext_getElem? fun i => ?_
        rw [List.getElem?_map, List.getElem?_map, List.getElem?_set]
        by_cases hij : j = i
        · subst hij
          have hl : j < xs.length := (List.getElem?_eq_some_iff.mp hj).1
          rw [if_pos rfl, if_pos hl, hj]; rfl
        · rw [if_neg hij]
      rw [e]; exact hn
theorem nget_item {Q : Value → Shared → Prop} (hu : A.units + 9 < cLine) (hk : KIs s.heap k u) (hnr : u = .none ∨ ∃ a, u = .ref a) (hm : NDict w s.heap d xs) (his : ∀ x ∈ xs, KIs s.heap x.1 x.2.1)
    (h0 : ∃ (j : Nat) (p : Value × Value), xs[j]? = some (k, p)) (h1 : ∀ (j : Nat) (p : Value × Value), xs[j]? = some (k, p) → Q p.2 { s with toks := s.toks + k.draws }) :
    wpAny (model prog w) A (getItem (.ref d) u) Q E s := by
  unfold getItem
  refine wpAny_holding (wpAny_bind (wpAny_sequenceKey hm.typeIs (by decide) ?_))
  refine wpAny_bind (wpAny_callSpecial?_slot (name := Str.ofString "__getitem__") hm.typeIs slot_dict_getitem (wpAny_call_entry slot_dict_getitem hm.typeIs entry_dict_getitem ?_ (args_dict_getitem _ _)))
  show wpAny _ _ (dictGet d u >>= _) _ _ s
  refine wpAny_bind (ndictGet (by show A.units + 1 + 8 < cLine; omega) hk hnr hm his (fun z => ?_) fun j p hj => ?_)
  · obtain ⟨j, p, hj⟩ := h0
    exact absurd hj (z j p)
  · exact wpAny_pure ⟨p.2, rfl, wpAny_pure (h1 j p hj)⟩
theorem nset_item {v : Value} {Q : Unit → Shared → Prop} (hu : A.units + 9 < cLine) (hk : KIs s.heap k u) (hnr : u = .none ∨ ∃ a, u = .ref a) (hm : NDict w s.heap d xs) (his : ∀ x ∈ xs, KIs s.heap x.1 x.2.1) (hz : xs.length ≤ sizeLine)
    (hQ : ∀ h' xs', NPut xs k u v xs' → NDict w h' d xs' → Heap.SameBut d s.heap h' → Q () { s with heap := h', toks := s.toks + k.draws }) :
    wpAny (model prog w) A (setItem (.ref d) u v) Q E s := by
  unfold setItem
  refine wpAny_holding (wpAny_bind (wpAny_sequenceKey hm.typeIs (by decide) ?_))
  refine wpAny_bind (wpAny_callSpecial?_slot (name := Str.ofString "__setitem__") hm.typeIs slot_dict_setitem (wpAny_call_entry slot_dict_setitem hm.typeIs entry_dict_setitem ?_ (args_dict_setitem _ _ _)))
  refine wpAny_bind (wpAny_notOrdered_dict hm.typeIs ?_)
  show wpAny _ _ (dictSet d u v >>= _) _ _ s
  exact wpAny_bind (ndictSet (by show A.units + 1 + 8 < cLine; omega) hk hnr hm his hz fun h' xs' n m sb => wpAny_pure ⟨.none, rfl, wpAny_pure (hQ h' xs' n m sb)⟩)
theorem ncall_get {r : Value} {Q : Value → Shared → Prop} (hu : A.units + 9 < cLine) (hs : (d == sysModules) = false) (hk : KIs s.heap k u) (hnr : u = .none ∨ ∃ a, u = .ref a) (hm : NDict w s.heap d xs) (his : ∀ x ∈ xs, KIs s.heap x.1 x.2.1)
    (h0 : (∀ (j : Nat) (p : Value × Value), xs[j]? ≠ some (k, p)) → Q r { s with toks := s.toks + k.draws }) (h1 : ∀ (j : Nat) (p : Value × Value), xs[j]? = some (k, p) → Q p.2 { s with toks := s.toks + k.draws }) :
    wpAny (model prog w) A (call (.builtin "dict.get") [.ref d, u, r]) Q E s := by
  have M : MeetsIn prog w (Builtin.«dict.get» ⟨[.ref d, u, r], []⟩) (fun A R s => A.units + 9 < cLine ∧ KIs s.heap k u ∧ NDict w s.heap d xs ∧ (∀ x ∈ xs, KIs s.heap x.1 x.2.1) ∧
      ((∀ (j : Nat) (p : Value × Value), xs[j]? ≠ some (k, p)) → R (.ok (.ret r)) { s with toks := s.toks + k.draws }) ∧ ∀ (j : Nat) (p : Value × Value), xs[j]? = some (k, p) → R (.ok (.ret p.2)) { s with toks := s.toks + k.draws }) :=
    .of_wp fun A R s ⟨m1, m2, m3, m4, m5, m6⟩ => by
      show wpAny _ _ (dictGet d u >>= _) _ _ s
      refine wpAny_bind (ndictGet (by show A.units + 1 + 8 < cLine; omega) m2 hnr m3 m4 (fun z => ?_) fun j p hj => ?_)
      · show wpAny _ _ (Builtin.Dict.missed d u >>= _) _ _ _
        exact wpAny_bind (wpAny_missed_other hs (wpAny_pure ⟨r, rfl, m5 z⟩))
      · exact wpAny_pure ⟨p.2, rfl, m6 j p hj⟩
  exact call_meetsIn PySem.F.slot_dict_get hm.typeIs PySem.F.entry_dict_get (PySem.F.args_dict_get_3 _ _ _) M ⟨hu, hk, hm, his, h0, h1⟩
end
end CP
/-! HKo -/
namespace CP
open PySem PySem.Spec PyProof.Rows L2
abbrev BKey := Option (List L2.Key)
/-- a key with where its tuple stands -/
abbrev PKey := Option (Addr × List L2.Key)
def pk (p : PKey) : BKey := p.map (·.2)
def nk1 : L2.Key → NestedKey
  | .inl i => .num i
  | .inr x => .text x
def nk : BKey → NestedKey
  | none => .none
  | some ks => .tup (ks.map nk1)
def pv_ : PKey → Value
  | none => .none
  | some (b, _) => .ref b
theorem nk1_inj : ∀ {a b : L2.Key}, nk1 a = nk1 b → a = b
  | .inl _, .inl _, h => by injection h with h; rw [h]
  | .inr _, .inr _, h => by injection h with h; rw [h]
  | .inl _, .inr _, h => nomatch h
  | .inr _, .inl _, h => nomatch h
theorem map_nk1_inj : ∀ {a b : List L2.Key}, a.map nk1 = b.map nk1 → a = b
  | [], [], _ => rfl
  | [], _ :: _, h => nomatch h
  | _ :: _, [], h => nomatch h
  | x :: a, y :: b, h => by
    injection h with h1 h2
    rw [nk1_inj h1, map_nk1_inj h2]
theorem nk_inj : ∀ {a b : BKey}, nk a = nk b → a = b
  | none, none, _ => rfl
  | none, some _, h => nomatch h
  | some _, none, h => nomatch h
  | some a, some b, h => by
    unfold nk at h
    injection h with h
    rw [map_nk1_inj h]
theorem depth_all : ∀ (ks : List L2.Key), NestedKey.depthAll (ks.map nk1) = 0
  | [] => rfl
  | .inl _ :: ks => by rw [List.map_cons, NestedKey.depthAll, depth_all ks]; rfl
  | .inr _ :: ks => by rw [List.map_cons, NestedKey.depthAll, depth_all ks]; rfl
theorem depth_nk : ∀ (k : BKey), (nk k).depth ≤ 8
  | none => Nat.zero_le _
  | some ks => by
    unfold nk
    rw [NestedKey.depth, depth_all]
    omega
/-- y is the key k -/
def KeyRel (H : Hp) (p : PKey) (y : V) : Prop := match p with
  | none => y = .non
  | some (b, ks) => y = .ref b ∧ H b = some (.tup (ks.map kV))
def ent (w : World) (e : PKey × Int) (x : NestedKey × Value × Value) : Prop := x.1 = nk (pk e.1) ∧ x.2.1 = pv_ e.1 ∧ ∃ t, x.2.2 = .int e.2 t
/-- the dict's object -/
def NDO (w : World) (a : Addr) (es : List (PKey × Int)) : HO := .ext fun h => (a == sysModules) = false ∧ es.length ≤ sizeLine ∧ ∃ xs, Paired (ent w) es xs ∧ NDict w h a xs
def Tups (H : Hp) (es : List (PKey × Int)) : Prop := ∀ e ∈ es, ∀ b ks, e.1 = some (b, ks) → H b = some (.tup (ks.map kV))
def vN_ (es : List (PKey × Int)) (k : BKey) : Option Int := (es.find? fun e => decide (pk e.1 = k)).map (·.2)
/-- the dict at a answers f; it has n keys at most -/
def NDAt (w : World) (H : Hp) (a : Addr) (f : BKey → Option Int) (n : Nat) : Prop := ∃ es, H a = some (NDO w a es) ∧ Tups H es ∧ (∀ k, vN_ es k = f k) ∧ es.length ≤ n
theorem NDAt.same {w : World} {H H' : Hp} {a : Addr} {f : BKey → Option Int} {n : Nat} (h : NDAt w H a f n) (s : Same H H') : NDAt w H' a f n := by
  obtain ⟨es, h1, h2, h3⟩ := h
  exact ⟨es, s _ _ h1, fun e he b ks q => s _ _ (h2 e he b ks q), h3⟩
theorem NDAt.other {w : World} {H : Hp} {a p : Addr} {f : BKey → Option Int} {n : Nat} {xs : List V} {o : HO} (h : NDAt w H a f n) (hp : H p = some (.lst xs)) : NDAt w (upd H p o) a f n := by
  obtain ⟨es, h1, h2, h3⟩ := h
  refine ⟨es, ?_, fun e he b ks q => ?_, h3⟩
  · rw [upd_ne (ne_of h1 hp (fun z => nomatch z))]; exact h1
  · rw [upd_ne (ne_of (h2 e he b ks q) hp (fun z => nomatch z))]; exact h2 e he b ks q
theorem paired_at {α β : Type} {R : α → β → Prop} : ∀ {l : List α} {m : List β}, Paired R l m → ∀ (i : Nat), (∀ x, l[i]? = some x → ∃ y, m[i]? = some y ∧ R x y) ∧ (∀ y, m[i]? = some y → ∃ x, l[i]? = some x ∧ R x y)
  | _, _, .nil, i => ⟨fun x h => by simp at h, fun x h => by simp at h⟩
  | _, _, .cons (a := a) (b := b) r t, 0 => ⟨fun x h => ⟨b, rfl, by simp at h; exact h ▸ r⟩, fun x h => ⟨a, rfl, by simp at h; exact h ▸ r⟩⟩
  | _, _, .cons r t, i + 1 => by simpa using paired_at t i
theorem paired_set {α β : Type} {R : α → β → Prop} {x : α} {y : β} (r : R x y) : ∀ {l : List α} {m : List β} (i : Nat), Paired R l m → Paired R (l.set i x) (m.set i y)
  | _, _, _, .nil => .nil
  | _, _, 0, .cons _ t => .cons r t
  | _, _, i + 1, .cons q t => .cons q (paired_set r i t)
theorem paired_push {α β : Type} {R : α → β → Prop} {x : α} {y : β} (r : R x y) : ∀ {l : List α} {m : List β}, Paired R l m → Paired R (l ++ [x]) (m ++ [y])
  | _, _, .nil => .cons r .nil
  | _, _, .cons q t => .cons q (paired_push r t)
section
variable {P : Program} {w : World} {H : Hp} {h : Heap} {a : Addr}
theorem kis_tup {ks : List L2.Key} {b : Addr} (ok : HOk P w H h) (e : H b = some (.tup (ks.map kV))) : NestedIs h (.tup (ks.map nk1)) (.ref b) := by
  obtain ⟨_, its, r, o, h1, h2, n, h3⟩ := (show ObjOk P w H h b (.tup (ks.map kV)) from ok b _ e)
  refine .tup h1 h2 h3 ?_
  have all : ∀ {ks : List L2.Key} {its : List Value}, Vals (ks.map kV) its → NestedAll h (ks.map nk1) its := by
    intro ks
    induction ks with
    | nil => intro its r; cases r; exact .nil
    | cons k ks ih =>
      intro its r
      cases r with
      | cons q t =>
        refine .cons ?_ (ih t)
        cases k with
        | inl i => obtain ⟨t, rfl⟩ := (show ∃ t, _ = Value.int i t from q); exact .int i t
        | inr x => obtain ⟨t, rfl⟩ := (show ∃ t, _ = Value.str x t from q); exact .text x t
  simpa using all r
theorem kis_of {p : PKey} {y : V} {u : Value} (ok : HOk P w H h) (q : KeyRel H p y) (r : RelV y u) : KIs h (nk (pk p)) u ∧ (u = .none ∨ ∃ a, u = .ref a) ∧ u = pv_ p := by
  cases p with
  | none =>
    obtain rfl : y = .non := q
    obtain rfl : u = .none := r
    exact ⟨⟨.none, Nat.zero_le _⟩, .inl rfl, rfl⟩
  | some bk =>
    obtain ⟨b, ks⟩ := bk
    obtain ⟨rfl, e⟩ := (show y = .ref b ∧ H b = some (.tup (ks.map kV)) from q)
    obtain rfl : u = .ref b := r
    exact ⟨⟨kis_tup ok e, depth_nk _⟩, .inr ⟨b, rfl⟩, rfl⟩
theorem kis_all {es : List (PKey × Int)} {xs : List (NestedKey × Value × Value)} (ok : HOk P w H h) (tu : Tups H es) (pr : Paired (ent w) es xs) : ∀ x ∈ xs, KIs h x.1 x.2.1 := by
  intro x hx
  obtain ⟨i, hi⟩ := List.mem_iff_getElem?.mp hx
  obtain ⟨e, he, e1, e2, _⟩ := (paired_at pr i).2 x hi
  rw [e1, e2]
  have hm := List.mem_of_getElem? he
  cases q : e.1 with
  | none => exact ⟨.none, Nat.zero_le _⟩
  | some bk =>
    obtain ⟨b, ks⟩ := bk
    exact ⟨kis_tup ok (tu e hm b ks q), depth_nk _⟩
theorem vN_none {es : List (PKey × Int)} {k : BKey} (hn : ∀ (j : Nat) (e : PKey × Int), es[j]? = some e → pk e.1 ≠ k) : vN_ es k = none := by
  unfold vN_
  rw [Option.map_eq_none_iff, List.find?_eq_none]
  intro e he
  obtain ⟨j, hj⟩ := List.mem_iff_getElem?.mp he
  simpa using hn j e hj
theorem vN_some : ∀ {es : List (PKey × Int)} {k : BKey} {j : Nat} {e : PKey × Int}, (es.map fun e => pk e.1).Nodup → es[j]? = some e → pk e.1 = k → vN_ es k = some e.2
  | [], _, _, _, _, h, _ => by simp at h
  | x :: es, k, 0, e, _, h, q => by
    simp at h; subst h
    simp [vN_, q]
  | x :: es, k, j + 1, e, hn, h, q => by
    simp only [List.getElem?_cons_succ] at h
    rw [List.map_cons, List.nodup_cons] at hn
    have ne : pk x.1 ≠ k := fun z => hn.1 (List.mem_map.mpr ⟨e, List.mem_of_getElem? h, by rw [q, z]⟩)
    have := vN_some hn.2 h q
    unfold vN_ at this ⊢
    rw [List.find?_cons_of_neg (by simpa using ne)]
    exact this
theorem nodup_pk {es : List (PKey × Int)} {xs : List (NestedKey × Value × Value)} (pr : Paired (ent w) es xs) (hn : (xs.map (·.1)).Nodup) : (es.map fun e => pk e.1).Nodup := by
  have e : (es.map fun e => pk e.1).map nk = xs.map (·.1) := by
    clear hn
    induction pr with
    | nil => rfl
    | cons r _ ih => simp only [List.map_cons, ih, r.1]
  rw [← e] at hn
  exact List.Pairwise.of_map nk (fun a b h e => h (by rw [e])) hn
/-- f with k at i -/
def fset (f : BKey → Option Int) (k : BKey) (i : Int) : BKey → Option Int := fun x => if x = k then some i else f x
theorem nd_put {es : List (PKey × Int)} {xs xs' : List (NestedKey × Value × Value)} {p : PKey} {i : Int} {t : Tok} (pr : Paired (ent w) es xs) (hn : (xs.map (·.1)).Nodup) (hp : NPut xs (nk (pk p)) (pv_ p) (.int i t) xs') :
    ∃ es', Paired (ent w) es' xs' ∧ es'.length ≤ es.length + 1 ∧ (∀ H : Hp, Tups H es → (∀ b ks, p = some (b, ks) → H b = some (.tup (ks.map kV))) → Tups H es') ∧ ∀ k, vN_ es' k = fset (vN_ es) (pk p) i k := by
  have nd := nodup_pk pr hn
  rcases hp with ⟨j, q, hj, rfl⟩ | ⟨hno, rfl⟩
  · obtain ⟨e, he, e1, e2, t2, e3⟩ := (paired_at pr j).2 _ hj
    have ek : pk e.1 = pk p := (nk_inj e1).symm
    refine ⟨es.set j (e.1, i), paired_set ⟨e1, e2, t, rfl⟩ j pr, by rw [List.length_set]; omega, fun H tu _ e' he' b ks z => ?_, fun k => ?_⟩
    · rcases List.mem_or_eq_of_mem_set he' with h | h
      · exact tu e' h b ks z
      · subst h
        exact tu e (List.mem_of_getElem? he) b ks z
    · have hl : j < es.length := (List.getElem?_eq_some_iff.mp he).1
      have em : (es.set j (e.1, i)).map (fun e => pk e.1) = es.map fun e => pk e.1 := by
        refine List.ext_getElem? fun m => ?_
        rw [List.getElem?_map, List.getElem?_map, List.getElem?_set]
        by_cases hjm : j = m
        · subst hjm
          rw [if_pos rfl, if_pos hl, he]; rfl
        · rw [if_neg hjm]
      have nd' : ((es.set j (e.1, i)).map fun e => pk e.1).Nodup := by rw [em]; exact nd
      unfold fset
      by_cases hk : k = pk p
      · rw [if_pos hk]
        exact vN_some (j := j) (e := (e.1, i)) nd' (by rw [List.getElem?_set, if_pos rfl, if_pos hl]) (ek.trans hk.symm)
      · rw [if_neg hk]
        by_cases ex : ∃ (m : Nat) (e' : PKey × Int), es[m]? = some e' ∧ pk e'.1 = k
        · obtain ⟨m, e', h1, h2⟩ := ex
          have hjm : ¬ j = m := by
            rintro rfl
            rw [he] at h1; cases h1
            exact hk (h2.symm.trans ek)
          rw [vN_some nd h1 h2]
          exact vN_some (j := m) nd' (by rw [List.getElem?_set, if_neg hjm]; exact h1) h2
        · rw [vN_none (es := es) fun m e' h1 h2 => ex ⟨m, e', h1, h2⟩]
          refine vN_none fun m e' h1 h2 => ?_
          rw [List.getElem?_set] at h1
          by_cases hjm : j = m
          · rw [if_pos hjm, if_pos hl] at h1
            cases h1
            exact hk (h2.symm.trans ek)
          · rw [if_neg hjm] at h1
            exact ex ⟨m, e', h1, h2⟩
  · refine ⟨es ++ [(p, i)], paired_push ⟨rfl, rfl, t, rfl⟩ pr, by rw [List.length_append]; exact Nat.le_refl _, fun H tu tp e' he' b ks z => ?_, fun k => ?_⟩
    · rcases List.mem_append.mp he' with h | h
      · exact tu e' h b ks z
      · obtain rfl : e' = (p, i) := by simpa using h
        exact tp b ks z
    · have no : ∀ (m : Nat) (e' : PKey × Int), es[m]? = some e' → pk e'.1 ≠ pk p := by
        intro m e' h1 h2
        obtain ⟨x, hx, x1, _⟩ := (paired_at pr m).1 e' h1
        rw [h2] at x1
        exact hno m x.2 (by rw [hx, ← x1])
      unfold fset vN_
      rw [List.find?_append]
      by_cases hk : k = pk p
      · subst hk
        have := vN_none no
        unfold vN_ at this
        rw [Option.map_eq_none_iff] at this
        rw [this, if_pos rfl]
        simp
      · rw [if_neg hk]
        cases q : es.find? (fun e => decide (pk e.1 = k)) with
        | some e' => rfl
        | none =>
          have : ¬ pk p = k := fun z => hk z.symm
          simp [this]
/-- what the heap has of it -/
theorem nd_at {f : BKey → Option Int} {n : Nat} (ok : HOk P w H h) (x : NDAt w H a f n) : ∃ es xs, H a = some (NDO w a es) ∧ Tups H es ∧ (∀ k, vN_ es k = f k) ∧ es.length ≤ n ∧ (a == sysModules) = false ∧ es.length ≤ sizeLine ∧ Paired (ent w) es xs ∧ NDict w h a xs ∧ ∀ x ∈ xs, KIs h x.1 x.2.1 := by
  obtain ⟨es, h1, h2, h3, h4⟩ := x
  obtain ⟨⟨z1, z2, xs, z3, z4⟩, _⟩ := (show ObjOk P w H h a (NDO w a es) from ok a _ h1)
  exact ⟨es, xs, h1, h2, h3, h4, z1, z2, z3, z4, kis_all ok h2 z3⟩
theorem nd_find {es : List (PKey × Int)} {xs : List (NestedKey × Value × Value)} {k : BKey} {j : Nat} {p : Value × Value} (pr : Paired (ent w) es xs) (hn : (xs.map (·.1)).Nodup) (hj : xs[j]? = some (nk k, p)) : ∃ i t, vN_ es k = some i ∧ p.2 = .int i t := by
  obtain ⟨e, he, e1, e2, t, e3⟩ := (paired_at pr j).2 _ hj
  exact ⟨e.2, t, vN_some (nodup_pk pr hn) he (nk_inj e1).symm, e3⟩
theorem nd_miss {es : List (PKey × Int)} {xs : List (NestedKey × Value × Value)} {k : BKey} (pr : Paired (ent w) es xs) (hno : ∀ (j : Nat) (p : Value × Value), xs[j]? ≠ some (nk k, p)) : vN_ es k = none := by
  refine vN_none fun m e h1 h2 => ?_
  obtain ⟨x, hx, x1, _⟩ := (paired_at pr m).1 e h1
  rw [h2] at x1
  exact hno m x.2 (by rw [hx, ← x1])
theorem NDict.nodup {xs : List (NestedKey × Value × Value)} (x : NDict w h a xs) : (xs.map (·.1)).Nodup := by
  obtain ⟨_, _, _, _, _, _, _, h⟩ := x
  exact h
end
/-! ### the hand's rules -/
def oI : Option Int → V → V
  | some i, _ => .int i
  | none, z => z
def tDNewN (w : World) : TE := fun _ H Q => ∀ p, H p = none → (∀ o, NDAt w (upd H p o) p (fun _ => none) 0 → Q (.ref p) (upd H p o))
def tDGet2N (w : World) (td ty tx : TE) : TE := fun σ H Q => td σ H fun x H1 => ∃ a f1 n1, x = .ref a ∧ NDAt w H1 a f1 n1 ∧ ty σ H1 fun y H2 => tx σ H2 fun z H3 => ∃ f n p, NDAt w H3 a f n ∧ KeyRel H3 p y ∧ Q (oI (f (pk p)) z) H3
def sDPutN (w : World) (td ty tv : TE) : TS := fun D σ H => tv σ H fun v H1 => td σ H1 fun x H2 => ty σ H2 fun y H3 => ∃ a f n p i, x = .ref a ∧ v = .int i ∧ NDAt w H3 a f n ∧ n < sizeLine ∧ KeyRel H3 p y ∧
  ∀ o, NDAt w (upd H3 a o) a (fset f (pk p) i) (n + 1) → D.nx σ (upd H3 a o)
def sDAugN (w : World) (td ty tv : TE) (rd : V → V → Hp → VK → Prop) : TS := fun D σ H => td σ H fun x H1 => ty σ H1 fun y H2 => ∃ a f n p i, x = .ref a ∧ NDAt w H2 a f n ∧ KeyRel H2 p y ∧ f (pk p) = some i ∧
  tv σ H2 fun y2 H3 => rd (.int i) y2 H3 fun z H4 => ∃ f' n' i', z = .int i' ∧ NDAt w H4 a f' n' ∧ n' < sizeLine ∧ KeyRel H4 p y ∧ ∀ o, NDAt w (upd H4 a o) a (fset f' (pk p) i') (n' + 1) → D.nx σ (upd H4 a o)
theorem hu9_of {A : Around} {k : Nat} (hr : Room k A) : A.units + 9 < cLine := by have := hr.un; omega
section
variable {X : Cx} {o i e f value : Expr} {pos pos' tpos apos cpos : Pos} {td ty tv tx : TE}
theorem pe_dnewN : PE X (.Dict [] [] pos) (tDNewN X.w) := ⟨fun pins s σ H Q I h => by
  refine wpAny_Dict_empty ?_
  have hn := I.hok.fresh (Nat.le_refl s.heap.objs.size)
  have hm : (s.heap.objs.size == sysModules) = false := beq_eq_false_iff_ne.mpr (Nat.ne_of_gt I.big)
  have nd : NDict X.w (s.heap.push { cls := .type "dict", data := .dict #[] }) s.heap.objs.size [] := ⟨_, #[], 0, Heap.get?_push_size _ rfl, ⟨rfl, rfl, rfl⟩, rfl, rfl, List.nodup_nil⟩
  refine ⟨.ref s.heap.objs.size, upd H s.heap.objs.size (NDO X.w s.heap.objs.size []), I.laid (a := s.heap.objs.size) (o := NDO X.w s.heap.objs.size []) (t' := s.toks) (fun _ _ q => Heap.get?_push_of_some _ q) (Nat.le_refl _) ⟨⟨hm, Nat.zero_le _, [], .nil, nd⟩, ⟨_, Heap.get?_push_size _ rfl⟩, ?_⟩, rfl, h _ hn _ ⟨[], upd_same, (fun (e : PKey × Int) (he : e ∈ ([] : List (PKey × Int))) => absurd he List.not_mem_nil), fun _ => rfl, Nat.le_refl _⟩⟩
  rintro h1 h2 ⟨z1, z2, xs, z3, ob, es, ep, z4, z5⟩ k
  exact ⟨z1, z2, xs, z3, ob, es, ep, k _ z4, z5⟩⟩
theorem pe_dget2N (hu : X.A.units + 9 < cLine) (ho : PE X o td) (he : PE X e ty) (hf : PE X f tx) (m : M2 X o "get" apos e f cpos) : PE X (.Call (.Attribute o "get" apos) [e, f] [] cpos) (tDGet2N X.w td ty tx) := by
  refine ⟨fun pins s σ H Q I h => ?_⟩
  refine wpAny_Call_method m.base m.few m.line PySem.F.plainAttrs_dict PySem.F.slot_dict_get PySem.F.type_dict_get (thn (ho.run pins s σ H _ I h) fun u s1 ⟨x, H1, I1, rx, a, f1, n1, ex, d, q1⟩ => ?_)
  subst ex
  obtain rfl : u = Value.ref a := rx
  obtain ⟨_, _, _, _, _, _, _, _, _, dd, _⟩ := nd_at I1.hok d
  refine ⟨dd.typeIs, dd.bare, ?_⟩
  rw [m.trees]
  refine Calls.callWith_builtin rfl (Calls.evalArgs_plain (Calls.spliced_cons (thn (he.run pins s1 σ H1 _ I1 q1) fun iv s2 ⟨y, H2, I2, ry, q2⟩ =>
    Calls.spliced_cons (thn (hf.run pins s2 σ H2 _ I2 q2) fun fv s3 ⟨z, H3, I3, rz, f2, n2, p, d3, kr, q3⟩ => Calls.spliced_nil ?_))))
  obtain ⟨es, xs, e1, e2, e3, e4, e5, e6, e7, e8, e9⟩ := nd_at I3.hok d3
  obtain ⟨k1, k2, k3⟩ := kis_of I3.hok kr ry
  refine ncall_get hu e5 k1 k2 e8 e9 (fun no => ?_) fun j q hj => ?_
  · rw [← e3, nd_miss e7 no] at q3
    exact ⟨z, H3, I3.tok _, rz, q3⟩
  · obtain ⟨i, t, v1, v2⟩ := nd_find e7 e8.nodup hj
    rw [← e3, v1] at q3
    exact ⟨.int i, H3, I3.tok _, ⟨t, v2⟩, q3⟩
theorem nd_set {pins : List (Addr × Obj)} {σ : L2.St} {H : Hp} {s : Shared} {a : Addr} {g : BKey → Option Int} {n : Nat} {p : PKey} {y : V} {u r : Value} {j : Int} {E : Value → Shared → Prop} {Q : Unit → Shared → Prop} (hu : X.A.units + 9 < cLine) (I : L2.Inv X pins σ H s) (d : NDAt X.w H a g n) (hn : n < sizeLine) (kr : KeyRel H p y) (ry : L2.RelV y u) (rv : L2.RelV (.int j) r)
    (h : ∀ o s', NDAt X.w (upd H a o) a (fset g (pk p) j) (n + 1) → L2.Inv X pins σ (upd H a o) s' → Q () s') : wpAny (model X.prog X.w) X.A (setItem (.ref a) u r) Q E s := by
  obtain ⟨es, xs, e1, e2, e3, e4, e5, e6, e7, e8, e9⟩ := nd_at I.hok d
  obtain ⟨k1, k2, k3⟩ := kis_of I.hok kr ry
  obtain ⟨t, rfl⟩ := (show ∃ t, r = Value.int j t from rv)
  refine nset_item hu k1 k2 e8 e9 (by rw [← Paired.length e7]; exact e6) fun h' xs' np nd sb => ?_
  rw [k3] at np
  obtain ⟨es', p1, p2, p3, p4⟩ := nd_put e7 e8.nodup np
  have tp : ∀ b ks, p = some (b, ks) → H b = some (.tup (ks.map kV)) := by
    rintro b ks rfl
    exact (show y = .ref b ∧ H b = some (.tup (ks.map kV)) from kr).2
  have tu := p3 H e2 tp
  have hob : ∃ q, h'.get? a = some q := let ⟨q, _, _, hq, _⟩ := nd; ⟨q, hq⟩
  refine h (NDO X.w a es') _ ⟨es', upd_same, fun e' he' b ks z => ?_, fun k => ?_, by omega⟩ (d_write (ob := NDO X.w a es') I (by rw [e1]; exact True.intro) sb hob ⟨⟨e5, by omega, xs', p1, nd⟩, hob, ?_⟩)
  · rw [upd_ne (ne_of (tu e' he' b ks z) e1 (fun z => nomatch z))]
    exact tu e' he' b ks z
  · rw [p4 k]
    unfold fset
    split
    · rfl
    · exact e3 k
  · rintro h1 h2 ⟨z1, z2, xs, z3, ob, es, ep, z4, z5⟩ k
    exact ⟨z1, z2, xs, z3, ob, es, ep, k _ z4, z5⟩
theorem ps_dputN (hu : X.A.units + 9 < cLine) (ho : PE X o td) (hi : PE X i ty) (hv : PE X value tv) (hs : swapsWith value (some (.Subscript o i pos')) pos.line X.env = pure false) : PS X (.Assign [.Subscript o i pos'] value pos) (sDPutN X.w td ty tv) := by
  refine ⟨fun pins s σ H D I h => ?_⟩
  refine wpAny_Assign_Subscript (thn (hv.run pins s σ H _ I h) fun r s1 ⟨v, H1, I1, rv, q1⟩ => thn (ho.run pins s1 σ H1 _ I1 q1) fun u s2 ⟨x, H2, I2, rx, q2⟩ => thn (hi.run pins s2 σ H2 _ I2 q2) fun iv s3 ⟨y, H3, I3, ry, a, g, n, p, j, ex, ev, d, hn, kr, q3⟩ => ?_) hs
  subst ex ev
  obtain rfl : u = Value.ref a := rx
  exact nd_set hu I3 d hn kr ry rv fun ob s4 d4 I4 => ⟨σ, _, I4, q3 ob d4⟩
theorem ps_daugN {op : Operator} {rd : V → V → Hp → VK → Prop} (hu : X.A.units + 9 < cLine) (ho : PE X o td) (hi : PE X i ty) (hv : PE X value tv) (hop : InOp X op rd)
    (ha : ∀ ov iv new, augStore i ov iv new = (do holding [new, ov, iv] (setItem ov iv new); release [new, ov, iv] []; pure .next)) : PS X (.AugAssign (.Subscript o i tpos) op value pos) (sDAugN X.w td ty tv rd) := by
  refine ⟨fun pins s σ H D I h => ?_⟩
  refine wpAny_AugAssign_SubscriptAny (thn (ho.run pins s σ H _ I h) fun u s1 ⟨x, H1, I1, rx, q1⟩ => thn (hi.run pins s1 σ H1 _ I1 q1) fun iv s2 ⟨y, H2, I2, ry, a, g, n, p, j, ex, d, kr, gv, q2⟩ => ?_) ha
  subst ex
  obtain rfl : u = Value.ref a := rx
  obtain ⟨es, xs, e1, e2, e3, e4, e5, e6, e7, e8, e9⟩ := nd_at I2.hok d
  obtain ⟨k1, k2, k3⟩ := kis_of I2.hok kr ry
  have there : ∃ (m : Nat) (q : Value × Value), xs[m]? = some (nk (pk p), q) := by
    apply Classical.byContradiction
    intro z
    have := nd_miss e7 fun m q hm => z ⟨m, q, hm⟩
    rw [e3, gv] at this
    cases this
  refine nget_item hu k1 k2 e8 e9 there fun m q hm => ?_
  obtain ⟨i', t, v1, v2⟩ := nd_find e7 e8.nodup hm
  rw [e3, gv] at v1
  cases v1
  refine thn (hv.run pins _ σ H2 _ (I2.tok _) q2) fun w2 s4 ⟨y2, H3, I4, ry2, q3⟩ => thn (hop pins s4 σ H3 (.int j) y2 q.2 w2 _ I4 ⟨t, v2⟩ ry2 q3) fun w3 s5 ⟨z, H4, I5, rz, f', n', j', ez, d5, hn5, kr5, q4⟩ => ?_
  subst ez
  exact nd_set hu I5 d5 hn5 kr5 ry rz fun ob s6 d6 I6 => ⟨σ, _, I6, q4 ob d6⟩
end
end CP
/-! HPan5 -/
namespace CP
open PySem PySem.Spec PyProof.Rows L2
def cnt (l : List Pu.Wire) (b : Option Pu.Box) : Nat := (l.filter fun u => decide (u.inTo = b)).length
theorem cnt_nil (b : Option Pu.Box) : cnt [] b = 0 := rfl
theorem cnt_append (l m : List Pu.Wire) (b : Option Pu.Box) : cnt (l ++ m) b = cnt l b + cnt m b := by unfold cnt; rw [List.filter_append, List.length_append]
theorem cnt_one (x : Pu.Wire) (b : Option Pu.Box) : cnt [x] b = if x.inTo = b then 1 else 0 := by
  unfold cnt
  by_cases h : x.inTo = b
  · rw [if_pos h, List.filter_cons_of_pos (by simpa using h)]; rfl
  · rw [if_neg h, List.filter_cons_of_neg (by simpa using h)]; rfl
theorem cnt_cons (x : Pu.Wire) (l : List Pu.Wire) (b : Option Pu.Box) : cnt (x :: l) b = (if x.inTo = b then 1 else 0) + cnt l b := by rw [← cnt_one]; exact cnt_append [x] l b
theorem cnt_pos {l : List Pu.Wire} {x : Pu.Wire} (h : x ∈ l) : cnt l x.inTo ≠ 0 := by
  unfold cnt
  intro z
  have : x ∈ l.filter fun u => decide (u.inTo = x.inTo) := List.mem_filter.mpr ⟨h, by simp⟩
  rw [List.length_eq_zero_iff.mp z] at this
  cases this
theorem cnt_sub {l m : List Pu.Wire} {b : Option Pu.Box} (h : ∀ u ∈ l, u ∈ m) (z : cnt m b = 0) : cnt l b = 0 := by
  unfold cnt at z ⊢
  rw [List.length_eq_zero_iff] at z ⊢
  rw [List.filter_eq_nil_iff] at z ⊢
  exact fun u hu => z u (h u hu)
theorem blocked_cnt {l : List Pu.Wire} {x : Pu.Wire} {b : Pu.Box} (ho : x.outOf = some b) : blocked l x = decide (0 < cnt l (some b)) := by
  unfold blocked
  rw [ho]
  show (l.any fun u => u.inTo == some b) = _
  by_cases h : 0 < cnt l (some b)
  · rw [decide_eq_true h]
    unfold cnt at h
    obtain ⟨u, hu⟩ := List.exists_mem_of_length_pos h
    obtain ⟨h1, h2⟩ := List.mem_filter.mp hu
    exact List.any_eq_true.mpr ⟨u, h1, by rw [of_decide_eq_true h2]; exact beq_self_eq_true _⟩
  · rw [decide_eq_false h]
    refine Bool.eq_false_iff.mpr fun z => ?_
    obtain ⟨u, h1, h2⟩ := List.any_eq_true.mp z
    have := cnt_pos h1
    rw [eq_of_beq h2] at this
    omega
def OBox (b : Option Pu.Box) : Prop := ∀ x, b = some x → BoxOk x
def bk (b : Option Pu.Box) : BKey := b.map kBox
theorem bk_inj {a b : Option Pu.Box} (ha : OBox a) (hb : OBox b) (e : bk a = bk b) : a = b := by
  cases a with
  | none => cases b with
    | none => rfl
    | some y => cases e
  | some x => cases b with
    | none => cases e
    | some y =>
      have : kBox x = kBox y := Option.some.inj e
      rw [kBox_inj (ha x rfl) (hb y rfl) this]
theorem in_obox (x : Pu.Wire) : OBox x.inTo := fun b h => in_ok h
theorem out_obox (x : Pu.Wire) : OBox x.outOf := fun b h => out_ok h
/-- what the dict says: how many of l go into each box into which some of ws go -/
def MissIs (f : BKey → Option Int) (ws l : List Pu.Wire) : Prop := ∀ b, OBox b → f (bk b) = if cnt ws b = 0 then none else some (cnt l b : Int)
theorem miss_get {f : BKey → Option Int} {ws l : List Pu.Wire} (M : MissIs f ws l) (h : ∀ u ∈ l, u ∈ ws) {b : Option Pu.Box} (ob : OBox b) : oI (f (bk b)) (.int 0) = V.int (cnt l b : Int) := by
  rw [M b ob]
  by_cases z : cnt ws b = 0
  · rw [if_pos z, cnt_sub h z]; rfl
  · rw [if_neg z]; rfl
theorem miss_add {f : BKey → Option Int} {ws : List Pu.Wire} (M : MissIs f ws ws) (x : Pu.Wire) : MissIs (fset f (bk x.inTo) ((cnt ws x.inTo : Int) + 1)) (ws ++ [x]) (ws ++ [x]) := by
  intro b ob
  rw [cnt_append, cnt_one]
  unfold fset
  by_cases h : x.inTo = b
  · subst h
    rw [if_pos rfl, if_pos rfl, if_neg (by omega)]
    congr 1
  · rw [if_neg (fun e => h (bk_inj ob (in_obox x) e).symm), if_neg h, M b ob, Nat.add_zero]
theorem miss_less {f : BKey → Option Int} {ws later r : List Pu.Wire} {x : Pu.Wire} (M : MissIs f ws (later ++ x :: r)) (hx : x ∈ ws) : f (bk x.inTo) = some (cnt (later ++ x :: r) x.inTo : Int) ∧ MissIs (fset f (bk x.inTo) ((cnt (later ++ x :: r) x.inTo : Int) - 1)) ws (later ++ r) := by
  refine ⟨by rw [M _ (in_obox x), if_neg (cnt_pos hx)], fun b ob => ?_⟩
  unfold fset
  by_cases h : x.inTo = b
  · subst h
    rw [if_pos rfl, if_neg (cnt_pos hx), cnt_append, cnt_cons, if_pos rfl, cnt_append]
    congr 1
    omega
  · rw [if_neg (fun e => h (bk_inj ob (in_obox x) e).symm), M b ob, cnt_append, cnt_cons, if_neg h, cnt_append, Nat.zero_add]
/-- tuples stay -/
def KTp (H H' : Hp) : Prop := ∀ b xs, H b = some (.tup xs) → H' b = some (.tup xs)
theorem KTp.trans {H H1 H2 : Hp} (a : KTp H H1) (b : KTp H1 H2) : KTp H H2 := fun c xs h => b c xs (a c xs h)
theorem ktp_same {H H' : Hp} (s : Same H H') : KTp H H' := fun b xs h => s _ _ h
theorem ktp_upd {H : Hp} {p : Addr} {u o : HO} (h : H p = some u) (n : ∀ xs, u ≠ .tup xs) : KTp H (upd H p o) := fun b xs e => by
  rw [upd_ne (ne_of e h (fun z => n xs z.symm))]
  exact e
theorem WireAt.ktp {H H' : Hp} {a : Addr} {x : Pu.Wire} (h : WireAt H a x) (k : KTp H H') : WireAt H' a x := by
  obtain ⟨u, v, h1, h2, h3⟩ := h
  exact ⟨u, v, k _ _ h1, k _ _ h2, k _ _ h3⟩
theorem WiresIn.ktp {H H' : Hp} {as : List Addr} {d : List Pu.Wire} (h : WiresIn H as d) (k : KTp H H') : WiresIn H' as d := by
  induction h with
  | nil => exact .nil
  | cons e _ ih => exact .cons (e.ktp k) ih
theorem ndat_ext {w : World} {H : Hp} {a : Addr} {f : BKey → Option Int} {n : Nat} (h : NDAt w H a f n) : ∃ φ, H a = some (.ext φ) := by
  obtain ⟨es, h1, _⟩ := h
  exact ⟨_, h1⟩
theorem ndat_le {w : World} {H : Hp} {a : Addr} {f : BKey → Option Int} {n m : Nat} (h : NDAt w H a f n) (l : n ≤ m) : NDAt w H a f m := by
  obtain ⟨es, h1, h2, h3, h4⟩ := h
  exact ⟨es, h1, h2, h3, by omega⟩
def lenAt (σ : L2.St) (H : Hp) (i : Nat) : Nat := match σ[i]? with
  | some (some (V.ref l)) => lenL H l
  | _ => 0
section
variable {P : Program} {w : World} {K : PySem.W.Frag} {mg : Str → Option Value} {base : Heap} {ad : Ad}
abbrev s_count_into_boxes : Stmt := topS 54
abbrev N_count_into_boxes : List Str := ["wires", "counts", "wire", "box"]
theorem sc_count_into_boxes : FnScope N_count_into_boxes ["wires"] (defScope s_count_into_boxes) := ⟨rfl, rfl, rfl, by decide +kernel, rfl, by decide +kernel, by decide +kernel⟩
def sp_count (w : World) : Sp := fun vs H Q _ => ∃ (a : Addr) (ws : List Pu.Wire), vs = [.ref a] ∧ WiresAt H a ws ∧ ws.length ≤ 256 ∧ (∀ x ∈ ws, x.ok = true) ∧ ∀ (H' : Hp) (p : Addr) (f : BKey → Option Int), Same H H' → H p = none → NDAt w H' p f 256 → MissIs f ws ws → Q (.ref p) H'
theorem ok_count_into_boxes {f : Addr} {fd : FuncData} (F : Fun K "count_into_boxes" "count_into_boxes" s_count_into_boxes f fd) (D_taking_box : Dcl P w K mg base 1 "taking_box" ["wire"] (sp_box Pu.Wire.inTo)) : FnOk P w K mg base CX0 2 f fd ["wires"] (sp_count w) := by
  refine F.ok sc_count_into_boxes (fun vs H Q E h => ?_) (fun cdv A outer s H vs Q E hr h => ?_)
  · obtain ⟨a, ws, rfl, _⟩ := h; rfl
  · obtain ⟨a, ws, rfl, ⟨as, ea, wi⟩, lw, okw', q⟩ := h
    have lenw := wi.len
    refine ⟨_, (pss_cons (ps_set (i := 1) sc_count_into_boxes.nd rfl (Or.inl rfl) pe_dnewN)
      (pss_cons (ps_for PassesOwn.never rfl (pi_list (pv 0)) (pg_name (i := 2) sc_count_into_boxes.nd rfl (Or.inl rfl))
      (pss_cons (ps_set (i := 3) sc_count_into_boxes.nd rfl (Or.inl rfl) (pe_call D_taking_box.ok (hr.mono (by decide)) (by rfl) D_taking_box.g D_taking_box.kp D_taking_box.b .nil pass0 (pa_cons (pv 2) pa_nil)))
      (pss_one (ps_dputN (hu9_of hr) (pv 1) (pv 3) (pe_op op_add (pe_dget2N (hu9_of hr) (pv 1) (pv 3) pe_int ⟨rfl, rfl, rfl, rfl⟩) pe_int) rfl))))
      (pss_one (ps_ret (pv 1))))), ?_⟩
    intro m nm o0 nd0
    refine ⟨_, rfl, a, rfl, ⟨_, SqL.of ((same_upd nm) _ _ ea)⟩, ?_⟩
    refine for_list (K := K) (a := a) (xs := as.map V.ref) (fun i σ H' => ∃ v2 v3 f, σ = [some (.ref a), some (.ref m), v2, v3] ∧ Same H H' ∧ NDAt w H' m f i ∧ MissIs f (ws.take i) (ws.take i)) ⟨none, none, _, rfl, same_upd nm, nd0, fun b _ => rfl⟩ ?_ ?_ ?_
    · rintro i σ H' _ ⟨v2, v3, f, rfl, sm, _⟩
      exact SqL.of (sm _ _ ea)
    · rintro i y σ H' hy ⟨v2, v3, f, rfl, sm, nd, M⟩
      have hi : i < ws.length := by
        apply Classical.byContradiction; intro z
        rw [List.getElem?_eq_none (by rw [List.length_map]; omega)] at hy; cases hy
      have hwi : ws[i]? = some ws[i] := List.getElem?_eq_getElem hi
      obtain ⟨wa, e1, hwat⟩ := wi.get hwi
      rw [List.getElem?_map, e1] at hy
      have ey : y = .ref wa := (Option.some.inj hy).symm
      subst ey
      have okx := okw' _ (List.getElem_mem hi)
      have etk : ws.take (i + 1) = ws.take i ++ [ws[i]] := by rw [List.take_add_one, hwi]; rfl
      generalize ws[i] = x at *
      have fin : ∀ (D : Ends) (H2 : Hp) (p : PKey) (v : V), Same H' H2 → KeyRel H2 p v → pk p = bk x.inTo → (∀ f H3, Same H H3 → NDAt w H3 m f (i + 1) → MissIs f (ws.take (i + 1)) (ws.take (i + 1)) → D.nx [some (.ref a), some (.ref m), some (.ref wa), some v] H3) →
          sDPutN w (tVar 1) (tVar 3) (tOp rAdd (tDGet2N w (tVar 1) (tVar 3) (tC (.int 0))) (tC (.int 1))) D [some (.ref a), some (.ref m), some (.ref wa), some v] H2 := by
        intro D H2 p v s2 kr ek qD
        refine ⟨_, rfl, m, f, i, rfl, nd.same s2, _, rfl, f, i, p, nd.same s2, kr, ?_⟩
        rw [ek, miss_get M (fun u hu => hu) (in_obox x)]
        refine ⟨_, _, rfl, rfl, _, rfl, _, rfl, m, f, i, p, _, rfl, rfl, nd.same s2, size_big (by omega), kr, fun o3 nd3 => ?_⟩
        rw [ek] at nd3
        refine qD _ _ (Same.mut (sm.trans s2) nm) nd3 ?_
        rw [etk]
        exact miss_add M x
      refine ⟨_, rfl, wa, x, rfl, hwat.same sm, okx, fun e => ?_, fun b e H2 p s2 np hp => ?_⟩
      · refine fin _ H' none .non (Same.refl H') rfl (by rw [e]; rfl) fun f2 H3 a1 a2 a3 => ⟨_, _, f2, rfl, a1, a2, a3⟩
      · refine fin _ H2 (some (p, kBox b)) (.ref p) s2 ⟨rfl, hp⟩ (by rw [e]; rfl) fun f2 H3 a1 a2 a3 => ⟨_, _, f2, rfl, a1, a2, a3⟩
    · rintro σ H' ⟨v2, v3, f, rfl, sm, nd, M⟩
      rw [List.length_map, lenw] at nd M
      rw [List.take_length] at M
      exact ⟨_, rfl, q H' m f sm nm (ndat_le nd lw) M⟩
abbrev s_in_running_order : Stmt := topS 55
abbrev N_in_running_order : List Str := ["wires", "missing", "ordered", "left", "later", "wire", "box"]
theorem sc_in_running_order : FnScope N_in_running_order ["wires"] (defScope s_in_running_order) := ⟨rfl, rfl, rfl, by decide +kernel, rfl, by decide +kernel, by decide +kernel⟩
def sp_order : Sp := fun vs H Q _ => ∃ (a : Addr) (ws : List Pu.Wire), vs = [.ref a] ∧ WiresAt H a ws ∧ ws.length ≤ 256 ∧ (∀ x ∈ ws, x.ok = true) ∧ Sound ws ∧ ∀ (H' : Hp) (p : Addr) (ord : List Pu.Wire), Same H H' → H p = none → WiresAt H' p ord → ord.Perm ws → Topo ws ord → Q (.ref p) H'
theorem ok_in_running_order {f : Addr} {fd : FuncData} (F : Fun K "in_running_order" "in_running_order" s_in_running_order f fd) (T : Txt P w K mg ad) (D_count_into_boxes : Dcl P w K mg base 2 "count_into_boxes" ["wires"] (sp_count w)) (D_sending_box : Dcl P w K mg base 1 "sending_box" ["wire"] (sp_box Pu.Wire.outOf)) (D_taking_box : Dcl P w K mg base 1 "taking_box" ["wire"] (sp_box Pu.Wire.inTo)) : FnOk P w K mg base CX0 3 f fd ["wires"] sp_order := by
  refine F.ok sc_in_running_order (fun vs H Q E h => ?_) (fun cdv A outer s H vs Q E hr h => ?_)
  · obtain ⟨a, ws, rfl, _⟩ := h; rfl
  · obtain ⟨a, ws, rfl, ⟨as, ea, wi⟩, lw, okw', S, q⟩ := h
    have lenw := wi.len
    refine ⟨_, (pss_cons (ps_set (i := 1) sc_in_running_order.nd rfl (Or.inl rfl) (pe_call D_count_into_boxes.ok (hr.mono (by decide)) (by rfl) D_count_into_boxes.g D_count_into_boxes.kp D_count_into_boxes.b .nil pass0 (pa_cons (pv 0) pa_nil)))
      (pss_cons (ps_set (i := 2) sc_in_running_order.nd rfl (Or.inl rfl) (pe_lst pa_nil))
      (pss_cons (ps_set (i := 3) sc_in_running_order.nd rfl (Or.inl rfl) (pv 0))
      (pss_cons (ps_while PassesOwn.never (pt_cmpR op_gt (pe_callB call_len_seq (by rfl) T.b_len PySem.boot_len (pa_cons (pv 3) pa_nil)) pe_int (nomark _))
      (pss_cons (ps_set (i := 4) sc_in_running_order.nd rfl (Or.inl rfl) (pe_lst pa_nil))
      (pss_cons (ps_for PassesOwn.never rfl (pi_list (pv 3)) (pg_name (i := 5) sc_in_running_order.nd rfl (Or.inl rfl))
      (pss_cons (ps_set (i := 6) sc_in_running_order.nd rfl (Or.inl rfl) (pe_call D_sending_box.ok (hr.mono (by decide)) (by rfl) D_sending_box.g D_sending_box.kp D_sending_box.b .nil pass0 (pa_cons (pv 5) pa_nil)))
      (pss_one (ps_if (PW.pt (pw_and (pt_cmpR op_notN (pv 6) pe_non (nomark _)) (pw_and1 (pt_cmpR op_gt (pe_dget2N (hu9_of hr) (pv 1) (pv 6) pe_int ⟨rfl, rfl, rfl, rfl⟩) pe_int (nomark _)))))
      (pss_one (ps_expr (pe_bm PySem.F.plainAttrs_list PySem.F.slot_list_append PySem.F.type_list_append mt_append (pv 4) (pa_cons (pv 5) pa_nil))))
      (pss_cons (ps_expr (pe_bm PySem.F.plainAttrs_list PySem.F.slot_list_append PySem.F.type_list_append mt_append (pv 2) (pa_cons (pv 5) pa_nil)))
      (pss_one (ps_daugN (hu9_of hr) (pv 1) (pe_call D_taking_box.ok (hr.mono (by decide)) (by rfl) D_taking_box.g D_taking_box.kp D_taking_box.b .nil pass0 (pa_cons (pv 5) pa_nil)) pe_int in_sub (fun _ _ _ => rfl))))))))
      (pss_one (ps_set (i := 3) sc_in_running_order.nd rfl (Or.inl rfl) (pv 4))))))
      (pss_one (ps_ret (pv 2))))))), ?_⟩
    refine ⟨_, rfl, a, ws, rfl, ⟨as, ea, wi⟩, lw, okw', fun H1 m f1 s1 nm nd1 M1 => ?_⟩
    refine ⟨Nat.zero_le _, fun oa noa => ?_⟩
    have hoa : H oa = none := s1.free noa
    have t2 := same_upd (o := .lst []) noa
    refine ⟨_, rfl, ?_⟩
    refine while_by (fun σ H' => ∃ (v4 v5 v6 : Option V) (la : Addr) (f : BKey → Option Int) (ls os : List Addr) (left ord : List Pu.Wire), σ = [some (.ref a), some (.ref m), some (.ref oa), some (.ref la), v4, v5, v6] ∧ Same H H' ∧ NDAt w H' m f (256 + ord.length) ∧ MissIs f ws left ∧ H' la = some (.lst (ls.map V.ref)) ∧ WiresIn H' ls left ∧ la ≠ oa ∧ H' oa = some (.lst (os.map V.ref)) ∧ WiresIn H' os ord ∧ (ord ++ left).Perm ws ∧ Topo ws ord) (fun σ H' => lenAt σ H' 3) ?_ ?_ ?_
    · refine ⟨none, none, none, a, f1, as, [], ws, [], rfl, s1.trans t2, nd1.same t2, M1, t2 _ _ (s1 _ _ ea), (wi.same (s1.trans t2)), ?_, upd_same, .nil, List.Perm.refl _, Topo.nil ws⟩
      exact ne_of_none ea hoa
    · rintro σ H' ⟨v4, v5, v6, la, f, ls, os, left, ord, rfl, sm, nd, M, el, wl, nlo, eo, wo, pm, tp⟩
      have lenl := wl.len
      have leno := wo.len
      have lperm := pm.length_eq
      rw [List.length_append] at lperm
      refine ⟨_, rfl, la, _, rfl, .inl (SqL.of el), _, _, rfl, rfl, _, rfl, ?_⟩
      by_cases c0 : left = []
      · subst c0
        have : ls = [] := List.length_eq_zero_iff.mp lenl
        subst this
        refine iff_ rfl ?_
        rw [List.append_nil] at pm
        exact ⟨_, rfl, q H' oa ord sm hoa ⟨os, eo, wo⟩ pm tp⟩
      · have lpos : 0 < left.length := List.length_pos_iff.mpr c0
        refine ift (decide_eq_true (by rw [List.length_map]; omega)) ?_
        refine ⟨Nat.zero_le _, fun ta nta => ?_⟩
        have hta : H ta = none := sm.free nta
        have tt := same_upd (o := .lst []) nta
        have nla : la ≠ ta := ne_of_none el nta
        have noa' : oa ≠ ta := ne_of_none eo nta
        refine ⟨_, rfl, la, rfl, ⟨_, SqL.of (tt _ _ el)⟩, ?_⟩
        refine for_list (K := K) (a := la) (xs := ls.map V.ref) (fun i σ H2 => ∃ (v5 v6 : Option V) (f : BKey → Option Int) (ts os : List Addr) (lat or' : List Pu.Wire), σ = [some (.ref a), some (.ref m), some (.ref oa), some (.ref la), some (.ref ta), v5, v6] ∧ Same H H2 ∧ NDAt w H2 m f (256 + or'.length) ∧ MissIs f ws (lat ++ left.drop i) ∧ H2 la = some (.lst (ls.map V.ref)) ∧ WiresIn H2 ls left ∧ H2 ta = some (.lst (ts.map V.ref)) ∧ WiresIn H2 ts lat ∧ H2 oa = some (.lst (os.map V.ref)) ∧ WiresIn H2 os or' ∧ (or' ++ (lat ++ left.drop i)).Perm ws ∧ passM lat or' (left.drop i) = passM [] ord left) ?_ ?_ ?_ ?_
        · exact ⟨v5, v6, f, [], os, [], ord, rfl, sm.trans tt, nd.same tt, M, tt _ _ el, wl.same tt, upd_same, .nil, tt _ _ eo, wo.same tt, pm, rfl⟩
        · rintro i σ H2 _ ⟨v5, v6, f, ts, os, lat, or', rfl, sm2, nd2, M2, el2, _⟩
          exact SqL.of el2
        · rintro i y σ H2 hy ⟨v5, v6, f, ts, os, lat, or', rfl, sm2, nd2, M2, el2, wl2, et2, wt2, eo2, wo2, pm2, ps2⟩
          have hi : i < left.length := by
            apply Classical.byContradiction; intro z
            rw [List.getElem?_eq_none (by rw [List.length_map]; omega)] at hy; cases hy
          have hwi : left[i]? = some left[i] := List.getElem?_eq_getElem hi
          obtain ⟨wa, e1, hwat⟩ := wl2.get hwi
          rw [List.getElem?_map, e1] at hy
          have ey : y = .ref wa := (Option.some.inj hy).symm
          subst ey
          have edr : left.drop i = left[i] :: left.drop (i + 1) := List.drop_eq_getElem_cons hi
          generalize left[i] = x at *
          rw [edr] at M2 pm2 ps2
          have hxw : x ∈ ws := pm2.mem_iff.mp (by simp)
          have okx := okw' x hxw
          have lp2 := pm2.length_eq
          simp only [List.length_append, List.length_cons] at lp2
          have lt2 := wt2.len
          have lo2 := wo2.len
          rw [passM] at ps2
          have subw : ∀ u ∈ lat ++ x :: left.drop (i + 1), u ∈ ws := fun u hu => pm2.mem_iff.mp (List.mem_append_right _ hu)
          have goOrd : ∀ (D : Ends) (H3 : Hp) (v6 : V), Same H2 H3 → blocked (lat ++ x :: left.drop (i + 1)) x = false →
              (∀ (f : BKey → Option Int) (os : List Addr) (H5 : Hp), Same H H5 → NDAt w H5 m f (256 + (or' ++ [x]).length) → MissIs f ws (lat ++ left.drop (i + 1)) → H5 la = some (.lst (ls.map V.ref)) → WiresIn H5 ls left → H5 ta = some (.lst (ts.map V.ref)) → WiresIn H5 ts lat → H5 oa = some (.lst (os.map V.ref)) → WiresIn H5 os (or' ++ [x]) → ((or' ++ [x]) ++ (lat ++ left.drop (i + 1))).Perm ws → passM lat (or' ++ [x]) (left.drop (i + 1)) = passM [] ord left → D.nx [some (.ref a), some (.ref m), some (.ref oa), some (.ref la), some (.ref ta), some (.ref wa), some v6] H5) →
              tSeq (tDrop (tBM K "list" rAppend (tVar 2) (tCons (tVar 5) tNil))) (sDAugN w (tVar 1) (tCall (sp_box Pu.Wire.inTo) [] E0 (tCons (tVar 5) tNil)) (tC (.int 1)) rSub) D [some (.ref a), some (.ref m), some (.ref oa), some (.ref la), some (.ref ta), some (.ref wa), some v6] H3 := by
            intro D H3 v6 s3 nb qD
            rw [nb, if_neg Bool.false_ne_true] at ps2
            have eo3 := s3 _ _ eo2
            refine ⟨_, rfl, .inl ⟨rfl, _, SqL.of eo3⟩, _, rfl, oa, _, _, rfl, rfl, eo3, by rw [List.length_map]; exact size_big (by omega), ?_⟩
            have k4 : KTp H3 (upd H3 oa (.lst (os.map V.ref ++ [V.ref wa]))) := ktp_upd eo3 (fun xs z => by cases z)
            have nd4 : NDAt w (upd H3 oa (.lst (os.map V.ref ++ [V.ref wa]))) m f (256 + or'.length) := (nd2.same s3).other eo3
            have sm4 : Same H (upd H3 oa (.lst (os.map V.ref ++ [V.ref wa]))) := Same.mut (sm2.trans s3) hoa
            have kk4 : KTp H2 (upd H3 oa (.lst (os.map V.ref ++ [V.ref wa]))) := (ktp_same s3).trans k4
            have el4 : (upd H3 oa (.lst (os.map V.ref ++ [V.ref wa]))) la = some (.lst (ls.map V.ref)) := by rw [upd_ne nlo]; exact s3 _ _ el2
            have et4 : (upd H3 oa (.lst (os.map V.ref ++ [V.ref wa]))) ta = some (.lst (ts.map V.ref)) := by rw [upd_ne (Ne.symm noa')]; exact s3 _ _ et2
            have eo4 : (upd H3 oa (.lst (os.map V.ref ++ [V.ref wa]))) oa = some (.lst ((os ++ [wa]).map V.ref)) := by rw [upd_same, List.map_append]; rfl
            generalize upd H3 oa (.lst (os.map V.ref ++ [V.ref wa])) = H4 at *
            obtain ⟨fx, mless⟩ := miss_less M2 hxw
            have hp4 : ((or' ++ [x]) ++ (lat ++ left.drop (i + 1))).Perm ws := by
              refine List.Perm.trans ?_ pm2
              rw [List.append_assoc]
              exact List.Perm.append_left or' (by
                show (x :: (lat ++ left.drop (i + 1))).Perm (lat ++ x :: left.drop (i + 1))
                exact List.perm_middle.symm)
            have fin : ∀ (H5 : Hp) (p : PKey) (y : V), Same H4 H5 → KeyRel H5 p y → pk p = bk x.inTo →
                ∃ a_1 f_1 n p i_1, V.ref m = V.ref a_1 ∧ NDAt w H5 a_1 f_1 n ∧ KeyRel H5 p y ∧ f_1 (pk p) = some i_1 ∧ tC (.int 1) [some (.ref a), some (.ref m), some (.ref oa), some (.ref la), some (.ref ta), some (.ref wa), some v6] H5 fun y2 H3 => rSub (.int i_1) y2 H3 fun z H4 =>
                  ∃ f' n' i', z = .int i' ∧ NDAt w H4 a_1 f' n' ∧ n' < sizeLine ∧ KeyRel H4 p y ∧ ∀ o, NDAt w (upd H4 a_1 o) a_1 (fset f' (pk p) i') (n' + 1) → D.nx [some (.ref a), some (.ref m), some (.ref oa), some (.ref la), some (.ref ta), some (.ref wa), some v6] (upd H4 a_1 o) := by
              intro H5 p y s5 kr ek
              refine ⟨m, f, _, p, _, rfl, nd4.same s5, kr, by rw [ek]; exact fx, _, _, rfl, rfl, f, _, _, rfl, nd4.same s5, size_big (by omega), kr, fun o nd6 => ?_⟩
              rw [ek] at nd6
              obtain ⟨φ, em⟩ := ndat_ext (nd4.same s5)
              have k6 : KTp H5 (upd H5 m o) := ktp_upd em (fun xs z => by cases z)
              have kk6 : KTp H2 (upd H5 m o) := kk4.trans ((ktp_same s5).trans k6)
              refine qD _ (os ++ [wa]) _ (Same.mut (sm4.trans s5) nm) (ndat_le nd6 (by rw [List.length_append]; exact Nat.le_refl _)) mless ?_ (wl2.ktp kk6) ?_ (wt2.ktp kk6) ?_ ((wo2.ktp kk6).append (.cons (hwat.ktp kk6) .nil)) hp4 ps2
              · rw [upd_ne (ne_of (s5 _ _ el4) em (fun z => by cases z))]; exact s5 _ _ el4
              · rw [upd_ne (ne_of (s5 _ _ et4) em (fun z => by cases z))]; exact s5 _ _ et4
              · rw [upd_ne (ne_of (s5 _ _ eo4) em (fun z => by cases z))]; exact s5 _ _ eo4
            refine ⟨_, rfl, _, rfl, wa, x, rfl, hwat.ktp kk4, okx, fun e => ?_, fun b e H5 p s5 np hp => ?_⟩
            · exact fin H4 none .non (Same.refl _) rfl (by rw [e]; rfl)
            · exact fin H5 (some (p, kBox b)) (.ref p) s5 ⟨rfl, hp⟩ (by rw [e]; rfl)
          refine ⟨_, rfl, wa, x, rfl, hwat, okx, fun e => ?_, fun b e H3 p s3 np hp => ?_⟩
          · refine ⟨_, rfl, rfl, _, rfl, iff_ rfl ?_⟩
            refine goOrd _ H2 .non (Same.refl _) (by unfold blocked; rw [e]) ?_
            intro f os H5 a1 a2 a3 a4 a5 a6 a7 a8 a9 a10 a11
            exact ⟨_, _, f, ts, os, lat, or' ++ [x], rfl, a1, a2, a3, a4, a5, a6, a7, a8, a9, a10, a11⟩
          · refine ⟨_, rfl, rfl, _, rfl, ift rfl ?_⟩
            refine ⟨_, rfl, m, _, _, rfl, nd2.same s3, _, rfl, _, _, some (p, kBox b), nd2.same s3, ⟨rfl, hp⟩, ?_⟩
            have eg : oI (f (pk (some (p, kBox b)))) (.int 0) = V.int (cnt (lat ++ x :: left.drop (i + 1)) (some b) : Int) := miss_get M2 subw (b := some b) (fun z hz => by cases hz; exact out_ok e)
            have bc := blocked_cnt (l := lat ++ x :: left.drop (i + 1)) e
            rw [eg]
            refine ⟨_, _, rfl, rfl, _, rfl, ?_⟩
            by_cases c1 : 0 < cnt (lat ++ x :: left.drop (i + 1)) (some b)
            · refine ift (decide_eq_true (by omega)) ?_
              rw [decide_eq_true c1] at bc
              rw [bc, if_pos rfl] at ps2
              have et3 := s3 _ _ et2
              refine ⟨_, rfl, .inl ⟨rfl, _, SqL.of et3⟩, _, rfl, ta, _, _, rfl, rfl, et3, by rw [List.length_map]; exact size_big (by omega), ?_⟩
              have k4 : KTp H2 (upd H3 ta (.lst (ts.map V.ref ++ [V.ref wa]))) := (ktp_same s3).trans (ktp_upd et3 (fun xs z => by cases z))
              refine ⟨_, _, f, ts ++ [wa], os, lat ++ [x], or', rfl, Same.mut (sm2.trans s3) hta, (nd2.same s3).other et3, ?_, ?_, wl2.ktp k4, ?_, (wt2.ktp k4).append (.cons (hwat.ktp k4) .nil), ?_, wo2.ktp k4, ?_, ps2⟩
              · rw [List.append_assoc]; exact M2
              · rw [upd_ne nla]; exact s3 _ _ el2
              · rw [upd_same, List.map_append]; rfl
              · rw [upd_ne noa']; exact s3 _ _ eo2
              · rw [List.append_assoc]; exact pm2
            · refine iff_ (decide_eq_false (by omega)) ?_
              rw [decide_eq_false c1] at bc
              refine goOrd _ H3 (.ref p) s3 bc ?_
              intro f os H5 a1 a2 a3 a4 a5 a6 a7 a8 a9 a10 a11
              exact ⟨_, _, f, ts, os, lat, or' ++ [x], rfl, a1, a2, a3, a4, a5, a6, a7, a8, a9, a10, a11⟩
        · rintro σ H2 ⟨v5', v6', f', ts, os', lat, or', rfl, sm2, nd2, M2, el2, wl2, et2, wt2, eo2, wo2, pm2, ps2⟩
          rw [List.length_map, lenl, List.drop_length] at M2 pm2 ps2
          rw [List.append_nil] at M2 pm2
          rw [passM] at ps2
          obtain ⟨z1, z2, z3⟩ := pass_inv left [] ord pm tp
          have hs : ∀ u ∈ left, u ∈ ws := fun u hu => pm.mem_iff.mp (List.mem_append_right _ hu)
          obtain ⟨v, hv, hf⟩ := free_exists S hs c0
          have z4 := pass_less left [] ord left hv (fun u hu => hu) hf
          rw [← ps2] at z2 z4
          refine ⟨_, rfl, ⟨_, _, _, ta, f', ts, os', lat, or', rfl, sm2, nd2, M2, et2, wt2, Ne.symm noa', eo2, wo2, pm2, z2⟩, ?_⟩
          show lenL H2 ta < lenL H' la
          rw [lenL_of et2, lenL_of el, List.length_map, List.length_map, lenl, wt2.len]
          simpa using z4
    · rintro σ H1 Q1 Q2 hq ⟨u1, e1, u2, u3, e3, e4, u5, u6, e5, e6, u7, e7, z⟩
      exact ⟨u1, e1, u2, u3, e3, e4, u5, u6, e5, e6, u7, e7, hq _ _ z⟩
end
end CP
/-! HSel -/
namespace CP
open PySem PySem.Spec PyProof.Rows L2
/-- a panel that was taken, as it's kept -/
def PanelAt (H : Hp) (p : Addr) (l : List Pu.Wire) : Prop := ∃ ord, WiresAt H p ord ∧ ord.Perm l ∧ Topo l ord ∧ Sound l ∧ (∀ x ∈ l, x.ok = true) ∧ l.length ≤ 256
theorem PanelAt.same {H H' : Hp} {p : Addr} {l : List Pu.Wire} (h : PanelAt H p l) (s : Same H H') : PanelAt H' p l := by
  obtain ⟨ord, ⟨as, h1, h2⟩, r⟩ := h
  exact ⟨ord, ⟨as, s _ _ h1, h2.same s⟩, r⟩
theorem panel_len {b : Pu.Bytes} {l : List Pu.Wire} (h : Machines.panelOf b = .ok l) : l.length ≤ 256 := by
  unfold Machines.panelOf Pu.TEXTMOST at h
  by_cases c : 16384 < b.length
  · rw [if_pos c] at h; cases h
  · rw [if_neg c] at h
    unfold Pu.readPanel at h
    cases hf : Pu.textFault Pu.wireForms Pu.WIRES b with
    | some p => rw [hf] at h; cases h
    | none =>
      rw [hf] at h
      simp only at h
      obtain ⟨l1, l2⟩ := none_textFault hf
      cases hw : Pu.faultIn_ ((Pu.pieces b).map Pu.wireOf) with
      | some p => rw [hw] at h; cases h
      | none =>
        rw [hw] at h
        have : (Pu.pieces b).map Pu.wireOf = l := by injection h
        rw [← this, List.length_map]
        exact l1
theorem sent_frm {x f1 f2 : List Nat} {t : Pu.Flow} {w : Pu.Wire} (h : f1.getD w.n 0 = f2.getD w.n 0) : Pu.sent x f1 t w = Pu.sent x f2 t w := by
  unfold Pu.sent
  split <;> first | rfl | exact h
theorem goesL_frm {x f1 f2 : List Nat} (h : ∀ k, f1.getD k 0 = f2.getD k 0) (l : List Pu.Wire) : goesL x f1 l = goesL x f2 l := by
  unfold goesL
  have : goesStep x f1 = goesStep x f2 := by
    funext t w
    unfold goesStep
    rw [sent_frm (h w.n)]
  rw [this]
theorem rep_getD (n k : Nat) : (List.replicate n 0).getD k 0 = 0 := by
  rw [List.getD_eq_getElem?_getD, List.getElem?_replicate]
  split <;> rfl
section
variable {P : Program} {w : World} {K : PySem.W.Frag} {mg : Str → Option Value} {base : Heap} {ad : Ad}
abbrev s_read_panel : Stmt := topS 56
abbrev N_read_panel : List Str := ["text"]
theorem sc_read_panel : FnScope N_read_panel ["text"] (defScope s_read_panel) := ⟨rfl, rfl, rfl, by decide +kernel, rfl, by decide +kernel, by decide +kernel⟩
def sp_read_panel (K : PySem.W.Frag) : Sp := fun vs H Q _ => ∃ (a : Addr) (b : Pu.Bytes) (l : List Pu.Wire), vs = [.ref a] ∧ SqL K H a (b.map vB) ∧ b.length ≤ 100000 ∧ Machines.panelOf b = .ok l ∧ ∀ (H' : Hp) (p : Addr), Same H H' → H p = none → PanelAt H' p l → Q (.ref p) H'
theorem ok_read_panel {f : Addr} {fd : FuncData} (F : Fun K "read_panel" "read_panel" s_read_panel f fd) (D_in_running_order : Dcl P w K mg base 3 "in_running_order" ["wires"] sp_order) (D_wires_of : Dcl P w K mg base 6 "wires_of" ["text"] (sp_wires_of K)) : FnOk P w K mg base CX0 7 f fd ["text"] (sp_read_panel K) := by
  refine F.ok sc_read_panel (fun vs H Q E h => ?_) (fun cdv A outer s H vs Q E hr h => ?_)
  · obtain ⟨a, b, l, rfl, _⟩ := h; rfl
  · obtain ⟨a, b, l, rfl, ha, hl, hp, q⟩ := h
    obtain ⟨p1, p2, p3, p4, p5⟩ := panel_ok hp
    have p6 := panel_len hp
    refine ⟨_, (pss_one (ps_ret (pe_call D_in_running_order.ok (hr.mono (by decide)) (by rfl) D_in_running_order.g D_in_running_order.kp D_in_running_order.b .nil pass0 (pa_cons (pe_call D_wires_of.ok (hr.mono (by decide)) (by rfl) D_wires_of.g D_wires_of.kp D_wires_of.b .nil pass0 (pa_cons (pv 0) pa_nil)) pa_nil)))), ?_⟩
    refine ⟨_, rfl, a, b, rfl, ha, hl, p2, fun H1 p s1 n1 h1 => ?_⟩
    rw [← p3] at h1
    refine ⟨p, l, rfl, h1, p6, p5, p4, fun H2 r ord s2 n2 h2 pm tp => ?_⟩
    exact q H2 r (s1.trans s2) (s1.free n2) ⟨ord, h2, pm, tp, p4, p5, p6⟩
abbrev s_is_selected : Stmt := topS 142
abbrev N_is_selected : List Str := ["panel", "card", "goes"]
theorem sc_is_selected : FnScope N_is_selected ["panel", "card"] (defScope s_is_selected) := ⟨rfl, rfl, rfl, by decide +kernel, rfl, by decide +kernel, by decide +kernel⟩
def sp_is_selected : Sp := fun vs H Q _ => ∃ (pa ca : Addr) (l : List Pu.Wire) (x : Pu.Card), vs = [.ref pa, .ref ca] ∧ PanelAt H pa l ∧ H ca = some (.lst (x.map vN)) ∧ COk x ∧ ∀ H', Same H H' → Q (.bl (Pu.gets l x)) H'
theorem ok_is_selected {f : Addr} {fd : FuncData} (F : Fun K "is_selected" "is_selected" s_is_selected f fd) (D_run_panel : Dcl P w K mg base 4 "run_panel" ["panel", "card", "machine"] (sp_run_panel K)) (D_silent_machine : Dcl P w K mg base 2 "silent_machine" [] sp_silent_machine) (D_machine_gets : Dcl P w K mg base 1 "machine_gets" ["goes", "place"] sp_machine_gets) : FnOk P w K mg base CX0 5 f fd ["panel", "card"] sp_is_selected := by
  refine F.ok sc_is_selected (fun vs H Q E h => ?_) (fun cdv A outer s H vs Q E hr h => ?_)
  · obtain ⟨pa, ca, l, x, rfl, _⟩ := h; rfl
  · obtain ⟨pa, ca, l, x, rfl, ⟨ord, hw, pm, tp, so, okl, ll⟩, hx, ox, q⟩ := h
    refine ⟨_, (pss_cons (ps_set (i := 2) sc_is_selected.nd rfl (Or.inl rfl) (pe_call D_run_panel.ok (hr.mono (by decide)) (by rfl) D_run_panel.g D_run_panel.kp D_run_panel.b .nil pass0 (pa_cons (pv 0) (pa_cons (pv 1) (pa_cons (pe_call0 D_silent_machine.ok (hr.mono (by decide)) (by rfl) D_silent_machine.g D_silent_machine.kp D_silent_machine.b .nil pass0) pa_nil)))))
      (pss_one (ps_ret (pe_cmpR op_gt (pe_call D_machine_gets.ok (hr.mono (by decide)) (by rfl) D_machine_gets.g D_machine_gets.kp D_machine_gets.b .nil pass0 (pa_cons (pv 2) (pa_cons pe_int pa_nil))) pe_int (nomark _))))), ?_⟩
    refine ⟨_, rfl, _, rfl, rfl, fun H1 ma s1 n1 h1 => ?_⟩
    have hw1 : WiresAt H1 pa ord := by
      obtain ⟨as, z1, z2⟩ := hw
      exact ⟨as, s1 _ _ z1, z2.same s1⟩
    have oko : ∀ y ∈ ord, y.ok = true := fun y hy => okl y (pm.mem_iff.mp hy)
    refine ⟨pa, ca, ma, ord, x, List.replicate 256 0, rfl, hw1, by rw [pm.length_eq]; exact ll, oko, SqL.of (s1 _ _ hx), ox.1, ox.2, SqL.of h1, by decide, fun h hh => by rw [(List.mem_replicate.mp hh).2]; decide, fun H2 g s2 hg => ?_⟩
    refine ⟨_, rfl, g, 0, _, rfl, hg, fun H3 s3 => ?_⟩
    refine ⟨_, _, rfl, rfl, ?_⟩
    refine qbl (q _ (s1.trans (s2.trans s3))) ?_
    unfold Pu.gets Pu.noSending
    rw [flow_is so pm tp okl, goesL_frm (x := x) (f1 := List.replicate 256 0) (f2 := []) (fun k => by rw [rep_getD]; rfl) ord]
    generalize goesL x [] ord 0 0 = n
    cases n with
    | zero => rfl
    | succ n =>
      have : (0 : Int) < ((n + 1 : Nat) : Int) := by omega
      rw [decide_eq_true this]
      rfl
abbrev s_select_cards : Stmt := topS 143
abbrev N_select_cards : List Str := ["panel", "deck", "pockets", "card"]
theorem sc_select_cards : FnScope N_select_cards ["panel", "deck"] (defScope s_select_cards) := ⟨rfl, rfl, rfl, by decide +kernel, rfl, by decide +kernel, by decide +kernel⟩
def sp_select_cards : Sp := fun vs H Q _ => ∃ (pa a : Addr) (l : List Pu.Wire) (d : Pu.Deck), vs = [.ref pa, .ref a] ∧ PanelAt H pa l ∧ DeckAt H a d ∧ DOk d ∧ d.length ≤ 4000 ∧ ∀ (H' : Hp) (p : Addr), Same H H' → PocketsAt H' p 2 (fun i => ([(Pu.selected l d).1, (Pu.selected l d).2] : List Pu.Deck).getD i []) → Q (.ref p) H'
theorem ok_select_cards {f : Addr} {fd : FuncData} (F : Fun K "select_cards" "select_cards" s_select_cards f fd) (D_is_selected : Dcl P w K mg base 5 "is_selected" ["panel", "card"] sp_is_selected) : FnOk P w K mg base CX0 6 f fd ["panel", "deck"] sp_select_cards := by
  refine F.ok sc_select_cards (fun vs H Q E h => ?_) (fun cdv A outer s H vs Q E hr h => ?_)
  · obtain ⟨pa, a, l, d, rfl, _⟩ := h; rfl
  · obtain ⟨pa, a, l, d, rfl, hp, ⟨as, ea, ca⟩, od, hl, q⟩ := h
    have hlen := ca.len
    refine ⟨_, (pss_cons (ps_set (i := 2) sc_select_cards.nd rfl (Or.inl rfl) (pe_lst (pa_cons (pe_lst pa_nil) (pa_cons (pe_lst pa_nil) pa_nil))))
      (pss_cons (ps_for PassesOwn.never rfl (pi_list (pv 1)) (pg_name (i := 3) sc_select_cards.nd rfl (Or.inl rfl))
      (pss_one (ps_if (pt_val (pe_call D_is_selected.ok (hr.mono (by decide)) (by rfl) D_is_selected.g D_is_selected.kp D_is_selected.b .nil pass0 (pa_cons (pv 0) (pa_cons (pv 3) pa_nil))))
      (pss_one (ps_expr (pe_bm PySem.F.plainAttrs_list PySem.F.slot_list_append PySem.F.type_list_append mt_append (pe_ix ix_list (pv 2) pe_int (fun _ _ => rfl)) (pa_cons (pv 3) pa_nil))))
      (pss_one (ps_expr (pe_bm PySem.F.plainAttrs_list PySem.F.slot_list_append PySem.F.type_list_append mt_append (pe_ix ix_list (pv 2) pe_int (fun _ _ => rfl)) (pa_cons (pv 3) pa_nil)))))))
      (pss_one (ps_ret (pv 2))))), ?_⟩
    refine ⟨Nat.zero_le _, fun p0 n0 => ?_⟩
    refine ⟨Nat.zero_le _, fun p1 n1 => ?_⟩
    refine ⟨(by show 2 ≤ sizeLine; decide), fun D nD => ?_⟩
    have t0 := same_upd (o := .lst []) n0
    have t1 := same_upd (o := .lst []) n1
    have t2 := same_upd (o := .lst [V.ref p0, V.ref p1]) nD
    have n1' : H p1 = none := t0.free n1
    have nD' : H D = none := t0.free (t1.free nD)
    have d01 : p0 ≠ p1 := fun z => by rw [← z, upd_same] at n1; cases n1
    have d0D : p0 ≠ D := fun z => by rw [← z, t1 _ _ upd_same] at nD; cases nD
    have d1D : p1 ≠ D := fun z => by rw [← z, upd_same] at nD; cases nD
    refine ⟨_, rfl, a, rfl, ⟨_, SqL.of ((t0.trans (t1.trans t2)) _ _ ea)⟩, ?_⟩
    refine for_list (K := K) (a := a) (xs := as.map V.ref) (fun i σ H' => ∃ v3, σ = [some (.ref pa), some (.ref a), some (.ref D), v3] ∧ Same H H' ∧ H' D = some (.lst [V.ref p0, V.ref p1]) ∧ DeckAt H' p0 ((d.take i).filter fun x => !Pu.gets l x) ∧ DeckAt H' p1 ((d.take i).filter (Pu.gets l))) ?_ ?_ ?_ ?_
    · exact ⟨none, rfl, t0.trans (t1.trans t2), upd_same, ⟨[], t2 _ _ (t1 _ _ upd_same), .nil⟩, ⟨[], t2 _ _ upd_same, .nil⟩⟩
    · rintro i σ H' _ ⟨v3, rfl, sm, _⟩
      exact SqL.of (sm _ _ ea)
    · rintro i y σ H' hy ⟨v3, rfl, sm, eD, k0, k1⟩
      have hi : i < d.length := by
        apply Classical.byContradiction; intro z
        rw [List.getElem?_eq_none (by rw [List.length_map]; omega)] at hy; cases hy
      have hd : d[i]? = some d[i] := List.getElem?_eq_getElem hi
      obtain ⟨b, e1, e2⟩ := ca.get hd
      rw [List.getElem?_map, e1] at hy
      have ey : y = .ref b := (Option.some.inj hy).symm
      subst ey
      have ox := od _ (List.getElem_mem hi)
      have etk : d.take (i + 1) = d.take i ++ [d[i]] := by rw [List.take_add_one, hd]; rfl
      generalize d[i] = x at *
      refine ⟨_, rfl, _, rfl, pa, b, l, x, rfl, hp.same sm, sm _ _ e2, ox, fun H2 s2 => ?_⟩
      have sm2 := sm.trans s2
      have eD2 := s2 _ _ eD
      have k02 := k0.same s2
      have k12 := k1.same s2
      have dk : ∀ g : Pu.Card → Bool, DOk ((d.take i).filter g) := fun g z hz => od z (List.mem_of_mem_take (List.mem_filter.mp hz).1)
      have dl : ∀ g : Pu.Card → Bool, ((d.take i).filter g).length ≤ 4000 := fun g => by
        refine Nat.le_trans (List.length_filter_le _ _) ?_
        rw [List.length_take]; omega
      have hb := sm2 _ _ e2
      refine ⟨_, rfl, ?_⟩
      rw [etk, List.filter_append, List.filter_append]
      cases hg : Pu.gets l x with
      | true =>
        refine ift rfl ?_
        obtain ⟨bs, f1, f2⟩ := k12
        refine ⟨_, rfl, D, _, _, _, rfl, rfl, SqL.of eD2, at_one, .inl ⟨rfl, _, SqL.of f1⟩, _, rfl, p1, _, _, rfl, rfl, f1, by rw [List.length_map, f2.len]; exact size_big (Nat.le_trans (dl _) (by decide)), ?_⟩
        refine ⟨_, rfl, Same.mut sm2 n1', by rw [upd_ne (Ne.symm d1D)]; exact eD2, ?_, ?_⟩
        · rw [List.filter_cons_of_neg (by rw [hg]; decide), List.filter_nil, List.append_nil]
          exact k02.upd (dk _) d01 f1
        · rw [List.filter_cons_of_pos hg, List.filter_nil]
          exact DeckAt.push f1 f2 (dk _) hb ox
      | false =>
        refine iff_ rfl ?_
        obtain ⟨bs, f1, f2⟩ := k02
        refine ⟨_, rfl, D, _, _, _, rfl, rfl, SqL.of eD2, at_zero, .inl ⟨rfl, _, SqL.of f1⟩, _, rfl, p0, _, _, rfl, rfl, f1, by rw [List.length_map, f2.len]; exact size_big (Nat.le_trans (dl _) (by decide)), ?_⟩
        refine ⟨_, rfl, Same.mut sm2 n0, by rw [upd_ne (Ne.symm d0D)]; exact eD2, ?_, ?_⟩
        · rw [List.filter_cons_of_pos (by rw [hg]; rfl), List.filter_nil]
          exact DeckAt.push f1 f2 (dk _) hb ox
        · rw [List.filter_cons_of_neg (by rw [hg]; decide), List.filter_nil, List.append_nil]
          exact k12.upd (dk _) (Ne.symm d01) f1
    · rintro σ H' ⟨v3, rfl, sm, eD, k0, k1⟩
      rw [List.length_map, hlen, List.take_length] at k0 k1
      refine ⟨_, rfl, q H' D sm ⟨[p0, p1], eD, rfl, fun k q' hk' => ?_⟩⟩
      match k, hk' with
      | 0, hk' => cases hk'; exact k0
      | 1, hk' => cases hk'; exact k1
end
end CP
/-! HDesk1 -/
namespace CP
open PySem PySem.Spec PyProof.Rows L2
/-- where the desk's classes stand -/
structure AdD where
  cR : Addr
structure TxtD (P : Program) (w : World) (K : PySem.W.Frag) (mg : Str → Option Value) (ad : Ad) (dd : AdD) : Prop extends Txt P w K mg ad where
  cl_CallReader : Cls K dd.cR
  n_calls : NoAttr K dd.cR "calls"
  n_place : NoAttr K dd.cR "place"
  g_THE_PASS : ∃ t, mg "THE_PASS" = some (.int 1 t)
  g_FOLLOW : ∃ t, mg "FOLLOW" = some (.int 2 t)
  g_COLLATE : ∃ t, mg "COLLATE" = some (.int 3 t)
  g_SELECT : ∃ t, mg "SELECT" = some (.int 4 t)
  g_SETCOPY : ∃ t, mg "SETCOPY" = some (.int 5 t)
  g_WRONG_NUMBERS : ∃ t, mg "WRONG_NUMBERS" = some (.int (-3) t)
  g_FIRST_OUT_OF_SEQUENCE : ∃ t, mg "FIRST_OUT_OF_SEQUENCE" = some (.int (-5) t)
  g_SECOND_OUT_OF_SEQUENCE : ∃ t, mg "SECOND_OUT_OF_SEQUENCE" = some (.int (-6) t)
  g_NO_DECK : ∃ t, mg "NO_DECK" = some (.int (-8) t)
def rdF (la : Addr) (i : Nat) : List (Str × V) := [("calls", .ref la), ("place", .int (i : Int))]
theorem rdF_calls (la : Addr) (i : Nat) : (rdF la i).lookup ("calls" : Str) = some (.ref la) := lk_here
theorem rdF_place (la : Addr) (i : Nat) : (rdF la i).lookup ("place" : Str) = some (.int (i : Int)) := (lk_past (by decide +kernel)).trans lk_here
theorem rdF_no {m : Str} (la : Addr) (i : Nat) (h1 : (m == ("calls" : Str)) = false) (h2 : (m == ("place" : Str)) = false) : (rdF la i).lookup m = none := (lk_past h1).trans ((lk_past h2).trans rfl)
theorem rdF_put (la : Addr) (i n : Nat) {z : Int} (e : z = (n : Int)) : putF "place" (.int z) (rdF la i) = rdF la n := by
  subst e
  exact (put_past (by decide +kernel)).trans (congrArg _ put_here)
theorem rdF_new (la : Addr) : putF "place" (.int 0) (putF "calls" (.ref la) []) = rdF la 0 := (put_past (by decide +kernel)).trans rfl
theorem at_ints {cs : List Int} {i : Nat} {z k : Int} (h : cs[i]? = some z) (e : k = (i : Int)) : atI (cs.map V.int) k = some (.int z) := at_of (j := i) e (by rw [List.getElem?_map, h]; rfl)
/-- the reader, read up to i -/
def RdAt (dd : AdD) (H : Hp) (p la : Addr) (i : Nat) : Prop := ∃ dx, H p = some (.ins dd.cR dx (rdF la i))
theorem RdAt.same {dd : AdD} {H H' : Hp} {p la : Addr} {i : Nat} (h : RdAt dd H p la i) (s : Same H H') : RdAt dd H' p la i := by
  obtain ⟨dx, e⟩ := h
  exact ⟨dx, s _ _ e⟩
theorem RdAt.seq {K : PySem.W.Frag} {dd : AdD} {H H' : Hp} {p la a : Addr} {i : Nat} {xs : List V} (h : RdAt dd H p la i) (s : SB p H H') (q : SqL K H a xs) : SqL K H' a xs := by
  obtain ⟨dx, e⟩ := h
  exact s.seq' e q
theorem RdAt.lst {dd : AdD} {H H' : Hp} {p la a : Addr} {i : Nat} {xs : List V} (h : RdAt dd H p la i) (s : SB p H H') (q : H a = some (.lst xs)) : H' a = some (.lst xs) := by
  obtain ⟨dx, e⟩ := h
  exact s _ _ q (ne_of q e (fun z => by cases z))
theorem RdAt.deck {dd : AdD} {H H' : Hp} {p la a : Addr} {i : Nat} {d : Pu.Deck} (h : RdAt dd H p la i) (s : SB p H H') (q : DeckAt H a d) : DeckAt H' a d := by
  obtain ⟨as, e, c⟩ := q
  refine ⟨as, h.lst s e, ?_⟩
  clear e
  induction c with
  | nil => exact .nil
  | cons e _ ih => exact .cons (h.lst s e) ih
theorem RdAt.fresh {dd : AdD} {H H' : Hp} {p la r : Addr} {i : Nat} (h : RdAt dd H' p la i) (s : SB p H H') (n : H' r = none) : H r = none := by
  obtain ⟨dx, e⟩ := h
  exact fresh_sb s (by rw [e]; exact fun z => by cases z) n
section
variable {P : Program} {w : World} {K : PySem.W.Frag} {mg : Str → Option Value} {base : Heap} {ad : Ad} {dd : AdD}
abbrev s_CallReader___init__ : Stmt := inClass (topS 172) 0
abbrev N_CallReader___init__ : List Str := ["self", "calls"]
theorem sc_CallReader___init__ : FnScope N_CallReader___init__ ["self", "calls"] (defScope s_CallReader___init__) := ⟨rfl, rfl, rfl, by decide +kernel, rfl, by decide +kernel, by decide +kernel⟩
def sp_rd_init (dd : AdD) : Sp := fun vs H Q _ => ∃ (p la dx : Addr), vs = [.ref p, .ref la] ∧ H p = some (.ins dd.cR dx []) ∧ ∀ H' : Hp, RdAt dd H' p la 0 → SB p H H' → Q .non H'
theorem ok_rd_init {f : Addr} {fd : FuncData} (F : Fun K "__init__" "CallReader.__init__" s_CallReader___init__ f fd) (T : TxtD P w K mg ad dd) : FnOk P w K mg base CX0 1 f fd ["self", "calls"] (sp_rd_init dd) := by
  refine F.ok sc_CallReader___init__ (fun vs H Q E h => ?_) (fun cdv A outer s H vs Q E hr h => ?_)
  · obtain ⟨p, la, dx, rfl, _⟩ := h; rfl
  · obtain ⟨p, la, dx, rfl, hp, q⟩ := h
    refine ⟨_, (pss_cons (ps_fld (pv 0) (pv 1) rfl)
      (pss_one (ps_fld (pv 0) pe_int rfl))), ?_⟩
    refine ⟨_, rfl, _, rfl, p, dd.cR, dx, _, rfl, hp, T.cl_CallReader, T.n_calls, (by show 0 < 1000; decide), ?_⟩
    refine ⟨_, rfl, p, dd.cR, dx, _, rfl, upd_same, T.cl_CallReader, T.n_place, (by show 1 < 1000; decide), ?_⟩
    refine q _ ⟨dx, ?_⟩ ?_
    · rw [upd_same, rdF_new]
    · exact (SB.upd p H _).trans (SB.upd p _ _)
abbrev s_CallReader_at_end : Stmt := inClass (topS 172) 1
abbrev N_CallReader_at_end : List Str := ["self"]
theorem sc_CallReader_at_end : FnScope N_CallReader_at_end ["self"] (defScope s_CallReader_at_end) := ⟨rfl, rfl, rfl, by decide +kernel, rfl, by decide +kernel, by decide +kernel⟩
def sp_at_end (K : PySem.W.Frag) (dd : AdD) : Sp := fun vs H Q _ => ∃ (p la : Addr) (i : Nat) (cs : List Int), vs = [.ref p] ∧ RdAt dd H p la i ∧ SqL K H la (cs.map V.int) ∧ Q (.bl (decide (i = cs.length))) H
theorem ok_at_end {f : Addr} {fd : FuncData} (F : Fun K "at_end" "CallReader.at_end" s_CallReader_at_end f fd) (T : TxtD P w K mg ad dd) : FnOk P w K mg base CX0 1 f fd ["self"] (sp_at_end K dd) := by
  refine F.ok sc_CallReader_at_end (fun vs H Q E h => ?_) (fun cdv A outer s H vs Q E hr h => ?_)
  · obtain ⟨p, la, i, cs, rfl, _⟩ := h; rfl
  · obtain ⟨p, la, i, cs, rfl, ⟨dx, hp⟩, hl, q⟩ := h
    refine ⟨_, (pss_one (ps_ret (pe_cmpR op_eq (pe_fld (pv 0) rfl) (pe_callB call_len_seq (by rfl) T.b_len PySem.boot_len (pa_cons (pe_fld (pv 0) rfl) pa_nil)) (nomark _)))), ?_⟩
    refine ⟨_, rfl, p, dd.cR, dx, _, _, rfl, hp, T.cl_CallReader, T.n_place, rdF_place la i, _, rfl, p, dd.cR, dx, _, _, rfl, hp, T.cl_CallReader, T.n_calls, rdF_calls la i, la, _, rfl, .inl hl, ?_⟩
    refine ⟨rfl, qbl q ?_⟩
    rw [List.length_map]
    by_cases h : i = cs.length
    · rw [decide_eq_true h, decide_eq_true (by rw [h])]
    · rw [decide_eq_false h, decide_eq_false (fun z => h (by have := V.int.inj z; omega))]
abbrev s_CallReader_next_number : Stmt := inClass (topS 172) 2
abbrev N_CallReader_next_number : List Str := ["self"]
theorem sc_CallReader_next_number : FnScope N_CallReader_next_number ["self"] (defScope s_CallReader_next_number) := ⟨rfl, rfl, rfl, by decide +kernel, rfl, by decide +kernel, by decide +kernel⟩
def sp_next_number (K : PySem.W.Frag) (dd : AdD) : Sp := fun vs H Q _ => ∃ (p la : Addr) (i : Nat) (cs : List Int) (z : Int), vs = [.ref p] ∧ RdAt dd H p la i ∧ SqL K H la (cs.map V.int) ∧ cs[i]? = some z ∧ ∀ H', SB p H H' → RdAt dd H' p la (i + 1) → Q (.int z) H'
theorem ok_next_number {f : Addr} {fd : FuncData} (F : Fun K "next_number" "CallReader.next_number" s_CallReader_next_number f fd) (T : TxtD P w K mg ad dd) : FnOk P w K mg base CX0 1 f fd ["self"] (sp_next_number K dd) := by
  refine F.ok sc_CallReader_next_number (fun vs H Q E h => ?_) (fun cdv A outer s H vs Q E hr h => ?_)
  · obtain ⟨p, la, i, cs, z, rfl, _⟩ := h; rfl
  · obtain ⟨p, la, i, cs, z, rfl, ⟨dx, hp⟩, hl, hz, q⟩ := h
    refine ⟨_, (pss_cons (ps_fldaug (pv 0) pe_int in_add)
      (pss_one (ps_ret (pe_ix ix_list (pe_fld (pv 0) rfl) (pe_op op_sub (pe_fld (pv 0) rfl) pe_int) (fun _ _ => rfl))))), ?_⟩
    refine ⟨_, rfl, p, dd.cR, dx, _, _, rfl, hp, T.cl_CallReader, T.n_place, rdF_place la i, _, _, rfl, rfl, dx, _, hp, (by show 2 < 1000; decide), ?_⟩
    rw [rdF_put la i (i + 1) (by omega)]
    have sb := SB.upd p H (.ins dd.cR dx (rdF la (i + 1)))
    have hl1 : SqL K (upd H p (.ins dd.cR dx (rdF la (i + 1)))) la (cs.map V.int) := sb.seq' hp hl
    refine ⟨_, rfl, p, dd.cR, dx, _, _, rfl, upd_same, T.cl_CallReader, T.n_calls, rdF_calls la _, _, rfl, p, dd.cR, dx, _, _, rfl, upd_same, T.cl_CallReader, T.n_place, rdF_place la _, _, _, rfl, rfl, la, _, _, _, rfl, rfl, hl1, at_ints hz (by omega), ?_⟩
    exact q _ sb ⟨dx, upd_same⟩
abbrev s_CallReader_next_row : Stmt := inClass (topS 172) 3
abbrev N_CallReader_next_row : List Str := ["self", "begin"]
theorem sc_CallReader_next_row : FnScope N_CallReader_next_row ["self"] (defScope s_CallReader_next_row) := ⟨rfl, rfl, rfl, by decide +kernel, rfl, by decide +kernel, by decide +kernel⟩
def sp_next_row (K : PySem.W.Frag) (dd : AdD) : Sp := fun vs H Q _ => ∃ (p la : Addr) (i : Nat) (cs row rest : List Int), vs = [.ref p] ∧ RdAt dd H p la i ∧ SqL K H la (cs.map V.int) ∧ cs.drop i = (row.length : Int) :: row ++ rest ∧ ∀ H' r, SB p H H' → RdAt dd H' p la (i + 1 + row.length) → H r = none → H' r = some (.lst (row.map V.int)) → Q (.ref r) H'
theorem ok_next_row {f : Addr} {fd : FuncData} (F : Fun K "next_row" "CallReader.next_row" s_CallReader_next_row f fd) (T : TxtD P w K mg ad dd) : FnOk P w K mg base CX0 1 f fd ["self"] (sp_next_row K dd) := by
  refine F.ok sc_CallReader_next_row (fun vs H Q E h => ?_) (fun cdv A outer s H vs Q E hr h => ?_)
  · obtain ⟨p, la, i, cs, row, rest, rfl, _⟩ := h; rfl
  · obtain ⟨p, la, i, cs, row, rest, rfl, ⟨dx, hp⟩, hl, hz, q⟩ := h
    refine ⟨_, (pss_cons (ps_set (i := 1) sc_CallReader_next_row.nd rfl (Or.inl rfl) (pe_op op_add (pe_fld (pv 0) rfl) pe_int))
      (pss_cons (ps_fld (pv 0) (pe_op op_add (pv 1) (pe_ix ix_list (pe_fld (pv 0) rfl) (pe_fld (pv 0) rfl) (fun _ _ => rfl))) rfl)
      (pss_one (ps_ret (pe_slice sl_list (pe_fld (pv 0) rfl) (po_some (pv 1)) (po_some (pe_fld (pv 0) rfl))))))), ?_⟩
    refine ⟨_, rfl, p, dd.cR, dx, _, _, rfl, hp, T.cl_CallReader, T.n_place, rdF_place la i, _, _, rfl, rfl, ?_⟩
    have hlen : i + 1 + row.length ≤ cs.length := by
      have := congrArg List.length hz
      rw [List.length_drop] at this
      simp only [List.cons_append, List.length_cons, List.length_append] at this
      omega
    have hz0 : cs[i]? = some (row.length : Int) := by
      have : (cs.drop i)[0]? = some (row.length : Int) := by rw [hz]; rfl
      rwa [List.getElem?_drop, Nat.add_zero] at this
    have hrow : (cs.drop (i + 1)).take row.length = row := by
      have : cs.drop (i + 1) = row ++ rest := by rw [← List.drop_drop, hz]; rfl
      rw [this, List.take_left]
    refine ⟨_, rfl, _, rfl, p, dd.cR, dx, _, _, rfl, hp, T.cl_CallReader, T.n_calls, rdF_calls la i, _, rfl, p, dd.cR, dx, _, _, rfl, hp, T.cl_CallReader, T.n_place, rdF_place la i, la, _, _, _, rfl, rfl, hl, at_ints hz0 rfl, _, _, rfl, rfl, _, rfl, p, dd.cR, dx, _, rfl, hp, T.cl_CallReader, T.n_place, (by show 2 < 1000; decide), ?_⟩
    have ez : ((i : Int) + 1) + (row.length : Int) = ((i + 1 + row.length : Nat) : Int) := by omega
    generalize hX : putF _ _ (rdF la i) = X
    obtain rfl : X = rdF la (i + 1 + row.length) := hX.symm.trans (rdF_put la i (i + 1 + row.length) ez)
    clear hX
    have sb := SB.upd p H (.ins dd.cR dx (rdF la (i + 1 + row.length)))
    have hl1 : SqL K (upd H p (.ins dd.cR dx (rdF la (i + 1 + row.length)))) la (cs.map V.int) := sb.seq' hp hl
    have hp1 : (upd H p (.ins dd.cR dx (rdF la (i + 1 + row.length)))) p = some (.ins dd.cR dx (rdF la (i + 1 + row.length))) := upd_same
    generalize upd H p (.ins dd.cR dx (rdF la (i + 1 + row.length))) = H1 at *
    refine ⟨_, rfl, p, dd.cR, dx, _, _, rfl, hp1, T.cl_CallReader, T.n_calls, rdF_calls la _, _, rfl, _, rfl, _, rfl, p, dd.cR, dx, _, _, rfl, hp1, T.cl_CallReader, T.n_place, rdF_place la _, _, rfl, la, _, rfl, hl1, fun r nr => ?_⟩
    have t1 := same_upd (o := .lst (cutV (cs.map V.int) (some ((i : Int) + 1)) (some ((i + 1 + row.length : Nat) : Int)))) nr
    refine q _ r (sb.trans (SB.of t1)) ⟨dx, t1 _ _ hp1⟩ (RdAt.fresh (dd := dd) ⟨dx, hp1⟩ sb nr) ?_
    rw [upd_same, cut_nat (i := i + 1) (j := i + 1 + row.length) (by rw [List.length_map]; omega) (by rw [List.length_map]; omega) (by omega) rfl, ← List.map_drop, ← List.map_take, Nat.add_sub_cancel_left, hrow]
end
end CP
/-! HDesk2 -/
namespace CP
open PySem PySem.Spec PyProof.Rows L2
section
variable {P : Program} {w : World} {K : PySem.W.Frag} {mg : Str → Option Value} {base : Heap} {ad : Ad} {dd : AdD}
abbrev s_tell_pockets : Stmt := topS 174
abbrev N_tell_pockets : List Str := ["pockets", "order", "pocket"]
theorem sc_tell_pockets : FnScope N_tell_pockets ["pockets", "order"] (defScope s_tell_pockets) := ⟨rfl, rfl, rfl, by decide +kernel, rfl, by decide +kernel, by decide +kernel⟩
def pockN (n : Nat) (g : Nat → Pu.Deck) : List Int := (List.range n).map fun i => ((g i).length : Int)
def sp_tell_pockets (K : PySem.W.Frag) : Sp := fun vs H Q _ => ∃ (p a : Addr) (n : Nat) (g : Nat → Pu.Deck) (s : List Int), vs = [.ref p, .ref a] ∧ PocketsAt H p n g ∧ n ≤ 13 ∧ SqL K H a (s.map V.int) ∧ (∀ z ∈ s, 0 ≤ z ∧ z < (n : Int)) ∧ (∀ i, DOk (g i)) ∧ (∀ i, (g i).length ≤ 4000) ∧
  ((s.map Int.toNat).flatMap g).length ≤ 13000 ∧ NewL H Q ((0 :: (pockN n g ++ Machines.deckNums ((s.map Int.toNat).flatMap g))).map V.int)
theorem ok_tell_pockets {f : Addr} {fd : FuncData} (F : Fun K "tell_pockets" "tell_pockets" s_tell_pockets f fd) (T : TxtD P w K mg ad dd) (D_stack : Dcl P w K mg base 1 "stack" ["pockets", "order"] (sp_stack K)) (D_tell_deck : Dcl P w K mg base 2 "tell_deck" ["deck"] sp_tell_deck) : FnOk P w K mg base CX0 3 f fd ["pockets", "order"] (sp_tell_pockets K) := by
  refine F.ok sc_tell_pockets (fun vs H Q E h => ?_) (fun cdv A outer s H vs Q E hr h => ?_)
  · obtain ⟨p, a, n, g, s, rfl, _⟩ := h; rfl
  · obtain ⟨p, a, n, g, s, rfl, hpk, hn, ha, hs, od, lg, lf, q⟩ := h
    obtain ⟨qs, ep, lq, hq⟩ := hpk
    refine ⟨_, (pss_one (ps_ret (pe_op op_cat (pe_op op_cat (pe_lst (pa_cons pe_int pa_nil)) (pe_lc (own := [("pocket", 2)]) (g := gName 2) (tt := tYes) (te := tCB (fun xs H Q => ∃ p ys, xs = [V.ref p] ∧ (SqL K H p ys ∨ SqT K H p ys) ∧ Q (V.int ys.length) H) (tCons (tVar 2) tNil)) (by rfl) sc_tell_pockets.nd (pi_list (pv 0)) (blkOk_by (own := [("pocket", 2)]) (N := N_tell_pockets) (sc := defScope s_tell_pockets) (by decide +kernel)) (fun _ _ _ _ _ => pg_name (i := 2) sc_tell_pockets.nd rfl (Or.inl rfl)) (fun _ _ _ _ _ => pts_nil) (fun _ _ _ _ _ => (pe_callB call_len_seq (by rfl) T.b_len PySem.boot_len (pa_cons (pv 2) pa_nil))))) (pe_call D_tell_deck.ok (hr.mono (by decide)) (by rfl) D_tell_deck.g D_tell_deck.kp D_tell_deck.b .nil pass0 (pa_cons (pe_call D_stack.ok (hr.mono (by decide)) (by rfl) D_stack.g D_stack.kp D_stack.b .nil pass0 (pa_cons (pv 0) (pa_cons (pv 1) pa_nil))) pa_nil))))), ?_⟩
    refine ⟨(by show 1 ≤ sizeLine; decide), fun r0 n0 => ?_⟩
    have t0 := same_upd (o := .lst [V.int 0]) n0
    refine ⟨_, rfl, p, rfl, ⟨_, SqL.of (t0 _ _ ep)⟩, fun D nD => ?_⟩
    have nDH : H D = none := t0.free nD
    refine lc_list (K := K) (a := p) (xs := qs.map V.ref) (fun i H' => Same (upd H r0 (.lst [V.int 0])) H' ∧ H' D = some (.lst ((pockN i g).map V.int))) ⟨same_upd nD, upd_same⟩ ?_ ?_ ?_
    · rintro i H' _ ⟨sm, _⟩
      exact SqL.of (sm _ _ (t0 _ _ ep))
    · rintro i y H' hy ⟨sm, eD⟩
      have hi : i < qs.length := by
        apply Classical.byContradiction; intro z
        rw [List.getElem?_eq_none (by rw [List.length_map]; omega)] at hy; cases hy
      have hqi : qs[i]? = some qs[i] := List.getElem?_eq_getElem hi
      rw [List.getElem?_map, hqi] at hy
      have ey : y = .ref qs[i] := (Option.some.inj hy).symm
      subst ey
      obtain ⟨bs, b1, b2⟩ := hq i _ hqi
      refine ⟨rfl, ?_⟩
      refine ⟨_, rfl, _, _, rfl, .inl (SqL.of (sm _ _ (t0 _ _ b1))), _, eD, by rw [List.length_map, pockN, List.length_map, List.length_range]; exact size_big (by omega), Same.mut sm nD, ?_⟩
      rw [upd_same, List.length_map, b2.len]
      unfold pockN
      rw [List.range_succ, List.map_append, List.map_append]
      rfl
    · rintro H1 ⟨sm, eD⟩
      rw [List.length_map, lq] at eD
      have s1 := t0.trans sm
      have e0 : H1 r0 = some (.lst [V.int 0]) := sm _ _ upd_same
      refine ⟨r0, D, _, _, rfl, rfl, e0, eD, ?_, fun r1 n1 => ?_⟩
      · rw [List.length_map, pockN, List.length_map, List.length_range]
        exact Nat.le_of_lt (size_big (by show 1 + n ≤ _; omega))
      have t2 := same_upd (o := .lst ([V.int 0] ++ (pockN n g).map V.int)) n1
      have s2 := s1.trans t2
      refine ⟨_, rfl, _, rfl, p, a, n, g, s, rfl, ⟨qs, s2 _ _ ep, lq, fun i q' hq' => (hq i q' hq').same s2⟩, s2.seq ha, hs, od, lf, fun H3 r3 s3 n3 h3 => ?_⟩
      refine ⟨r3, _, rfl, h3, ?_, lf, fun H4 r4 s4 n4 h4 => ?_⟩
      · intro x hx
        obtain ⟨i, _, hi⟩ := List.mem_flatMap.mp hx
        exact od i x hi
      have e1 : H4 r1 = some (.lst ([V.int 0] ++ (pockN n g).map V.int)) := s4 _ _ (s3 _ _ upd_same)
      refine ⟨r1, r4, _, _, rfl, rfl, e1, h4, ?_, fun r5 n5 => ?_⟩
      · rw [List.length_append, List.length_map, List.length_map, pockN, List.length_map, List.length_range]
        have := deckNums_len ((s.map Int.toNat).flatMap g)
        exact Nat.le_of_lt (size_big (by show 1 + n + _ ≤ _; omega))
      have t5 := same_upd (o := .lst ([V.int 0] ++ (pockN n g).map V.int ++ (Machines.deckNums ((s.map Int.toNat).flatMap g)).map V.int)) n5
      have sA := s2.trans (s3.trans (s4.trans t5))
      refine q _ r5 sA ((s2.trans (s3.trans s4)).free n5) ?_
      rw [upd_same]
      rw [List.map_cons, List.map_append]
      rfl
end
end CP
/-! HDesk3 -/
namespace CP
open PySem PySem.Spec PyProof.Rows L2
theorem rest_num {cs t : List Int} {i : Nat} {z : Int} (h : cs.drop i = z :: t) : cs[i]? = some z ∧ cs.drop (i + 1) = t := by
  constructor
  · have : (cs.drop i)[0]? = some z := by rw [h]; rfl
    rwa [List.getElem?_drop, Nat.add_zero] at this
  · rw [← List.drop_drop, h]; rfl
theorem rest_row {cs row t : List Int} {i : Nat} (h : cs.drop i = (row.length : Int) :: row ++ t) : cs.drop (i + 1 + row.length) = t := by
  rw [← List.drop_drop, (rest_num (t := row ++ t) h).2, List.drop_left]
/-- what a call that leaves the desk as it is gives back -/
def AnsR (dd : AdD) (H : Hp) (Q : VK) (p la : Addr) (i : Nat) (ans : List Int) : Prop := ∀ H' r, SB p H H' → RdAt dd H' p la i → H r = none → H' r = some (.lst (ans.map V.int)) → Q (.ref r) H'
/-- a list that's made ends it -/
theorem AnsR.made {dd : AdD} {H H' : Hp} {Q : VK} {p la : Addr} {i : Nat} {ans : List Int} (q : AnsR dd H Q p la i ans) (sb : SB p H H') (rd : RdAt dd H' p la i) : NewL H' Q (ans.map V.int) := fun H2 r s2 n2 h2 => q H2 r (sb.trans (SB.of s2)) (rd.same s2) (rd.fresh sb n2) h2
theorem flat_len {g : Nat → Pu.Deck} {n : Nat} (h : ∀ i, (g i).length ≤ n) : ∀ s : List Nat, (s.flatMap g).length ≤ n * s.length
  | [] => by simp
  | a :: s => by
    rw [List.flatMap_cons, List.length_append, List.length_cons, Nat.mul_add]
    have := flat_len h s
    have := h a
    omega
theorem nn_num {la : Addr} {i : Nat} : (rdF la i).lookup ("next_number" : Str) = none := rdF_no la i (by decide +kernel) (by decide +kernel)
theorem nn_row {la : Addr} {i : Nat} : (rdF la i).lookup ("next_row" : Str) = none := rdF_no la i (by decide +kernel) (by decide +kernel)
theorem pocket_dk {d : Pu.Deck} (od : DOk d) (c l i : Nat) : DOk (Pu.pocket c l d i) := fun x hx => od x (List.mem_filter.mp hx).1
section
open Machines MachinesNeutral
theorem pass_none {c l : Int} {s d : List Int} (e : deckOf d = none) : MachinesNeutral.told (ofDecks (.pass c l s d)) = [-8] := by
  show MachinesNeutral.told (onDeck d _) = _
  unfold onDeck
  rw [e]; rfl
theorem pass_bad {c l : Int} {s d : List Int} {dk : Pu.Deck} (e : deckOf d = some dk) (h : ¬ (0 ≤ c ∧ c < 80 ∧ 0 ≤ l ∧ (nats s).any Pu.isStack = true)) : MachinesNeutral.told (ofDecks (.pass c l s d)) = [-3] := by
  show MachinesNeutral.told (onDeck d _) = _
  unfold onDeck
  rw [e]
  show MachinesNeutral.told (if 0 ≤ c ∧ c < (Pu.COLUMNS : Int) ∧ 0 ≤ l ∧ ((nats s).any Pu.isStack) = true then _ else _) = _
  rw [if_neg (show ¬ (0 ≤ c ∧ c < (Pu.COLUMNS : Int) ∧ 0 ≤ l ∧ ((nats s).any Pu.isStack) = true) from h)]; rfl
theorem pass_fine {c l : Nat} {s d : List Int} {dk : Pu.Deck} (e : deckOf d = some dk) (h : 0 ≤ (c : Int) ∧ (c : Int) < 80 ∧ 0 ≤ (l : Int) ∧ (nats s).any Pu.isStack = true) : MachinesNeutral.told (ofDecks (.pass c l s d)) = 0 :: (pockN 13 (Pu.pocket c l dk) ++ deckNums ((s.map Int.toNat).flatMap (Pu.pocket c l dk))) := by
  show MachinesNeutral.told (onDeck d _) = _
  unfold onDeck
  rw [e]
  show MachinesNeutral.told (if 0 ≤ (c : Int) ∧ (c : Int) < (Pu.COLUMNS : Int) ∧ 0 ≤ (l : Int) ∧ ((nats s).any Pu.isStack) = true then _ else _) = _
  rw [if_pos (show 0 ≤ (c : Int) ∧ (c : Int) < (Pu.COLUMNS : Int) ∧ 0 ≤ (l : Int) ∧ ((nats s).any Pu.isStack) = true from h)]
  show 0 :: (Machines.ints (Pu.fell c l dk) ++ deckNums (Pu.passed c l (s.map Int.toNat) dk)) = _
  unfold Pu.fell Machines.ints pockN
  rw [List.map_map]
  rfl
end
section
variable {P : Program} {w : World} {K : PySem.W.Frag} {mg : Str → Option Value} {base : Heap} {ad : Ad} {dd : AdD}
abbrev s_answer_the_pass : Stmt := topS 175
abbrev N_answer_the_pass : List Str := ["reader", "c", "looked", "order", "deck", "pockets"]
theorem sc_answer_the_pass : FnScope N_answer_the_pass ["reader"] (defScope s_answer_the_pass) := ⟨rfl, rfl, rfl, by decide +kernel, rfl, by decide +kernel, by decide +kernel⟩
def sp_the_pass (K : PySem.W.Frag) (dd : AdD) : Sp := fun vs H Q _ => ∃ (p la : Addr) (i : Nat) (cs rest : List Int) (c l : Int) (s d : List Int), vs = [.ref p] ∧ RdAt dd H p la i ∧ SqL K H la (cs.map V.int) ∧ cs.drop i = c :: l :: ((s.length : Int) :: s ++ ((d.length : Int) :: d ++ rest)) ∧ s.length ≤ 100000 ∧ d.length ≤ 100000 ∧
  AnsR dd H Q p la (i + 1 + 1 + 1 + s.length + 1 + d.length) (MachinesNeutral.told (Machines.ofDecks (.pass c l s d)))
theorem ok_answer_the_pass {f : Addr} {fd : FuncData} (F : Fun K "answer_the_pass" "answer_the_pass" s_answer_the_pass f fd) (T : TxtD P w K mg ad dd) (D_CallReader_next_number : MDcl P w K mg base 1 dd.cR "next_number" ["self"] (sp_next_number K dd)) (D_CallReader_next_row : MDcl P w K mg base 1 dd.cR "next_row" ["self"] (sp_next_row K dd))
    (D_read_deck : Dcl P w K mg base 3 "read_deck" ["numbers"] (sp_read_deck K)) (D_is_pass : Dcl P w K mg base 2 "is_pass" ["c", "looked", "order"] (sp_is_pass K)) (D_drop_cards : Dcl P w K mg base 2 "drop_cards" ["deck", "c", "looked"] sp_drop_cards) (D_tell_pockets : Dcl P w K mg base 3 "tell_pockets" ["pockets", "order"] (sp_tell_pockets K)) : FnOk P w K mg base CX0 4 f fd ["reader"] (sp_the_pass K dd) := by
  refine F.ok sc_answer_the_pass (fun vs H Q E h => ?_) (fun cdv A outer s H vs Q E hr h => ?_)
  · obtain ⟨p, la, i, cs, rest, c, l, s, d, rfl, _⟩ := h; rfl
  · obtain ⟨p, la, i, cs, rest, c, l, s, d, rfl, ⟨dx, hp⟩, hl, hz, ls, ld, q⟩ := h
    obtain ⟨z1, hz1⟩ := rest_num hz
    obtain ⟨z2, hz2⟩ := rest_num hz1
    refine ⟨_, (pss_cons (ps_set (i := 1) sc_answer_the_pass.nd rfl (Or.inl rfl) (pe_meth0 (pv 0) T.cl_CallReader D_CallReader_next_number.m D_CallReader_next_number.ok (hr.mono (by decide)) D_CallReader_next_number.b .nil pass0))
      (pss_cons (ps_set (i := 2) sc_answer_the_pass.nd rfl (Or.inl rfl) (pe_meth0 (pv 0) T.cl_CallReader D_CallReader_next_number.m D_CallReader_next_number.ok (hr.mono (by decide)) D_CallReader_next_number.b .nil pass0))
      (pss_cons (ps_set (i := 3) sc_answer_the_pass.nd rfl (Or.inl rfl) (pe_meth0 (pv 0) T.cl_CallReader D_CallReader_next_row.m D_CallReader_next_row.ok (hr.mono (by decide)) D_CallReader_next_row.b .nil pass0))
      (pss_cons (ps_set (i := 4) sc_answer_the_pass.nd rfl (Or.inl rfl) (pe_call D_read_deck.ok (hr.mono (by decide)) (by rfl) D_read_deck.g D_read_deck.kp D_read_deck.b .nil pass0 (pa_cons (pe_meth0 (pv 0) T.cl_CallReader D_CallReader_next_row.m D_CallReader_next_row.ok (hr.mono (by decide)) D_CallReader_next_row.b .nil pass0) pa_nil)))
      (pss_cons (ps_if (pt_cmpR op_isN (pv 4) pe_non (nomark _))
      (pss_one (ps_ret (pe_lst (pa_cons (pe_gint (by rfl) T.g_NO_DECK) pa_nil))))
      pss_nil)
      (pss_cons (ps_if (pt_not (pt_val (pe_call D_is_pass.ok (hr.mono (by decide)) (by rfl) D_is_pass.g D_is_pass.kp D_is_pass.b .nil pass0 (pa_cons (pv 1) (pa_cons (pv 2) (pa_cons (pv 3) pa_nil))))))
      (pss_one (ps_ret (pe_lst (pa_cons (pe_gint (by rfl) T.g_WRONG_NUMBERS) pa_nil))))
      pss_nil)
      (pss_cons (ps_set (i := 5) sc_answer_the_pass.nd rfl (Or.inl rfl) (pe_call D_drop_cards.ok (hr.mono (by decide)) (by rfl) D_drop_cards.g D_drop_cards.kp D_drop_cards.b .nil pass0 (pa_cons (pv 4) (pa_cons (pv 1) (pa_cons (pv 2) pa_nil)))))
      (pss_one (ps_ret (pe_call D_tell_pockets.ok (hr.mono (by decide)) (by rfl) D_tell_pockets.g D_tell_pockets.kp D_tell_pockets.b .nil pass0 (pa_cons (pv 5) (pa_cons (pv 3) pa_nil)))))))))))), ?_⟩
    refine ⟨_, rfl, p, dx, _, rfl, hp, nn_num, p, la, i, cs, c, rfl, ⟨dx, hp⟩, hl, z1, fun H1 b1 ⟨dx1, hp1⟩ => ?_⟩
    have hl1 := b1.seq' hp hl
    refine ⟨_, rfl, p, dx1, _, rfl, hp1, nn_num, p, la, i + 1, cs, l, rfl, ⟨dx1, hp1⟩, hl1, z2, fun H2 b2 ⟨dx2, hp2⟩ => ?_⟩
    have hl2 := b2.seq' hp1 hl1
    refine ⟨_, rfl, p, dx2, _, rfl, hp2, nn_row, p, la, i + 1 + 1, cs, s, _, rfl, ⟨dx2, hp2⟩, hl2, hz2, fun H3 ra b3 rd3 n3 h3 => ?_⟩
    have hz3 := rest_row hz2
    obtain ⟨dx3, hp3⟩ := rd3
    have hl3 := b3.seq' hp2 hl2
    refine ⟨_, rfl, p, dx3, _, rfl, hp3, nn_row, p, la, _, cs, d, rest, rfl, ⟨dx3, hp3⟩, hl3, hz3, fun H4 rb b4 rd4 n4 h4 => ?_⟩
    have h34 := RdAt.lst (dd := dd) ⟨dx3, hp3⟩ b4 h3
    have sb4 := ((b1.trans b2).trans b3).trans b4
    refine ⟨rb, d, rfl, SqL.of h4, ld, fun e H5 s5 => ?_, fun dk e H5 pd s5 n5 k5 => ?_⟩
    · refine ⟨_, rfl, rfl, _, rfl, ift rfl ?_⟩
      refine ⟨(by show 1 ≤ sizeLine; decide), fun r nr => ?_⟩
      have q1 := q.made (sb4.trans (SB.of s5)) (rd4.same s5)
      rw [pass_none e] at q1
      exact q1 _ r (same_upd nr) nr upd_same
    · obtain ⟨od, _, l1000⟩ := deck_ok e
      refine ⟨_, rfl, rfl, _, rfl, iff_ rfl ?_⟩
      refine ⟨_, rfl, _, rfl, _, rfl, c, l, ra, s, rfl, SqL.of (s5 _ _ h34), fun H6 s6 => ⟨_, rfl, ?_⟩⟩
      have q1 := q.made ((sb4.trans (SB.of s5)).trans (SB.of s6)) ((rd4.same s5).same s6)
      by_cases cc : 0 ≤ c ∧ c < 80 ∧ 0 ≤ l ∧ (Machines.nats s).any Pu.isStack = true
      · rw [decide_eq_true cc]
        refine iff_ rfl ?_
        obtain ⟨cn, rfl⟩ := Int.eq_ofNat_of_zero_le cc.1
        obtain ⟨ln, rfl⟩ := Int.eq_ofNat_of_zero_le cc.2.2.1
        rw [pass_fine e cc] at q1
        obtain ⟨c1, c2, c3, c4⟩ := cc
        have k6 := k5.same s6
        refine ⟨_, rfl, _, rfl, _, rfl, pd, dk, cn, ln, rfl, k6, od, by omega, by omega, fun H7 pp s7 h7 => ?_⟩
        have plen : ∀ i, (Pu.pocket cn ln dk i).length ≤ 1000 := fun i => Nat.le_trans (List.length_filter_le _ _) l1000
        have s67 := s6.trans s7
        refine ⟨_, rfl, _, rfl, pp, ra, 13, Pu.pocket cn ln dk, s, rfl, h7, Nat.le_refl _, SqL.of (s67 _ _ (s5 _ _ h34)), stack_mem c4, fun i => pocket_dk od cn ln i, fun i => Nat.le_trans (plen i) (by decide), ?_, fun H8 r s8 n8 h8 => ?_⟩
        · have := flat_len plen (s.map Int.toNat)
          rw [List.length_map, stack_len c4] at this
          exact this
        · refine q1 H8 r (s7.trans s8) (s7.free n8) ?_
          exact h8
      · rw [pass_bad e cc] at q1
        rw [decide_eq_false cc]
        refine ift rfl ?_
        refine ⟨(by show 1 ≤ sizeLine; decide), fun r nr => ?_⟩
        exact q1 _ r (same_upd nr) nr upd_same
end
end CP
/-! HDesk4 -/
namespace CP
open PySem PySem.Spec PyProof.Rows L2
section
open Machines MachinesNeutral
def IsF (c n : Int) : Prop := 0 ≤ c ∧ 1 ≤ n ∧ c + n ≤ 80
instance {c n : Int} : Decidable (IsF c n) := inferInstanceAs (Decidable (_ ∧ _))
theorem field_is (c n : Int) : fieldAt c n = if IsF c n then some (c.toNat, n.toNat) else none := by
  unfold fieldAt
  by_cases h : IsF c n
  · rw [if_pos h]
    obtain ⟨h1, h2, h3⟩ := h
    refine if_pos ⟨h1, by omega, ?_⟩
    unfold Pu.isField Pu.COLUMNS
    rw [decide_eq_true (by omega), decide_eq_true (by omega)]; rfl
  · rw [if_neg h]
    refine if_neg ?_
    rintro ⟨h1, h2, h3⟩
    unfold Pu.isField Pu.COLUMNS at h3
    rw [Bool.and_eq_true, decide_eq_true_eq, decide_eq_true_eq] at h3
    exact h ⟨h1, by omega, by omega⟩
theorem follow_none {c n : Int} {d : List Int} (e : deckOf d = none) : MachinesNeutral.told (ofDecks (.follow c n d)) = [-8] := by
  show MachinesNeutral.told (onDeck d _) = _
  unfold onDeck
  rw [e]; rfl
theorem follow_bad {c n : Int} {d : List Int} {dk : Pu.Deck} (e : deckOf d = some dk) (h : ¬ IsF c n) : MachinesNeutral.told (ofDecks (.follow c n d)) = [-3] := by
  show MachinesNeutral.told (onDeck d _) = _
  unfold onDeck
  rw [e]
  show MachinesNeutral.told (match fieldAt c n with | none => num (-3) | some (c, n) => num (((Pu.outOf c n dk).getD 0 : Nat) : Int)) = _
  rw [field_is, if_neg h]; rfl
theorem follow_fine {c n : Int} {d : List Int} {dk : Pu.Deck} (e : deckOf d = some dk) (h : IsF c n) : MachinesNeutral.told (ofDecks (.follow c n d)) = [(((Pu.outOf c.toNat n.toNat dk).getD 0 : Nat) : Int)] := by
  show MachinesNeutral.told (onDeck d _) = _
  unfold onDeck
  rw [e]
  show MachinesNeutral.told (match fieldAt c n with | none => num (-3) | some (c, n) => num (((Pu.outOf c n dk).getD 0 : Nat) : Int)) = _
  rw [field_is, if_pos h]; rfl
theorem coll_none {c e n how : Int} {a b : List Int} (h : deckOf a = none ∨ deckOf b = none) : MachinesNeutral.told (ofDecks (.collate c e n how a b)) = [-8] := by
  show MachinesNeutral.told (onDeck a _) = _
  unfold onDeck
  rcases h with h | h
  · rw [h]; rfl
  · cases ha : deckOf a with
    | none => rfl
    | some d1 => simp only [h]; rfl
def collA (c e n how : Int) (d1 d2 : Pu.Deck) : Answer := match fieldAt c n, fieldAt e n with
  | some (c, n), some (e, _) => if how < 0 ∨ 2 < how then num (-3) else (match Pu.outOf c n d1, Pu.outOf e n d2 with
    | some i, _ => nums (-5) [(i : Int)]
    | none, some i => nums (-6) [(i : Int)]
    | none, none => let p := Pu.collated how.toNat (Pu.keyBy c n) (Pu.keyBy e n) d1 d2
      nums 0 (Machines.ints (p.map List.length) ++ deckNums p.flatten))
  | _, _ => num (-3)
theorem coll_is {c e n how : Int} {a b : List Int} {d1 d2 : Pu.Deck} (h1 : deckOf a = some d1) (h2 : deckOf b = some d2) : MachinesNeutral.told (ofDecks (.collate c e n how a b)) = MachinesNeutral.told (collA c e n how d1 d2) := by
  show MachinesNeutral.told (onDeck a _) = _
  unfold onDeck
  rw [h1]
  simp only [h2]
  rfl
theorem coll_bad {c e n how : Int} {d1 d2 : Pu.Deck} (h : ¬ (IsF c n ∧ IsF e n ∧ 0 ≤ how ∧ how ≤ 2)) : MachinesNeutral.told (collA c e n how d1 d2) = [-3] := by
  unfold collA
  rw [field_is, field_is]
  by_cases h1 : IsF c n
  · rw [if_pos h1]
    by_cases h2 : IsF e n
    · rw [if_pos h2]
      have : how < 0 ∨ 2 < how := by
        apply Classical.byContradiction; intro z
        exact h ⟨h1, h2, by omega, by omega⟩
      simp only [if_pos this]; rfl
    · rw [if_neg h2]; rfl
  · rw [if_neg h1]
    cases (if IsF e n then some (e.toNat, n.toNat) else none : Option (Nat × Nat)) <;> rfl
theorem coll_fine {c e n how : Int} {d1 d2 : Pu.Deck} (h : IsF c n ∧ IsF e n ∧ 0 ≤ how ∧ how ≤ 2) : collA c e n how d1 d2 = (match Pu.outOf c.toNat n.toNat d1, Pu.outOf e.toNat n.toNat d2 with
    | some i, _ => nums (-5) [(i : Int)]
    | none, some i => nums (-6) [(i : Int)]
    | none, none => nums 0 (Machines.ints ((Pu.collated how.toNat (Pu.keyBy c.toNat n.toNat) (Pu.keyBy e.toNat n.toNat) d1 d2).map List.length) ++ deckNums (Pu.collated how.toNat (Pu.keyBy c.toNat n.toNat) (Pu.keyBy e.toNat n.toNat) d1 d2).flatten)) := by
  unfold collA
  rw [field_is, field_is, if_pos h.1, if_pos h.2.1]
  simp only [if_neg (show ¬ (how < 0 ∨ 2 < how) by omega)]
theorem coll_four (how : Nat) (ka kb : Pu.Card → List Nat) (a b : Pu.Deck) : (Pu.collated how ka kb a b).length = 4 := by
  unfold Pu.collated
  split
  · rfl
  · split <;> rfl
/-- merged cards are those of the two decks -/
theorem merged_all {ka kb : Pu.Card → List Nat} : ∀ (m : Nat) {a b : Pu.Deck}, a.length + b.length ≤ m → (∀ x ∈ Pu.merged ka kb a b, x ∈ a ∨ x ∈ b) ∧ (Pu.merged ka kb a b).length = a.length + b.length
  | _, [], b, _ => by rw [merged_nil_l]; exact ⟨fun x h => .inr h, by simp⟩
  | _, x :: a, [], _ => by rw [merged_nil_r]; exact ⟨fun x h => .inl h, by simp⟩
  | 0, x :: a, y :: b, h => by simp at h
  | m + 1, x :: a, y :: b, h => by
    rw [merged_cons]
    simp only [List.length_cons] at h ⊢
    split
    · obtain ⟨h1, h2⟩ := merged_all m (ka := ka) (kb := kb) (a := x :: a) (b := b) (by simp only [List.length_cons]; omega)
      refine ⟨fun z hz => ?_, by simp only [List.length_cons] at h2 ⊢; omega⟩
      rcases List.mem_cons.mp hz with e | e
      · rw [e]; exact .inr List.mem_cons_self
      · rcases h1 z e with u | u
        · exact .inl u
        · exact .inr (List.mem_cons_of_mem _ u)
    · obtain ⟨h1, h2⟩ := merged_all m (ka := ka) (kb := kb) (a := a) (b := y :: b) (by simp only [List.length_cons]; omega)
      refine ⟨fun z hz => ?_, by simp only [List.length_cons] at h2 ⊢; omega⟩
      rcases List.mem_cons.mp hz with e | e
      · rw [e]; exact .inl List.mem_cons_self
      · rcases h1 z e with u | u
        · exact .inl (List.mem_cons_of_mem _ u)
        · exact .inr u
theorem coll_ok {how : Nat} {ka kb : Pu.Card → List Nat} {a b : Pu.Deck} (oa : DOk a) (ob : DOk b) (la : a.length ≤ 1000) (lb : b.length ≤ 1000) : ∀ d ∈ Pu.collated how ka kb a b, DOk d ∧ d.length ≤ 2000 := by
  have nil : DOk ([] : Pu.Deck) ∧ ([] : Pu.Deck).length ≤ 2000 := ⟨(fun x h => by cases h), Nat.zero_le _⟩
  have fa : ∀ g : Pu.Card → Bool, DOk (a.filter g) ∧ (a.filter g).length ≤ 1000 := fun g => ⟨filter_ok oa g, filter_len g la⟩
  have fb : ∀ g : Pu.Card → Bool, DOk (b.filter g) ∧ (b.filter g).length ≤ 1000 := fun g => ⟨filter_ok ob g, filter_len g lb⟩
  have mg : ∀ {u v : Pu.Deck}, DOk u → DOk v → u.length ≤ 1000 → v.length ≤ 1000 → DOk (Pu.merged ka kb u v) ∧ (Pu.merged ka kb u v).length ≤ 2000 := by
    intro u v ou ov lu lv
    obtain ⟨h1, h2⟩ := merged_all (ka := ka) (kb := kb) (u.length + v.length) (Nat.le_refl _)
    refine ⟨fun x hx => ?_, by omega⟩
    rcases h1 x hx with z | z
    · exact ou x z
    · exact ov x z
  have wk : ∀ {u : Pu.Deck}, DOk u ∧ u.length ≤ 1000 → DOk u ∧ u.length ≤ 2000 := fun h => ⟨h.1, Nat.le_trans h.2 (by decide)⟩
  unfold Pu.collated
  intro d hd
  split at hd
  · simp only [List.mem_cons, List.not_mem_nil, or_false] at hd
    rcases hd with e | e | e | e
    · rw [e]; exact mg oa ob la lb
    all_goals (rw [e]; exact nil)
  · split at hd
    · simp only [List.mem_cons, List.not_mem_nil, or_false] at hd
      rcases hd with e | e | e | e
      · rw [e]; exact wk (fa _)
      · rw [e]; exact wk (fa _)
      · rw [e]; exact wk (fb _)
      · rw [e]; exact wk (fb _)
    · simp only [List.mem_cons, List.not_mem_nil, or_false] at hd
      rcases hd with e | e | e | e
      · rw [e]; exact wk (fa _)
      · rw [e]; exact mg (fa _).1 (fb _).1 (fa _).2 (fb _).2
      · rw [e]; exact nil
      · rw [e]; exact wk (fb _)
theorem getD_ok {l : List Pu.Deck} (h : ∀ d ∈ l, DOk d ∧ d.length ≤ 2000) (i : Nat) : DOk (l.getD i []) ∧ (l.getD i []).length ≤ 2000 := by
  rw [List.getD_eq_getElem?_getD]
  cases e : l[i]? with
  | none => exact ⟨(fun x h => by cases h), Nat.zero_le _⟩
  | some d => exact h d (List.mem_of_getElem? e)
/-- four decks, told -/
theorem four_told {l : List Pu.Deck} (h : l.length = 4) : pockN 4 (fun i => l.getD i []) ++ deckNums (([0, 1, 2, 3] : List Nat).flatMap fun i => l.getD i []) = Machines.ints (l.map List.length) ++ deckNums l.flatten := by
  match l, h with
  | [a, b, c, d], _ =>
    have e : ([0, 1, 2, 3] : List Nat).flatMap (fun i => ([a, b, c, d] : List Pu.Deck).getD i []) = [a, b, c, d].flatten := by
      simp [List.flatMap_cons]
    rw [e]; rfl
theorem out_pos {c n : Nat} {d : Pu.Deck} {i : Nat} (h : Pu.outOf c n d = some i) : 0 < i := by
  unfold Pu.outOf at h
  have := List.find?_some h
  rw [Bool.and_eq_true, decide_eq_true_eq] at this
  omega
end
section
variable {P : Program} {w : World} {K : PySem.W.Frag} {mg : Str → Option Value} {base : Heap} {ad : Ad} {dd : AdD}
abbrev s_answer_follow : Stmt := topS 176
abbrev N_answer_follow : List Str := ["reader", "c", "n", "deck"]
theorem sc_answer_follow : FnScope N_answer_follow ["reader"] (defScope s_answer_follow) := ⟨rfl, rfl, rfl, by decide +kernel, rfl, by decide +kernel, by decide +kernel⟩
def sp_follow (K : PySem.W.Frag) (dd : AdD) : Sp := fun vs H Q _ => ∃ (p la : Addr) (i : Nat) (cs rest : List Int) (c n : Int) (d : List Int), vs = [.ref p] ∧ RdAt dd H p la i ∧ SqL K H la (cs.map V.int) ∧ cs.drop i = c :: n :: ((d.length : Int) :: d ++ rest) ∧ d.length ≤ 100000 ∧
  AnsR dd H Q p la (i + 1 + 1 + 1 + d.length) (MachinesNeutral.told (Machines.ofDecks (.follow c n d)))
theorem ok_answer_follow {f : Addr} {fd : FuncData} (F : Fun K "answer_follow" "answer_follow" s_answer_follow f fd) (T : TxtD P w K mg ad dd) (D_CallReader_next_number : MDcl P w K mg base 1 dd.cR "next_number" ["self"] (sp_next_number K dd)) (D_CallReader_next_row : MDcl P w K mg base 1 dd.cR "next_row" ["self"] (sp_next_row K dd))
    (D_read_deck : Dcl P w K mg base 3 "read_deck" ["numbers"] (sp_read_deck K)) (D_is_field : Dcl P w K mg base 1 "is_field" ["c", "n"] sp_is_field) (D_out_of_sequence : Dcl P w K mg base 3 "out_of_sequence" ["deck", "c", "n"] sp_out_of_sequence) : FnOk P w K mg base CX0 4 f fd ["reader"] (sp_follow K dd) := by
  refine F.ok sc_answer_follow (fun vs H Q E h => ?_) (fun cdv A outer s H vs Q E hr h => ?_)
  · obtain ⟨p, la, i, cs, rest, c, n, d, rfl, _⟩ := h; rfl
  · obtain ⟨p, la, i, cs, rest, c, n, d, rfl, ⟨dx, hp⟩, hl, hz, ld, q⟩ := h
    obtain ⟨z1, hz1⟩ := rest_num hz
    obtain ⟨z2, hz2⟩ := rest_num hz1
    refine ⟨_, (pss_cons (ps_set (i := 1) sc_answer_follow.nd rfl (Or.inl rfl) (pe_meth0 (pv 0) T.cl_CallReader D_CallReader_next_number.m D_CallReader_next_number.ok (hr.mono (by decide)) D_CallReader_next_number.b .nil pass0))
      (pss_cons (ps_set (i := 2) sc_answer_follow.nd rfl (Or.inl rfl) (pe_meth0 (pv 0) T.cl_CallReader D_CallReader_next_number.m D_CallReader_next_number.ok (hr.mono (by decide)) D_CallReader_next_number.b .nil pass0))
      (pss_cons (ps_set (i := 3) sc_answer_follow.nd rfl (Or.inl rfl) (pe_call D_read_deck.ok (hr.mono (by decide)) (by rfl) D_read_deck.g D_read_deck.kp D_read_deck.b .nil pass0 (pa_cons (pe_meth0 (pv 0) T.cl_CallReader D_CallReader_next_row.m D_CallReader_next_row.ok (hr.mono (by decide)) D_CallReader_next_row.b .nil pass0) pa_nil)))
      (pss_cons (ps_if (pt_cmpR op_isN (pv 3) pe_non (nomark _))
      (pss_one (ps_ret (pe_lst (pa_cons (pe_gint (by rfl) T.g_NO_DECK) pa_nil))))
      pss_nil)
      (pss_cons (ps_if (pt_not (pt_val (pe_call D_is_field.ok (hr.mono (by decide)) (by rfl) D_is_field.g D_is_field.kp D_is_field.b .nil pass0 (pa_cons (pv 1) (pa_cons (pv 2) pa_nil)))))
      (pss_one (ps_ret (pe_lst (pa_cons (pe_gint (by rfl) T.g_WRONG_NUMBERS) pa_nil))))
      pss_nil)
      (pss_one (ps_ret (pe_lst (pa_cons (pe_call D_out_of_sequence.ok (hr.mono (by decide)) (by rfl) D_out_of_sequence.g D_out_of_sequence.kp D_out_of_sequence.b .nil pass0 (pa_cons (pv 3) (pa_cons (pv 1) (pa_cons (pv 2) pa_nil)))) pa_nil))))))))), ?_⟩
    refine ⟨_, rfl, p, dx, _, rfl, hp, nn_num, p, la, i, cs, c, rfl, ⟨dx, hp⟩, hl, z1, fun H1 b1 ⟨dx1, hp1⟩ => ?_⟩
    have hl1 := b1.seq' hp hl
    refine ⟨_, rfl, p, dx1, _, rfl, hp1, nn_num, p, la, i + 1, cs, n, rfl, ⟨dx1, hp1⟩, hl1, z2, fun H2 b2 ⟨dx2, hp2⟩ => ?_⟩
    have hl2 := b2.seq' hp1 hl1
    refine ⟨_, rfl, p, dx2, _, rfl, hp2, nn_row, p, la, i + 1 + 1, cs, d, _, rfl, ⟨dx2, hp2⟩, hl2, hz2, fun H4 rb b4 rd4 n4 h4 => ?_⟩
    have sb4 := (b1.trans b2).trans b4
    refine ⟨rb, d, rfl, SqL.of h4, ld, fun e H5 s5 => ?_, fun dk e H5 pd s5 n5 k5 => ?_⟩
    · refine ⟨_, rfl, rfl, _, rfl, ift rfl ?_⟩
      refine ⟨(by show 1 ≤ sizeLine; decide), fun r nr => ?_⟩
      have q1 := q.made (sb4.trans (SB.of s5)) (rd4.same s5)
      rw [follow_none e] at q1
      exact q1 _ r (same_upd nr) nr upd_same
    · obtain ⟨od, _, l1000⟩ := deck_ok e
      refine ⟨_, rfl, rfl, _, rfl, iff_ rfl ?_⟩
      have q1 := q.made (sb4.trans (SB.of s5)) (rd4.same s5)
      refine ⟨_, rfl, _, rfl, c, n, rfl, _, rfl, ?_⟩
      by_cases cc : IsF c n
      · rw [decide_eq_true (show 0 ≤ c ∧ 1 ≤ n ∧ c + n ≤ 80 from cc)]
        refine iff_ rfl ?_
        rw [follow_fine e cc] at q1
        obtain ⟨c1, c2, c3⟩ := cc
        obtain ⟨cn, rfl⟩ := Int.eq_ofNat_of_zero_le c1
        obtain ⟨nn, rfl⟩ := Int.eq_ofNat_of_zero_le (show 0 ≤ n by omega)
        refine ⟨_, rfl, _, rfl, _, rfl, pd, dk, cn, nn, rfl, k5, od, by omega, by omega, ?_⟩
        refine ⟨(by show 1 ≤ sizeLine; decide), fun r nr => ?_⟩
        exact q1 _ r (same_upd nr) nr upd_same
      · rw [decide_eq_false (show ¬ (0 ≤ c ∧ 1 ≤ n ∧ c + n ≤ 80) from cc)]
        refine ift rfl ?_
        rw [follow_bad e cc] at q1
        refine ⟨(by show 1 ≤ sizeLine; decide), fun r nr => ?_⟩
        exact q1 _ r (same_upd nr) nr upd_same
abbrev s_answer_collate : Stmt := topS 177
abbrev N_answer_collate : List Str := ["reader", "c", "e", "n", "how", "first", "second", "place", "pockets"]
theorem sc_answer_collate : FnScope N_answer_collate ["reader"] (defScope s_answer_collate) := ⟨rfl, rfl, rfl, by decide +kernel, rfl, by decide +kernel, by decide +kernel⟩
def sp_ans_collate (K : PySem.W.Frag) (dd : AdD) : Sp := fun vs H Q _ => ∃ (p la : Addr) (i : Nat) (cs rest : List Int) (c e n how : Int) (a b : List Int), vs = [.ref p] ∧ RdAt dd H p la i ∧ SqL K H la (cs.map V.int) ∧ cs.drop i = c :: e :: n :: how :: ((a.length : Int) :: a ++ ((b.length : Int) :: b ++ rest)) ∧ a.length ≤ 100000 ∧ b.length ≤ 100000 ∧
  AnsR dd H Q p la (i + 1 + 1 + 1 + 1 + 1 + a.length + 1 + b.length) (MachinesNeutral.told (Machines.ofDecks (.collate c e n how a b)))
theorem ok_answer_collate {f : Addr} {fd : FuncData} (F : Fun K "answer_collate" "answer_collate" s_answer_collate f fd) (T : TxtD P w K mg ad dd) (D_CallReader_next_number : MDcl P w K mg base 1 dd.cR "next_number" ["self"] (sp_next_number K dd)) (D_CallReader_next_row : MDcl P w K mg base 1 dd.cR "next_row" ["self"] (sp_next_row K dd))
    (D_read_deck : Dcl P w K mg base 3 "read_deck" ["numbers"] (sp_read_deck K)) (D_is_collation : Dcl P w K mg base 2 "is_collation" ["c", "e", "n", "how"] sp_is_collation) (D_out_of_sequence : Dcl P w K mg base 3 "out_of_sequence" ["deck", "c", "n"] sp_out_of_sequence) (D_collate : Dcl P w K mg base 4 "collate" ["first", "second", "c", "e", "n", "how"] sp_collate) (D_tell_pockets : Dcl P w K mg base 3 "tell_pockets" ["pockets", "order"] (sp_tell_pockets K)) : FnOk P w K mg base CX0 5 f fd ["reader"] (sp_ans_collate K dd) := by
  refine F.ok sc_answer_collate (fun vs H Q E h => ?_) (fun cdv A outer s H vs Q E hr h => ?_)
  · obtain ⟨p, la, i, cs, rest, c, e, n, how, a, b, rfl, _⟩ := h; rfl
  · obtain ⟨p, la, i, cs, rest, c, e, n, how, a, b, rfl, ⟨dx, hp⟩, hl, hz, lena, lenb, q⟩ := h
    obtain ⟨z1, hz1⟩ := rest_num hz
    obtain ⟨z2, hz2⟩ := rest_num hz1
    obtain ⟨z3, hz3⟩ := rest_num hz2
    obtain ⟨z4, hz4⟩ := rest_num hz3
    refine ⟨_, (pss_cons (ps_set (i := 1) sc_answer_collate.nd rfl (Or.inl rfl) (pe_meth0 (pv 0) T.cl_CallReader D_CallReader_next_number.m D_CallReader_next_number.ok (hr.mono (by decide)) D_CallReader_next_number.b .nil pass0))
      (pss_cons (ps_set (i := 2) sc_answer_collate.nd rfl (Or.inl rfl) (pe_meth0 (pv 0) T.cl_CallReader D_CallReader_next_number.m D_CallReader_next_number.ok (hr.mono (by decide)) D_CallReader_next_number.b .nil pass0))
      (pss_cons (ps_set (i := 3) sc_answer_collate.nd rfl (Or.inl rfl) (pe_meth0 (pv 0) T.cl_CallReader D_CallReader_next_number.m D_CallReader_next_number.ok (hr.mono (by decide)) D_CallReader_next_number.b .nil pass0))
      (pss_cons (ps_set (i := 4) sc_answer_collate.nd rfl (Or.inl rfl) (pe_meth0 (pv 0) T.cl_CallReader D_CallReader_next_number.m D_CallReader_next_number.ok (hr.mono (by decide)) D_CallReader_next_number.b .nil pass0))
      (pss_cons (ps_set (i := 5) sc_answer_collate.nd rfl (Or.inl rfl) (pe_call D_read_deck.ok (hr.mono (by decide)) (by rfl) D_read_deck.g D_read_deck.kp D_read_deck.b .nil pass0 (pa_cons (pe_meth0 (pv 0) T.cl_CallReader D_CallReader_next_row.m D_CallReader_next_row.ok (hr.mono (by decide)) D_CallReader_next_row.b .nil pass0) pa_nil)))
      (pss_cons (ps_set (i := 6) sc_answer_collate.nd rfl (Or.inl rfl) (pe_call D_read_deck.ok (hr.mono (by decide)) (by rfl) D_read_deck.g D_read_deck.kp D_read_deck.b .nil pass0 (pa_cons (pe_meth0 (pv 0) T.cl_CallReader D_CallReader_next_row.m D_CallReader_next_row.ok (hr.mono (by decide)) D_CallReader_next_row.b .nil pass0) pa_nil)))
      (pss_cons (ps_if (PW.pt (pw_or (pt_cmpR op_isN (pv 5) pe_non (nomark _)) (pw_or1 (pt_cmpR op_isN (pv 6) pe_non (nomark _)))))
      (pss_one (ps_ret (pe_lst (pa_cons (pe_gint (by rfl) T.g_NO_DECK) pa_nil))))
      pss_nil)
      (pss_cons (ps_if (pt_not (pt_val (pe_call D_is_collation.ok (hr.mono (by decide)) (by rfl) D_is_collation.g D_is_collation.kp D_is_collation.b .nil pass0 (pa_cons (pv 1) (pa_cons (pv 2) (pa_cons (pv 3) (pa_cons (pv 4) pa_nil)))))))
      (pss_one (ps_ret (pe_lst (pa_cons (pe_gint (by rfl) T.g_WRONG_NUMBERS) pa_nil))))
      pss_nil)
      (pss_cons (ps_set (i := 7) sc_answer_collate.nd rfl (Or.inl rfl) (pe_call D_out_of_sequence.ok (hr.mono (by decide)) (by rfl) D_out_of_sequence.g D_out_of_sequence.kp D_out_of_sequence.b .nil pass0 (pa_cons (pv 5) (pa_cons (pv 1) (pa_cons (pv 3) pa_nil)))))
      (pss_cons (ps_if (pt_cmpR op_gt (pv 7) pe_int (nomark _))
      (pss_one (ps_ret (pe_lst (pa_cons (pe_gint (by rfl) T.g_FIRST_OUT_OF_SEQUENCE) (pa_cons (pv 7) pa_nil)))))
      pss_nil)
      (pss_cons (ps_set (i := 7) sc_answer_collate.nd rfl (Or.inl rfl) (pe_call D_out_of_sequence.ok (hr.mono (by decide)) (by rfl) D_out_of_sequence.g D_out_of_sequence.kp D_out_of_sequence.b .nil pass0 (pa_cons (pv 6) (pa_cons (pv 2) (pa_cons (pv 3) pa_nil)))))
      (pss_cons (ps_if (pt_cmpR op_gt (pv 7) pe_int (nomark _))
      (pss_one (ps_ret (pe_lst (pa_cons (pe_gint (by rfl) T.g_SECOND_OUT_OF_SEQUENCE) (pa_cons (pv 7) pa_nil)))))
      pss_nil)
      (pss_cons (ps_set (i := 8) sc_answer_collate.nd rfl (Or.inl rfl) (pe_call D_collate.ok (hr.mono (by decide)) (by rfl) D_collate.g D_collate.kp D_collate.b .nil pass0 (pa_cons (pv 5) (pa_cons (pv 6) (pa_cons (pv 1) (pa_cons (pv 2) (pa_cons (pv 3) (pa_cons (pv 4) pa_nil))))))))
      (pss_one (ps_ret (pe_call D_tell_pockets.ok (hr.mono (by decide)) (by rfl) D_tell_pockets.g D_tell_pockets.kp D_tell_pockets.b .nil pass0 (pa_cons (pv 8) (pa_cons (pe_lst (pa_cons pe_int (pa_cons pe_int (pa_cons pe_int (pa_cons pe_int pa_nil))))) pa_nil)))))))))))))))))), ?_⟩
    refine ⟨_, rfl, p, dx, _, rfl, hp, nn_num, p, la, i, cs, c, rfl, ⟨dx, hp⟩, hl, z1, fun H1 b1 ⟨dx1, hp1⟩ => ?_⟩
    have hl1 := b1.seq' hp hl
    refine ⟨_, rfl, p, dx1, _, rfl, hp1, nn_num, p, la, i + 1, cs, e, rfl, ⟨dx1, hp1⟩, hl1, z2, fun H2 b2 ⟨dx2, hp2⟩ => ?_⟩
    have hl2 := b2.seq' hp1 hl1
    refine ⟨_, rfl, p, dx2, _, rfl, hp2, nn_num, p, la, i + 1 + 1, cs, n, rfl, ⟨dx2, hp2⟩, hl2, z3, fun H3 b3 ⟨dx3, hp3⟩ => ?_⟩
    have hl3 := b3.seq' hp2 hl2
    refine ⟨_, rfl, p, dx3, _, rfl, hp3, nn_num, p, la, i + 1 + 1 + 1, cs, how, rfl, ⟨dx3, hp3⟩, hl3, z4, fun H4 b4 ⟨dx4, hp4⟩ => ?_⟩
    have hl4 := b4.seq' hp3 hl3
    have sb4 := ((b1.trans b2).trans b3).trans b4
    refine ⟨_, rfl, p, dx4, _, rfl, hp4, nn_row, p, la, i + 1 + 1 + 1 + 1, cs, a, _, rfl, ⟨dx4, hp4⟩, hl4, hz4, fun H5 ra b5 rd5 n5 h5 => ?_⟩
    have hz5 := rest_row hz4
    have hl5 := b5.seq' hp4 hl4
    -- the second deck, whatever the first one is
    have two : ∀ (H6 : Hp) (v : V) (Qx : VK), Same H5 H6 → (∀ (H8 : Hp), SB p H6 H8 → RdAt dd H8 p la (i + 1 + 1 + 1 + 1 + 1 + a.length + 1 + b.length) → (Machines.deckOf b = none → Qx .non H8) ∧ ∀ d2, Machines.deckOf b = some d2 → ∀ p2, DeckAt H8 p2 d2 → Qx (.ref p2) H8) →
        tCall (sp_read_deck K) [] E0 (tCons (tMeth dd.cR "next_row" (sp_next_row K dd) [] E0 (tVar 0) tNil) tNil) [some (.ref p), some (.int c), some (.int e), some (.int n), some (.int how), some v, none, none, none] H6 Qx := by
      intro H6 v Qx s6 qx
      obtain ⟨dx6, hp6⟩ := rd5.same s6
      refine ⟨_, rfl, p, dx6, _, rfl, hp6, nn_row, p, la, _, cs, b, rest, rfl, ⟨dx6, hp6⟩, s6.seq hl5, hz5, fun H7 rb b7 rd7 n7 h7 => ?_⟩
      refine ⟨rb, b, rfl, SqL.of h7, lenb, fun eb H8 s8 => ?_, fun d2 eb H8 p2 s8 n8 k8 => ?_⟩
      · exact (qx H8 (b7.trans (SB.of s8)) (rd7.same s8)).1 eb
      · exact (qx H8 (b7.trans (SB.of s8)) (rd7.same s8)).2 d2 eb p2 k8
    refine ⟨ra, a, rfl, SqL.of h5, lena, fun ea H6 s6 => ?_, fun d1 ea H6 p1 s6 n6 k6 => ?_⟩
    · refine two H6 .non _ s6 fun H8 b8 rd8 => ?_
      have q1 := q.made (((sb4.trans b5).trans (SB.of s6)).trans b8) rd8
      rw [coll_none (.inl ea)] at q1
      refine ⟨fun eb => ?_, fun d2 eb p2 k8 => ?_⟩
      · refine ⟨_, rfl, rfl, _, rfl, ift rfl ?_⟩
        refine ⟨(by show 1 ≤ sizeLine; decide), fun r nr => ?_⟩
        exact q1 _ r (same_upd nr) nr upd_same
      · refine ⟨_, rfl, rfl, _, rfl, ift rfl ?_⟩
        refine ⟨(by show 1 ≤ sizeLine; decide), fun r nr => ?_⟩
        exact q1 _ r (same_upd nr) nr upd_same
    · refine two H6 (.ref p1) _ s6 fun H8 b8 rd8 => ?_
      have q1 := q.made (((sb4.trans b5).trans (SB.of s6)).trans b8) rd8
      have k16 := (rd5.same s6).deck b8 k6
      refine ⟨fun eb => ?_, fun d2 eb p2 k8 => ?_⟩
      · refine ⟨_, rfl, rfl, _, rfl, iff_ rfl ?_⟩
        refine ⟨_, rfl, rfl, _, rfl, ift rfl ?_⟩
        rw [coll_none (.inr eb)] at q1
        refine ⟨(by show 1 ≤ sizeLine; decide), fun r nr => ?_⟩
        exact q1 _ r (same_upd nr) nr upd_same
      · refine ⟨_, rfl, rfl, _, rfl, iff_ rfl ?_⟩
        refine ⟨_, rfl, rfl, _, rfl, iff_ rfl ?_⟩
        rw [coll_is ea eb] at q1
        obtain ⟨od1, _, l1⟩ := deck_ok ea
        obtain ⟨od2, _, l2⟩ := deck_ok eb
        refine ⟨_, rfl, _, rfl, _, rfl, _, rfl, c, e, n, how, rfl, _, rfl, ?_⟩
        by_cases cc : IsF c n ∧ IsF e n ∧ 0 ≤ how ∧ how ≤ 2
        · rw [decide_eq_true (show (0 ≤ c ∧ 1 ≤ n ∧ c + n ≤ 80) ∧ (0 ≤ e ∧ 1 ≤ n ∧ e + n ≤ 80) ∧ 0 ≤ how ∧ how ≤ 2 from cc)]
          refine iff_ rfl ?_
          rw [coll_fine cc] at q1
          obtain ⟨⟨c1, c2, c3⟩, ⟨c4, c5, c6⟩, c7, c8⟩ := cc
          obtain ⟨cn, rfl⟩ := Int.eq_ofNat_of_zero_le c1
          obtain ⟨en, rfl⟩ := Int.eq_ofNat_of_zero_le c4
          obtain ⟨nn, rfl⟩ := Int.eq_ofNat_of_zero_le (show 0 ≤ n by omega)
          obtain ⟨hn, rfl⟩ := Int.eq_ofNat_of_zero_le c7
          simp only [Int.toNat_natCast] at q1
          refine ⟨_, rfl, _, rfl, _, rfl, p1, d1, cn, nn, rfl, k16, od1, by omega, by omega, ?_⟩
          refine ⟨_, rfl, _, _, rfl, rfl, _, rfl, ?_⟩
          cases o1 : Pu.outOf cn nn d1 with
          | some j =>
            rw [o1] at q1
            have := out_pos o1
            refine ift (decide_eq_true (by show (0 : Int) < (j : Int); omega)) ?_
            refine ⟨_, rfl, (by show 2 ≤ sizeLine; decide), fun r nr => ?_⟩
            exact q1 _ r (same_upd nr) nr upd_same
          | none =>
            rw [o1] at q1
            refine iff_ rfl ?_
            refine ⟨_, rfl, _, rfl, _, rfl, p2, d2, en, nn, rfl, k8, od2, by omega, by omega, ?_⟩
            refine ⟨_, rfl, _, _, rfl, rfl, _, rfl, ?_⟩
            cases o2 : Pu.outOf en nn d2 with
            | some j =>
              rw [o2] at q1
              have := out_pos o2
              refine ift (decide_eq_true (by show (0 : Int) < (j : Int); omega)) ?_
              refine ⟨_, rfl, (by show 2 ≤ sizeLine; decide), fun r nr => ?_⟩
              exact q1 _ r (same_upd nr) nr upd_same
            | none =>
              rw [o2] at q1
              refine iff_ rfl ?_
              refine ⟨_, rfl, _, rfl, _, rfl, _, rfl, _, rfl, _, rfl, p1, p2, d1, d2, cn, en, nn, hn, rfl, k16, k8, od1, od2, by omega, by omega, l1, l2, fun H9 pp s9 h9 => ?_⟩
              refine ⟨_, rfl, (by show 4 ≤ sizeLine; decide), fun ro nro => ?_⟩
              have t10 := same_upd (o := .lst [V.int 0, V.int 1, V.int 2, V.int 3]) nro
              have lc := coll_four hn (Pu.keyBy cn nn) (Pu.keyBy en nn) d1 d2
              have gk := getD_ok (coll_ok (how := hn) (ka := Pu.keyBy cn nn) (kb := Pu.keyBy en nn) od1 od2 l1 l2)
              refine ⟨pp, ro, 4, _, [0, 1, 2, 3], rfl, h9.same t10, by decide, SqL.of upd_same, (by decide), fun i => (gk i).1, fun i => Nat.le_trans (gk i).2 (by decide), ?_, fun H11 r s11 n11 h11 => ?_⟩
              · have := flat_len (fun i => (gk i).2) ([0, 1, 2, 3].map Int.toNat)
                exact Nat.le_trans this (by decide)
              · refine q1 H11 r (s9.trans (t10.trans s11)) (s9.free (t10.free n11)) ?_
                rw [h11]
                have e4 := four_told lc
                show some (HO.lst ((0 :: (pockN 4 _ ++ Machines.deckNums (([0, 1, 2, 3] : List Nat).flatMap _))).map V.int)) = _
                rw [e4]
                rfl
        · rw [decide_eq_false (show ¬ ((0 ≤ c ∧ 1 ≤ n ∧ c + n ≤ 80) ∧ (0 ≤ e ∧ 1 ≤ n ∧ e + n ≤ 80) ∧ 0 ≤ how ∧ how ≤ 2) from cc)]
          refine ift rfl ?_
          rw [coll_bad cc] at q1
          refine ⟨(by show 1 ≤ sizeLine; decide), fun r nr => ?_⟩
          exact q1 _ r (same_upd nr) nr upd_same
end
end CP
/-! HDesk5 -/
namespace CP
open PySem PySem.Spec PyProof.Rows L2
section
open Machines MachinesNeutral
theorem sel_err {b : Pu.Bytes} {d : List Int} {a : Answer} (h : panelOf b = .error a) : MachinesNeutral.told (ofDecks (.select b d)) = a.num :: a.more := by
  show MachinesNeutral.told (match panelOf b with | .error a => a | .ok l => _) = _
  rw [h]; rfl
theorem sel_none {b : Pu.Bytes} {d : List Int} {l : List Pu.Wire} (h : panelOf b = .ok l) (e : deckOf d = none) : MachinesNeutral.told (ofDecks (.select b d)) = [-8] := by
  show MachinesNeutral.told (match panelOf b with | .error a => a | .ok l => onDeck d _) = _
  rw [h]
  show MachinesNeutral.told (onDeck d _) = _
  unfold onDeck
  rw [e]; rfl
theorem sel_fine {b : Pu.Bytes} {d : List Int} {l : List Pu.Wire} {dk : Pu.Deck} (h : panelOf b = .ok l) (e : deckOf d = some dk) : MachinesNeutral.told (ofDecks (.select b d)) = 0 :: (Machines.ints [(Pu.selected l dk).1.length, (Pu.selected l dk).2.length] ++ deckNums ((Pu.selected l dk).1 ++ (Pu.selected l dk).2)) := by
  show MachinesNeutral.told (match panelOf b with | .error a => a | .ok l => onDeck d fun (d : Pu.Deck) => nums 0 (Machines.ints [(Pu.selected l d).1.length, (Pu.selected l d).2.length] ++ deckNums ((Pu.selected l d).1 ++ (Pu.selected l d).2))) = _
  rw [h]
  show MachinesNeutral.told (onDeck d _) = _
  unfold onDeck
  rw [e]; rfl
/-- a row of bytes -/
def ByteRow (t : List Int) : Prop := ∀ z ∈ t, 0 ≤ z ∧ z ≤ 255
theorem row_bytes : ∀ {t : List Int}, ByteRow t → t.map V.int = (MachinesNeutral.text t).map vB
  | [], _ => rfl
  | z :: t, h => by
    have h1 := h z List.mem_cons_self
    have h2 := row_bytes (t := t) fun y hy => h y (List.mem_cons_of_mem _ hy)
    unfold MachinesNeutral.text at h2 ⊢
    rw [List.map_cons, List.map_cons, List.map_cons, h2]
    congr 1
    unfold vB
    congr 1
    have : (UInt8.ofNat z.toNat).toNat = z.toNat := by
      rw [UInt8.toNat_ofNat']
      exact Nat.mod_eq_of_lt (by omega)
    rw [this]
    omega
end
section
variable {P : Program} {w : World} {K : PySem.W.Frag} {mg : Str → Option Value} {base : Heap} {ad : Ad} {dd : AdD}
abbrev s_answer_select : Stmt := topS 178
abbrev N_answer_select : List Str := ["reader", "text", "deck", "refusal", "pockets"]
theorem sc_answer_select : FnScope N_answer_select ["reader"] (defScope s_answer_select) := ⟨rfl, rfl, rfl, by decide +kernel, rfl, by decide +kernel, by decide +kernel⟩
def sp_ans_select (K : PySem.W.Frag) (dd : AdD) : Sp := fun vs H Q _ => ∃ (p la : Addr) (i : Nat) (cs rest t d : List Int), vs = [.ref p] ∧ RdAt dd H p la i ∧ SqL K H la (cs.map V.int) ∧ cs.drop i = (t.length : Int) :: t ++ ((d.length : Int) :: d ++ rest) ∧ t.length ≤ 100000 ∧ ByteRow t ∧ d.length ≤ 100000 ∧
  AnsR dd H Q p la (i + 1 + t.length + 1 + d.length) (MachinesNeutral.told (Machines.ofDecks (.select (MachinesNeutral.text t) d)))
theorem ok_answer_select {f : Addr} {fd : FuncData} (F : Fun K "answer_select" "answer_select" s_answer_select f fd) (T : TxtD P w K mg ad dd) (D_CallReader_next_row : MDcl P w K mg base 1 dd.cR "next_row" ["self"] (sp_next_row K dd))
    (D_read_deck : Dcl P w K mg base 3 "read_deck" ["numbers"] (sp_read_deck K)) (D_panel_refusal : Dcl P w K mg base 7 "panel_refusal" ["text"] (sp_panel_refusal K)) (D_read_panel : Dcl P w K mg base 7 "read_panel" ["text"] (sp_read_panel K)) (D_select_cards : Dcl P w K mg base 6 "select_cards" ["panel", "deck"] sp_select_cards) (D_tell_pockets : Dcl P w K mg base 3 "tell_pockets" ["pockets", "order"] (sp_tell_pockets K)) : FnOk P w K mg base CX0 8 f fd ["reader"] (sp_ans_select K dd) := by
  refine F.ok sc_answer_select (fun vs H Q E h => ?_) (fun cdv A outer s H vs Q E hr h => ?_)
  · obtain ⟨p, la, i, cs, rest, t, d, rfl, _⟩ := h; rfl
  · obtain ⟨p, la, i, cs, rest, t, d, rfl, ⟨dx, hp⟩, hl, hz, lt, bt, ld, q⟩ := h
    refine ⟨_, (pss_cons (ps_set (i := 1) sc_answer_select.nd rfl (Or.inl rfl) (pe_meth0 (pv 0) T.cl_CallReader D_CallReader_next_row.m D_CallReader_next_row.ok (hr.mono (by decide)) D_CallReader_next_row.b .nil pass0))
      (pss_cons (ps_set (i := 2) sc_answer_select.nd rfl (Or.inl rfl) (pe_call D_read_deck.ok (hr.mono (by decide)) (by rfl) D_read_deck.g D_read_deck.kp D_read_deck.b .nil pass0 (pa_cons (pe_meth0 (pv 0) T.cl_CallReader D_CallReader_next_row.m D_CallReader_next_row.ok (hr.mono (by decide)) D_CallReader_next_row.b .nil pass0) pa_nil)))
      (pss_cons (ps_set (i := 3) sc_answer_select.nd rfl (Or.inl rfl) (pe_call D_panel_refusal.ok (hr.mono (by decide)) (by rfl) D_panel_refusal.g D_panel_refusal.kp D_panel_refusal.b .nil pass0 (pa_cons (pv 1) pa_nil)))
      (pss_cons (ps_if (pt_cmpR op_gt (pe_callB call_len_seq (by rfl) T.b_len PySem.boot_len (pa_cons (pv 3) pa_nil)) pe_int (nomark _))
      (pss_one (ps_ret (pv 3)))
      pss_nil)
      (pss_cons (ps_if (pt_cmpR op_isN (pv 2) pe_non (nomark _))
      (pss_one (ps_ret (pe_lst (pa_cons (pe_gint (by rfl) T.g_NO_DECK) pa_nil))))
      pss_nil)
      (pss_cons (ps_set (i := 4) sc_answer_select.nd rfl (Or.inl rfl) (pe_call D_select_cards.ok (hr.mono (by decide)) (by rfl) D_select_cards.g D_select_cards.kp D_select_cards.b .nil pass0 (pa_cons (pe_call D_read_panel.ok (hr.mono (by decide)) (by rfl) D_read_panel.g D_read_panel.kp D_read_panel.b .nil pass0 (pa_cons (pv 1) pa_nil)) (pa_cons (pv 2) pa_nil))))
      (pss_one (ps_ret (pe_call D_tell_pockets.ok (hr.mono (by decide)) (by rfl) D_tell_pockets.g D_tell_pockets.kp D_tell_pockets.b .nil pass0 (pa_cons (pv 4) (pa_cons (pe_lst (pa_cons pe_int (pa_cons pe_int pa_nil))) pa_nil))))))))))), ?_⟩
    refine ⟨_, rfl, p, dx, _, rfl, hp, nn_row, p, la, i, cs, t, _, rfl, ⟨dx, hp⟩, hl, hz, fun H1 ra b1 rd1 n1 h1 => ?_⟩
    have hz1 := rest_row hz
    obtain ⟨dx1, hp1⟩ := rd1
    have hl1 := b1.seq' hp hl
    refine ⟨_, rfl, p, dx1, _, rfl, hp1, nn_row, p, la, _, cs, d, rest, rfl, ⟨dx1, hp1⟩, hl1, hz1, fun H2 rb b2 rd2 n2 h2 => ?_⟩
    have h12 := RdAt.lst (dd := dd) ⟨dx1, hp1⟩ b2 h1
    rw [row_bytes bt] at h12
    have lb : (MachinesNeutral.text t).length ≤ 100000 := by unfold MachinesNeutral.text; rw [List.length_map]; exact lt
    have sb2 := b1.trans b2
    refine ⟨rb, d, rfl, SqL.of h2, ld, fun e H3 s3 => ?_, fun dk e H3 pd s3 n3 k3 => ?_⟩
    · refine ⟨_, rfl, ra, _, rfl, SqL.of (s3 _ _ h12), lb, fun H4 rr s4 n4 h4 => ?_⟩
      refine ⟨_, rfl, rr, _, rfl, .inl (SqL.of h4), _, _, rfl, rfl, _, rfl, ?_⟩
      have q1 := q.made (sb2.trans (SB.of s3)) (rd2.same s3)
      cases hpo : Machines.panelOf (MachinesNeutral.text t) with
      | error a =>
        rw [hpo] at h4
        refine ift (decide_eq_true (by show (0 : Int) < ((a.more.map V.int).length + 1 : Nat); omega)) ?_
        rw [sel_err hpo] at q1
        exact ⟨_, rfl, q1 H4 rr s4 n4 h4⟩
      | ok l =>
        rw [sel_none hpo e] at q1
        refine iff_ rfl ?_
        refine ⟨_, rfl, rfl, _, rfl, ift rfl ?_⟩
        refine ⟨(by show 1 ≤ sizeLine; decide), fun r nr => ?_⟩
        exact q1 _ r (s4.trans (same_upd nr)) (s4.free nr) upd_same
    · obtain ⟨od, _, l1000⟩ := deck_ok e
      refine ⟨_, rfl, ra, _, rfl, SqL.of (s3 _ _ h12), lb, fun H4 rr s4 n4 h4 => ?_⟩
      refine ⟨_, rfl, rr, _, rfl, .inl (SqL.of h4), _, _, rfl, rfl, _, rfl, ?_⟩
      have q1 := q.made (sb2.trans (SB.of s3)) (rd2.same s3)
      cases hpo : Machines.panelOf (MachinesNeutral.text t) with
      | error a =>
        rw [hpo] at h4
        refine ift (decide_eq_true (by show (0 : Int) < ((a.more.map V.int).length + 1 : Nat); omega)) ?_
        rw [sel_err hpo] at q1
        exact ⟨_, rfl, q1 H4 rr s4 n4 h4⟩
      | ok l =>
        rw [sel_fine hpo e] at q1
        refine iff_ rfl ?_
        refine ⟨_, rfl, rfl, _, rfl, iff_ rfl ?_⟩
        refine ⟨_, rfl, ra, _, l, rfl, SqL.of (s4 _ _ (s3 _ _ h12)), lb, hpo, fun H5 pp s5 n5 h5 => ?_⟩
        refine ⟨_, rfl, pp, pd, l, dk, rfl, h5, k3.same (s4.trans s5), od, by omega, fun H6 pk s6 h6 => ?_⟩
        refine ⟨_, rfl, (by show 2 ≤ sizeLine; decide), fun ro nro => ?_⟩
        have t7 := same_upd (o := .lst [V.int 0, V.int 1]) nro
        have gk : ∀ i, DOk (([(Pu.selected l dk).1, (Pu.selected l dk).2] : List Pu.Deck).getD i []) ∧ (([(Pu.selected l dk).1, (Pu.selected l dk).2] : List Pu.Deck).getD i []).length ≤ 2000 := by
          refine getD_ok fun x hx => ?_
          simp only [List.mem_cons, List.not_mem_nil, or_false] at hx
          rcases hx with z | z
          · rw [z]; exact ⟨filter_ok od _, Nat.le_trans (filter_len _ l1000) (by decide)⟩
          · rw [z]; exact ⟨filter_ok od _, Nat.le_trans (filter_len _ l1000) (by decide)⟩
        refine ⟨pk, ro, 2, _, [0, 1], rfl, h6.same t7, by decide, SqL.of upd_same, (by decide), fun i => (gk i).1, fun i => Nat.le_trans (gk i).2 (by decide), ?_, fun H8 r s8 n8 h8 => ?_⟩
        · have := flat_len (fun i => (gk i).2) ([0, 1].map Int.toNat)
          exact Nat.le_trans this (by decide)
        · have sA := s4.trans (s5.trans (s6.trans (t7.trans s8)))
          refine q1 H8 r sA (s4.free (s5.free (s6.free (t7.free n8)))) ?_
          rw [h8]
          have e2 : (([0, 1] : List Int).map Int.toNat).flatMap (fun i => ([(Pu.selected l dk).1, (Pu.selected l dk).2] : List Pu.Deck).getD i []) = (Pu.selected l dk).1 ++ (Pu.selected l dk).2 := by
            show (Pu.selected l dk).1 ++ ((Pu.selected l dk).2 ++ []) = _
            rw [List.append_nil]
          rw [e2]
          rfl
end
end CP
/-! HNew1 -/
namespace CP
open PySem PySem.Spec PyProof.Rows L2
/-! ### rules: d.get(k, x) of a written dict, xs[i] op= e, a comprehension over a text -/
def tKGet2 (P : Program) (w : World) (K : PySem.W.Frag) (td ty tx : TE) : TE := fun σ H Q => td σ H fun x H1 => ∃ a kvs, x = .ref a ∧ KD P w K a kvs ∧ ty σ H1 fun y H2 => tx σ H2 fun z H3 => ∃ k, y = kV k ∧ Q ((valV kvs k).getD z) H3
section
variable {X : Cx} {o e f : Expr} {apos cpos pos : Pos} {td ty tx : TE}
theorem pe_kget2 (ho : PE X o td) (he : PE X e ty) (hf : PE X f tx) (m : M2 X o "get" apos e f cpos) : PE X (.Call (.Attribute o "get" apos) [e, f] [] cpos) (tKGet2 X.prog X.w X.K td ty tx) := by
  refine ⟨fun pins s σ H Q I h => ?_⟩
  refine wpAny_Call_method m.base m.few m.line PySem.F.plainAttrs_dict PySem.F.slot_dict_get PySem.F.type_dict_get (thn (ho.run pins s σ H _ I h) fun u s1 ⟨x, H1, I1, rx, a, kvs, ex, ⟨hd, hz, vs, rel, dk⟩, q1⟩ => ?_)
  subst ex
  obtain rfl : u = Value.ref a := rx
  have dd := dk _ I1.kIn
  refine ⟨dd.typeIs, fun b q => ?_, ?_⟩
  · cases q
    obtain ⟨ob, _, _, h1, h2, _⟩ := dd
    exact ⟨ob, h1, h2.2.1⟩
  rw [m.trees]
  refine Calls.callWith_builtin rfl (Calls.evalArgs_plain (Calls.spliced_cons (thn (he.run pins s1 σ H1 _ I1 q1) fun iv s2 ⟨y, H2, I2, ry, q2⟩ => Calls.spliced_cons (thn (hf.run pins s2 σ H2 _ I2 q2) fun fv s3 ⟨z, H3, I3, rz, k, ey, q3⟩ => Calls.spliced_nil ?_))))
  subst ey
  have dd2 := dk _ I3.kIn
  exact call_meetsIn PySem.F.slot_dict_get dd2.typeIs PySem.F.entry_dict_get (PySem.F.args_dict_get_3 _ _ _) (meets_dict_get_default (mixKind X.prog X.w) a (kV_is ry) hd fv) ⟨_, dd2.mapOf, ⟨_, H3, I3.tok _, (rel.val k).getD rz, q3⟩⟩
theorem get_list : PGet X (rIxL X.K) := by
  intro pins s σ H x y v u Q I rx ry h
  obtain ⟨p, xs, i, z, rfl, rfl, hq, he, q⟩ := h
  cases rx
  obtain ⟨t, rfl⟩ := ry
  obtain ⟨its, r, pl, hz⟩ := I.list hq
  obtain ⟨j, h1, h2, h3, h4, h5⟩ := atI_get he
  obtain ⟨w, ew, rw'⟩ := r.get h2
  have hl := r.length
  have hn := line63
  have fin : EP X pins σ Q w s := ⟨z, H, I, rw', q⟩
  by_cases h0 : 0 ≤ i
  · have hj : i.toNat = j := by
      rw [seqIndex_of h0 h5] at h1
      exact Option.some.inj h1
    exact wpAny_getItem_list pl.isList h0 (by omega) (by rw [hj]; simpa using ew) fin
  · have hj : (i + (its.toArray.size : Int)).toNat = j := by
      rw [seqIndex_neg (by omega) h4] at h1
      rw [List.size_toArray, ← hl]
      exact Option.some.inj h1
    exact wpAny_getItem_list_neg pl.isList (by omega) (by rw [List.size_toArray] <;> omega) (by omega) (by rw [hj]; simpa using ew) fin
end
/-- over a text: the new list at D within -/
theorem lc_str {z : Str} {g : TG} {tt : TT} {te : TE} {vs : List Nat} {σ : L2.St} {H1 : Hp} {D : Addr} {Qd : Hp → Prop} (Pv : Nat → Hp → Prop) (h0 : Pv 0 (upd H1 D (.lst [])))
    (hs : ∀ i c H, z.cps[i]? = some c → Pv i H → g (.str ⟨#[c]⟩) (wipe σ vs) H fun σ2 H2 => wipe σ2 vs = wipe σ vs ∧ tt σ2 H2 fun b H3 =>
      if b = true then te σ2 H3 fun y H4 => ∃ acc, H4 D = some (.lst acc) ∧ acc.length < sizeLine ∧ Pv (i + 1) (upd H4 D (.lst (acc ++ [y]))) else Pv (i + 1) H3) (hd : ∀ H, Pv z.cps.size H → Qd H) :
    ∃ W : Nat → Nat → Hp → Prop, (∃ m, W 0 m (upd H1 D (.lst []))) ∧ ∀ i m H, W i m H →
      ((Its z).stop i H ∧ Qd H) ∨ ((Its z).go i H ∧ ∃ Nx : Hp → Prop, (∀ H', Nx H' → ∃ m', m' < m ∧ W (i + 1) m' H') ∧ ∀ x H', (Its z).yld i H x H' → g x (wipe σ vs) H' fun σ2 H2 => wipe σ2 vs = wipe σ vs ∧ tt σ2 H2 fun b H3 =>
        if b = true then te σ2 H3 fun y H4 => ∃ acc, H4 D = some (.lst acc) ∧ acc.length < sizeLine ∧ Nx (upd H4 D (.lst (acc ++ [y]))) else Nx H3) := by
  refine ⟨fun i m H => m = z.cps.size - i ∧ i ≤ z.cps.size ∧ Pv i H, ⟨z.cps.size, by simp, Nat.zero_le _, h0⟩, ?_⟩
  rintro i m H ⟨rfl, hi, p⟩
  by_cases hlt : i < z.cps.size
  · refine .inr ⟨hlt, Pv (i + 1), fun H' p' => ⟨z.cps.size - (i + 1), by omega, rfl, hlt, p'⟩, fun x H' y => ?_⟩
    obtain ⟨e, c, hc, y⟩ := y
    subst e y
    exact hs i c _ hc p
  · have e : i = z.cps.size := by omega
    subst e
    exact .inl ⟨Nat.le_refl _, hd H p⟩
/-! ### what else the top has written -/
structure AdE where
  fh : Addr
  ms : Addr
  us : Addr
  cRP : Addr
  cCP : Addr
  cSt : Addr
  cCR : Addr
  cDk : Addr
def fhTab : List (Nat × Nat) := [(4, 0), (8, 1), (16, 2), (32, 3), (64, 4), (128, 5), (256, 6), (512, 7), (1024, 8), (2048, 9)]
def fhKvs : List (L2.Key × V) := fhTab.map fun p => (Sum.inl (p.1 : Int), .int (p.2 : Int))
def msTab : List (Nat × Nat) := [(4, 15), (7, 15), (8, 15), (10, 64)]
def msKvs : List (L2.Key × V) := msTab.map fun p => (Sum.inl (p.1 : Int), .int (p.2 : Int))
def useS : List Str := ["kcn", "kj", "kj", "kj", "kjs", "kx", "kj", "ks", "ks", "kcn", "s"]
/-- what isinstance asks of an own class -/
structure IsiOk (K : PySem.W.Frag) (C : Addr) : Prop where
  cl : Cls K C
  ha : PySem.W.findIn K (.ref C) "__class__" = some (some (.builtin "object.__class__"))
  hn : PySem.W.specialIn K (.builtin "object.__class__") "__get__" = some (some (.builtin "getset_descriptor.__get__"))
  htk : PySem.W.takesIn K (.builtin "object.__class__") = some true
  hm : PySem.W.mroIn K C (.type "object") = some true
theorem IsiOk.ty {K : PySem.W.Frag} {C : Addr} (i : IsiOk K C) {H : Hp} {a dx : Addr} {fs : List (Str × V)} (e : H a = some (.ins C dx fs)) : TyX K H (.ref a) (.ref C) := .base (.ins e i.cl i.ha i.hn i.htk i.hm)
structure TxtE (P : Program) (w : World) (K : PySem.W.Frag) (mg : Str → Option Value) (ad : Ad) (dd : AdD) (de : AdE) : Prop extends TxtD P w K mg ad dd where
  b_abs : mg "abs" = none
  b_int : mg "int" = none
  b_isinstance : mg "isinstance" = none
  b_min : mg "min" = none
  b_str : mg "str" = none
  g_BELOW_HOLE : ∃ t, mg "BELOW_HOLE" = some (.int 2 t)
  g_FIGURE_OF_HOLES : mg "FIGURE_OF_HOLES" = some (.ref de.fh)
  d_FH : KD P w K de.fh fhKvs
  g_MOST_S : mg "MOST_S" = some (.ref de.ms)
  d_MS : KD P w K de.ms msKvs
  g_USES : mg "USES" = some (.ref de.us)
  t_US : KTup K de.us (useS.map V.str)
  g_STEP_NUMBERS : ∃ t, mg "STEP_NUMBERS" = some (.int 9 t)
  g_MOST_STEPS : ∃ t, mg "MOST_STEPS" = some (.int 64 t)
  g_MOST_OP : ∃ t, mg "MOST_OP" = some (.int 10 t)
  g_MOST_WHEN : ∃ t, mg "MOST_WHEN" = some (.int 5 t)
  g_MOST_HUB : ∃ t, mg "MOST_HUB" = some (.int 255 t)
  g_MOST_COUNTER : ∃ t, mg "MOST_COUNTER" = some (.int 15 t)
  g_LONGEST_AMOUNT : ∃ t, mg "LONGEST_AMOUNT" = some (.int 18 t)
  g_LEAST_X : ∃ t, mg "LEAST_X" = some (.int (-2147483648) t)
  g_MOST_X : ∃ t, mg "MOST_X" = some (.int 2147483647 t)
  g_FIRST_KEPT : ∃ t, mg "FIRST_KEPT" = some (.int 8 t)
  g_KEPT : ∃ t, mg "KEPT" = some (.int 8 t)
  g_COUNTER_LIMIT : ∃ t, mg "COUNTER_LIMIT" = some (.int 10000000000000000 t)
  g_READ : ∃ t, mg "READ" = some (.int 0 t)
  g_MORE : ∃ t, mg "MORE" = some (.int 1 t)
  g_LESS : ∃ t, mg "LESS" = some (.int 2 t)
  g_TIMES : ∃ t, mg "TIMES" = some (.int 3 t)
  g_DIVIDE : ∃ t, mg "DIVIDE" = some (.int 4 t)
  g_SET : ∃ t, mg "SET" = some (.int 5 t)
  g_MOVE : ∃ t, mg "MOVE" = some (.int 6 t)
  g_SHORTEN : ∃ t, mg "SHORTEN" = some (.int 7 t)
  g_PUNCH : ∃ t, mg "PUNCH" = some (.int 9 t)
  g_SKIP : ∃ t, mg "SKIP" = some (.int 10 t)
  g_IF_BELOW : ∃ t, mg "IF_BELOW" = some (.int 1 t)
  g_IF_NOUGHT : ∃ t, mg "IF_NOUGHT" = some (.int 2 t)
  g_IF_ABOVE : ∃ t, mg "IF_ABOVE" = some (.int 3 t)
  g_IF_SOMETHING : ∃ t, mg "IF_SOMETHING" = some (.int 4 t)
  g_IF_NOTHING : ∃ t, mg "IF_NOTHING" = some (.int 5 t)
  g_NO_AMOUNT : ∃ t, mg "NO_AMOUNT" = some (.int 1 t)
  g_TOO_GREAT : ∃ t, mg "TOO_GREAT" = some (.int 2 t)
  g_BY_NOUGHT : ∃ t, mg "BY_NOUGHT" = some (.int 3 t)
  g_TOO_LONG : ∃ t, mg "TOO_LONG" = some (.int 4 t)
  g_STOP : ∃ t, mg "STOP" = some (.int 80 t)
  g_FIRST_COMPARED : ∃ t, mg "FIRST_COMPARED" = some (.int 96 t)
  g_FIRST_COMPARED_WITH : ∃ t, mg "FIRST_COMPARED_WITH" = some (.int 176 t)
  g_COPY : ∃ t, mg "COPY" = some (.int 6 t)
  g_SETWORK : ∃ t, mg "SETWORK" = some (.int 7 t)
  g_WORK : ∃ t, mg "WORK" = some (.int 8 t)
  g_COUNTERS : ∃ t, mg "COUNTERS" = some (.int 9 t)
  g_NO_PROGRAM : ∃ t, mg "NO_PROGRAM" = some (.int (-2) t)
  g_NOT_SET_UP : ∃ t, mg "NOT_SET_UP" = some (.int (-3) t)
  g_CARDS_DIFFER : ∃ t, mg "CARDS_DIFFER" = some (.int (-5) t)
  g_WRONG_STEP : ∃ t, mg "WRONG_STEP" = some (.int (-5) t)
  g_NO_CARD : ∃ t, mg "NO_CARD" = some (.int (-8) t)
  g_ReproducingPunch : mg "ReproducingPunch" = some (.ref de.cRP)
  g_CalculatingPunch : mg "CalculatingPunch" = some (.ref de.cCP)
  cl_Step : Cls K de.cSt
  n_op : NoAttr K de.cSt "op"
  n_when : NoAttr K de.cSt "when"
  n_hub : NoAttr K de.cSt "hub"
  n_k : NoAttr K de.cSt "k"
  n_j : NoAttr K de.cSt "j"
  n_c : NoAttr K de.cSt "c"
  n_n : NoAttr K de.cSt "n"
  n_s : NoAttr K de.cSt "s"
  n_x : NoAttr K de.cSt "x"
  cl_CardRun : Cls K de.cCR
  n_card : NoAttr K de.cCR "card"
  n_counters : NoAttr K de.cCR "counters"
  n_goes : NoAttr K de.cCR "goes"
  i_RP : IsiOk K de.cRP
  n_rpanel : NoAttr K de.cRP "panel"
  n_last : NoAttr K de.cRP "last_card"
  i_CP : IsiOk K de.cCP
  n_steps : NoAttr K de.cCP "steps"
  n_cpanel : NoAttr K de.cCP "panel"
  n_kept : NoAttr K de.cCP "kept"
  cl_Desk : Cls K de.cDk
  n_punch : NoAttr K de.cDk "punch"
  k_NR : PySem.W.kitOne K (.type "NoneType") (.ref de.cRP) = some false
  k_NC : PySem.W.kitOne K (.type "NoneType") (.ref de.cCP) = some false
  k_RR : PySem.W.kitOne K (.ref de.cRP) (.ref de.cRP) = some true
  k_RC : PySem.W.kitOne K (.ref de.cRP) (.ref de.cCP) = some false
  k_CR : PySem.W.kitOne K (.ref de.cCP) (.ref de.cRP) = some false
  k_CC : PySem.W.kitOne K (.ref de.cCP) (.ref de.cCP) = some true
end CP
/-! HAm1 -/
namespace CP
open PySem PySem.Spec PyProof.Rows L2
theorem fh_look (h : Nat) : fhTab.lookup h = Pu.figureOf h := by
  by_cases h0 : h = 4
  · subst h0; decide
  by_cases h1 : h = 8
  · subst h1; decide
  by_cases h2 : h = 16
  · subst h2; decide
  by_cases h3 : h = 32
  · subst h3; decide
  by_cases h4 : h = 64
  · subst h4; decide
  by_cases h5 : h = 128
  · subst h5; decide
  by_cases h6 : h = 256
  · subst h6; decide
  by_cases h7 : h = 512
  · subst h7; decide
  by_cases h8 : h = 1024
  · subst h8; decide
  by_cases h9 : h = 2048
  · subst h9; decide
  have e1 : Pu.figureOf h = none := by
    unfold Pu.figureOf
    rw [List.find?_eq_none]
    intro d hd
    have hd := List.mem_range.mp hd
    rw [beq_iff_eq]
    unfold Pu.figure
    match d, hd with
    | 0, _ | 1, _ | 2, _ | 3, _ | 4, _ | 5, _ | 6, _ | 7, _ | 8, _ | 9, _ => omega
  rw [e1]
  have b : ∀ n : Nat, h ≠ n → (h == n) = false := fun n hn => beq_eq_false_iff_ne.mpr hn
  unfold fhTab
  simp only [List.lookup, b _ h0, b _ h1, b _ h2, b _ h3, b _ h4, b _ h5, b _ h6, b _ h7, b _ h8, b _ h9]
theorem fh_val (h : Nat) : valV fhKvs (Sum.inl (h : Int)) = (Pu.figureOf h).map fun d => V.int (d : Int) := by
  rw [← fh_look, ← val_tab]; rfl
def oN (o : Option Nat) : V := match o with
  | none => .non
  | some n => .int (n : Int)
def oZ (o : Option Int) : V := match o with
  | none => .non
  | some n => .int n
theorem list_at {α : Type} {l : List α} {i : Nat} {y : V} {f : α → V} (h : (l.map f)[i]? = some y) : ∃ x, l[i]? = some x ∧ y = f x ∧ l.drop i = x :: l.drop (i + 1) ∧ i < l.length := by
  rw [List.getElem?_map] at h
  have hi : i < l.length := by
    apply Classical.byContradiction; intro z
    rw [List.getElem?_eq_none (by omega)] at h; cases h
  rw [List.getElem?_eq_getElem hi] at h
  exact ⟨l[i], List.getElem?_eq_getElem hi, (Option.some.inj h).symm, List.drop_eq_getElem_cons hi, hi⟩
theorem cut_last (xs : List V) (y : V) : cutV (xs ++ [y]) none (some (-1)) = xs := by
  unfold cutV
  rw [HT.sIx_none]
  have : HT.sIx (xs ++ [y]).length (xs ++ [y]).length (some (-1)) = xs.length := by
    unfold HT.sIx
    simp only [List.length_append, List.length_singleton]
    rw [if_pos (by decide)]
    omega
  rw [this, List.drop_zero, Nat.sub_zero, List.take_left]
theorem log2_small {n k : Nat} (h : n < 2 ^ k) : n.log2 ≤ k := by
  by_cases z : n = 0
  · subst z
    exact Nat.zero_le _
  · exact Nat.le_of_lt ((Nat.log2_lt z).mpr h)
theorem numL_lt_iff : ∀ (n x : Nat), 1 ≤ n → ((TL.numL x).length ≤ n ↔ x < 10 ^ n)
  | 0, x, h => by omega
  | 1, x, h => by
    by_cases c : x < 10
    · rw [TL.numL_lt c]
      simp; omega
    · rw [TL.numL_step (by omega), List.length_append]
      have : 1 ≤ (TL.numL (x / 10)).length := List.length_pos_iff.mpr (TL.numL_ne _)
      simp only [List.length_singleton]
      omega
  | n + 2, x, h => by
    have ih := numL_lt_iff (n + 1) (x / 10) (by omega)
    have p : 10 ^ (n + 2) = 10 * 10 ^ (n + 1) := by rw [Nat.pow_succ, Nat.mul_comm]
    have p1 : 1 ≤ 10 ^ (n + 1) := Nat.pow_pos (by decide)
    by_cases c : x < 10
    · rw [TL.numL_lt c]
      simp only [List.length_singleton]
      omega
    · rw [TL.numL_step (by omega), List.length_append]
      simp only [List.length_singleton]
      omega
section
variable {P : Program} {w : World} {K : PySem.W.Frag} {mg : Str → Option Value} {base : Heap} {ad : Ad} {dd : AdD} {de : AdE}
abbrev s_number_of_figures : Stmt := topS 21
abbrev N_number_of_figures : List Str := ["columns", "number", "begun", "holes", "figure"]
theorem sc_number_of_figures : FnScope N_number_of_figures ["columns"] (defScope s_number_of_figures) := ⟨rfl, rfl, rfl, by decide +kernel, rfl, by decide +kernel, by decide +kernel⟩
def sp_number_of_figures (K : PySem.W.Frag) : Sp := fun vs H Q _ => ∃ (a : Addr) (l : List Nat), vs = [.ref a] ∧ SqL K H a (l.map vN) ∧ Q (oN (nf 0 false l)) H
theorem ok_number_of_figures {f : Addr} {fd : FuncData} (F : Fun K "number_of_figures" "number_of_figures" s_number_of_figures f fd) (T : TxtE P w K mg ad dd de) : FnOk P w K mg base CX0 1 f fd ["columns"] (sp_number_of_figures K) := by
  refine F.ok sc_number_of_figures (fun vs H Q E h => ?_) (fun cdv A outer s H vs Q E hr h => ?_)
  · obtain ⟨a, l, rfl, _⟩ := h; rfl
  · obtain ⟨a, l, rfl, ha, q⟩ := h
    refine ⟨_, (pss_cons (ps_set (i := 1) sc_number_of_figures.nd rfl (Or.inl rfl) pe_int)
      (pss_cons (ps_set (i := 2) sc_number_of_figures.nd rfl (Or.inl rfl) pe_bl)
      (pss_cons (ps_for PassesOwn.never rfl (pi_list (pv 0)) (pg_name (i := 3) sc_number_of_figures.nd rfl (Or.inl rfl))
      (pss_cons (ps_set (i := 4) sc_number_of_figures.nd rfl (Or.inl rfl) (pe_kget1 (pe_gref (by rfl) T.g_FIGURE_OF_HOLES) (pv 3) ⟨rfl, rfl, rfl, rfl⟩))
      (pss_one (ps_if (pt_cmpR op_notN (pv 4) pe_non (nomark _))
      (pss_cons (ps_set (i := 1) sc_number_of_figures.nd rfl (Or.inl rfl) (pe_op op_add (pe_op op_mul pe_int (pv 1)) (pv 4)))
      (pss_one (ps_set (i := 2) sc_number_of_figures.nd rfl (Or.inl rfl) pe_bl)))
      (pss_one (ps_if (PW.pt (pw_or (pt_val (pv 2)) (pw_or1 (pt_cmpR op_gt (pv 3) pe_int (nomark _)))))
      (pss_one (ps_ret pe_non))
      pss_nil))))))
      (pss_one (ps_ret (pe_ifExp (pt_val (pv 2)) (pv 1) pe_non)))))), ?_⟩
    refine ⟨_, rfl, a, rfl, ⟨_, ha⟩, ?_⟩
    refine for_list (K := K) (a := a) (xs := l.map vN) (fun i σ H' => H' = H ∧ ∃ (n : Nat) (b : Bool) (v3 v4 : Option V), σ = [some (.ref a), some (.int (n : Int)), some (.bl b), v3, v4] ∧ nf n b (l.drop i) = nf 0 false l) ⟨rfl, 0, false, none, none, rfl, rfl⟩ ?_ ?_ ?_
    · rintro i σ H' _ ⟨rfl, _⟩
      exact ha
    · rintro i y σ H' hy ⟨rfl, n, b, v3, v4, rfl, e⟩
      obtain ⟨h, hl, rfl, ed, hi⟩ := list_at hy
      rw [ed] at e
      refine ⟨de.fh, fhKvs, rfl, T.d_FH, _, rfl, Sum.inl (h : Int), rfl, ?_⟩
      rw [fh_val]
      cases ef : Pu.figureOf h with
      | some d =>
        rw [nf_fig ef] at e
        refine ⟨_, rfl, rfl, _, rfl, ift rfl ?_⟩
        refine ⟨_, rfl, _, _, rfl, rfl, .inl ⟨by decide, by decide⟩, _, rfl, _, (d : Int), rfl, rfl, ?_⟩
        exact ⟨rfl, 10 * n + d, true, _, _, by
          have : ((10 : Int) * (n : Int) + (d : Int)) = ((10 * n + d : Nat) : Int) := by omega
          show [_, some (V.int ((10 : Int) * (n : Int) + (d : Int))), _, _, _] = _
          rw [this], e⟩
      | none =>
        refine ⟨_, rfl, rfl, _, rfl, iff_ rfl ?_⟩
        by_cases c : (b || decide (0 < h)) = true
        · rw [nf_bad ef c] at e
          have q' : Q .non H' := by
            rw [← e] at q; exact q
          cases b with
          | true => exact ⟨_, rfl, _, rfl, ift rfl (ift rfl q')⟩
          | false =>
            refine ⟨_, rfl, _, rfl, iff_ rfl ⟨_, rfl, _, _, rfl, rfl, _, rfl, ift (decide_eq_true ?_) q'⟩⟩
            have : 0 < h := by simpa using c
            omega
        · have c' : (b || decide (0 < h)) = false := by simpa using c
          rw [nf_skip ef c'] at e
          cases b with
          | true => cases c'
          | false =>
            refine ⟨_, rfl, _, rfl, iff_ rfl ⟨_, rfl, _, _, rfl, rfl, _, rfl, iff_ (decide_eq_false ?_) ?_⟩⟩
            · have : ¬ 0 < h := by simpa using c'
              omega
            · exact ⟨rfl, n, false, _, _, rfl, e⟩
    · rintro σ H' ⟨rfl, n, b, v3, v4, rfl, e⟩
      rw [List.length_map, List.drop_length] at e
      rw [← e] at q
      cases b with
      | true => exact ⟨_, rfl, _, rfl, ift rfl ⟨_, rfl, q⟩⟩
      | false => exact ⟨_, rfl, _, rfl, iff_ rfl q⟩
abbrev s_read_amount : Stmt := topS 22
abbrev N_read_amount : List Str := ["columns", "last", "below", "number"]
theorem sc_read_amount : FnScope N_read_amount ["columns"] (defScope s_read_amount) := ⟨rfl, rfl, rfl, by decide +kernel, rfl, by decide +kernel, by decide +kernel⟩
def sp_read_amount (K : PySem.W.Frag) : Sp := fun vs H Q _ => ∃ (a : Addr) (l : List Nat), vs = [.ref a] ∧ H a = some (.lst (l.map vN)) ∧ l ≠ [] ∧ l.length ≤ 100 ∧ ∀ H', Same H H' → Q (oZ (Pu.amountOf l)) H'
theorem ok_read_amount {f : Addr} {fd : FuncData} (F : Fun K "read_amount" "read_amount" s_read_amount f fd) (T : TxtE P w K mg ad dd de) (D_number_of_figures : Dcl P w K mg base 1 "number_of_figures" ["columns"] (sp_number_of_figures K)) : FnOk P w K mg base CX0 2 f fd ["columns"] (sp_read_amount K) := by
  refine F.ok sc_read_amount (fun vs H Q E h => ?_) (fun cdv A outer s H vs Q E hr h => ?_)
  · obtain ⟨a, l, rfl, _⟩ := h; rfl
  · obtain ⟨a, l0, rfl, ha, ne, ll, q⟩ := h
    refine ⟨_, (pss_cons (ps_set (i := 1) sc_read_amount.nd rfl (Or.inl rfl) (pe_ix ix_list (pv 0) (pe_un un_neg pe_int) (fun _ _ => rfl)))
      (pss_cons (ps_set (i := 2) sc_read_amount.nd rfl (Or.inl rfl) (pe_op op_and (pv 1) (pe_gint (by rfl) T.g_BELOW_HOLE)))
      (pss_cons (ps_set (i := 3) sc_read_amount.nd rfl (Or.inl rfl) (pe_call D_number_of_figures.ok (hr.mono (by decide)) (by rfl) D_number_of_figures.g D_number_of_figures.kp D_number_of_figures.b .nil pass0 (pa_cons (pe_op op_cat (pe_slice sl_list (pv 0) po_none (po_some (pe_un un_neg pe_int))) (pe_lst (pa_cons (pe_op op_sub (pv 1) (pv 2)) pa_nil))) pa_nil)))
      (pss_cons (ps_if (PW.pt (pw_or (pt_cmpR op_isN (pv 3) pe_non (nomark _)) (pw_or1 (pt_cmpR op_eq (pv 2) pe_int (nomark _)))))
      (pss_one (ps_ret (pv 3)))
      pss_nil)
      (pss_one (ps_ret (pe_ifExp (pt_cmpR op_gt (pv 3) pe_int (nomark _)) (pe_un un_neg (pv 3)) pe_non))))))), ?_⟩
    obtain ⟨l, last, rfl⟩ : ∃ l last, l0 = l ++ [last] := ⟨l0.dropLast, l0.getLast ne, (List.dropLast_concat_getLast ne).symm⟩
    have ea : (l ++ [last]).map vN = l.map vN ++ [vN last] := by rw [List.map_append]; rfl
    rw [ea] at ha
    refine ⟨_, rfl, _, rfl, a, _, _, _, rfl, rfl, SqL.of ha, atI_last _ _, ?_⟩
    refine ⟨_, rfl, _, _, rfl, rfl, ?_⟩
    refine ⟨_, rfl, _, rfl, _, rfl, a, _, rfl, SqL.of ha, fun r1 n1 => ?_⟩
    rw [cut_last]
    have t1 := same_upd (o := .lst (l.map vN)) n1
    have eb : Builtin.bitAnd (last : Int) 2 = ((last &&& 2 : Nat) : Int) := band_nat last 2
    dsimp only
    rw [eb]
    have le : last &&& 2 ≤ last := Nat.and_le_left
    refine ⟨_, rfl, _, rfl, _, _, rfl, rfl, (by show 1 ≤ sizeLine; decide), fun r2 n2 => ?_⟩
    have es : (last : Int) - ((last &&& 2 : Nat) : Int) = ((last - (last &&& 2) : Nat) : Int) := by omega
    dsimp only
    rw [es]
    have t2 := same_upd (o := .lst [V.int ((last - (last &&& 2) : Nat) : Int)]) n2
    refine ⟨r1, r2, _, _, rfl, rfl, t2 _ _ upd_same, upd_same, ?_, fun r3 n3 => ?_⟩
    · rw [List.length_map]
      rw [List.length_append, List.length_singleton] at ll
      exact Nat.le_of_lt (size_big (by show l.length + 1 ≤ _; omega))
    have t3 := same_upd (o := .lst (l.map vN ++ [V.int ((last - (last &&& 2) : Nat) : Int)])) n3
    have sA := t1.trans (t2.trans t3)
    refine ⟨r3, l ++ [last - (last &&& 2)], rfl, SqL.of ?_, ?_⟩
    · rw [upd_same, List.map_append]; rfl
    have q1 := q _ sA
    rw [amount_is] at q1
    unfold readA at q1
    cases hn : nf 0 false (l ++ [last - (last &&& 2)]) with
    | none =>
      rw [hn] at q1
      exact ⟨_, rfl, rfl, _, rfl, ift rfl (ift rfl ⟨_, rfl, q1⟩)⟩
    | some n =>
      rw [hn] at q1
      refine ⟨_, rfl, rfl, _, rfl, iff_ rfl ?_⟩
      simp only at q1
      by_cases c : last &&& 2 = 0
      · rw [if_pos c] at q1
        refine ⟨_, rfl, rfl, _, rfl, ift (decide_eq_true (by rw [c]; rfl)) ⟨_, rfl, q1⟩⟩
      · rw [if_neg c] at q1
        refine ⟨_, rfl, rfl, _, rfl, iff_ (decide_eq_false (fun z => c (by have := V.int.inj z; omega))) ?_⟩
        refine ⟨_, rfl, _, _, rfl, rfl, _, rfl, ?_⟩
        by_cases p : 0 < n
        · rw [if_pos p] at q1
          exact ift (decide_eq_true (by show (0 : Int) < (n : Int); omega)) ⟨_, rfl, _, rfl, q1⟩
        · rw [if_neg p] at q1
          exact iff_ (decide_eq_false (by show ¬ (0 : Int) < (n : Int); omega)) q1
abbrev s_figures_of : Stmt := topS 23
abbrev N_figures_of : List Str := ["amount"]
theorem sc_figures_of : FnScope N_figures_of ["amount"] (defScope s_figures_of) := ⟨rfl, rfl, rfl, by decide +kernel, rfl, by decide +kernel, by decide +kernel⟩
def sp_figures_of : Sp := fun vs H Q _ => ∃ z : Int, vs = [.int z] ∧ z.natAbs < 10000000000000000000 ∧ Q (.str (Str.ofString (toString ((z.natAbs : Nat) : Int)))) H
theorem ok_figures_of {f : Addr} {fd : FuncData} (F : Fun K "figures_of" "figures_of" s_figures_of f fd) (T : TxtE P w K mg ad dd de) : FnOk P w K mg base CX0 1 f fd ["amount"] sp_figures_of := by
  refine F.ok sc_figures_of (fun vs H Q E h => ?_) (fun cdv A outer s H vs Q E hr h => ?_)
  · obtain ⟨z, rfl, _⟩ := h; rfl
  · obtain ⟨z, rfl, hz, q⟩ := h
    refine ⟨_, (pss_one (ps_ret (pe_callTy call_str_int (by rfl) T.b_str (by decide +kernel) (pa_cons (pe_callB call_abs (by rfl) T.b_abs (by decide +kernel) (pa_cons (pv 0) pa_nil)) pa_nil)))), ?_⟩
    refine ⟨_, rfl, z, rfl, ?_⟩
    have ea : (if z < 0 then -z else z) = ((z.natAbs : Nat) : Int) := by
      by_cases c : z < 0
      · rw [if_pos c]; omega
      · rw [if_neg c]; omega
    rw [ea]
    refine ⟨_, rfl, ?_, q⟩
    rw [Int.natAbs_natCast]
    have : z.natAbs < 2 ^ 64 := Nat.lt_trans hz (by decide)
    exact Nat.lt_of_le_of_lt (log2_small this) (by decide)
abbrev s_amount_fits : Stmt := topS 24
abbrev N_amount_fits : List Str := ["amount", "n"]
theorem sc_amount_fits : FnScope N_amount_fits ["amount", "n"] (defScope s_amount_fits) := ⟨rfl, rfl, rfl, by decide +kernel, rfl, by decide +kernel, by decide +kernel⟩
def sp_amount_fits : Sp := fun vs H Q _ => ∃ (z : Int) (n : Nat), vs = [.int z, .int (n : Int)] ∧ z.natAbs < 10000000000000000000 ∧ 1 ≤ n ∧ Q (.bl (decide (¬ 10 ^ n ≤ z.natAbs))) H
theorem ok_amount_fits {f : Addr} {fd : FuncData} (F : Fun K "amount_fits" "amount_fits" s_amount_fits f fd) (T : TxtE P w K mg ad dd de) (D_figures_of : Dcl P w K mg base 1 "figures_of" ["amount"] sp_figures_of) : FnOk P w K mg base CX0 2 f fd ["amount", "n"] sp_amount_fits := by
  refine F.ok sc_amount_fits (fun vs H Q E h => ?_) (fun cdv A outer s H vs Q E hr h => ?_)
  · obtain ⟨z, n, rfl, _⟩ := h; rfl
  · obtain ⟨z, n, rfl, hz, hn, q⟩ := h
    refine ⟨_, (pss_one (ps_ret (pe_cmpR op_le (pe_callB call_len_str (by rfl) T.b_len PySem.boot_len (pa_cons (pe_call D_figures_of.ok (hr.mono (by decide)) (by rfl) D_figures_of.g D_figures_of.kp D_figures_of.b .nil pass0 (pa_cons (pv 0) pa_nil)) pa_nil)) (pv 1) (nomark _)))), ?_⟩
    refine ⟨_, rfl, z, rfl, hz, ?_⟩
    have hl : (Str.ofString (toString ((z.natAbs : Nat) : Int))).length = (TL.numL z.natAbs).length := by rw [TL.len_tl, TL.tl_num]
    have hs : (TL.numL z.natAbs).length ≤ 19 := TL.numL_len (by decide) hz
    refine ⟨_, rfl, by rw [hl]; exact Nat.le_of_lt (size_big (by omega)), _, rfl, _, _, rfl, rfl, ?_⟩
    refine qbl q ?_
    rw [hl]
    by_cases c : 10 ^ n ≤ z.natAbs
    · rw [decide_eq_false (fun h => h c), decide_eq_false]
      intro h
      exact (Nat.not_lt.mpr c) ((numL_lt_iff n z.natAbs hn).mp (by omega))
    · rw [decide_eq_true c, decide_eq_true]
      have := (numL_lt_iff n z.natAbs hn).mpr (Nat.lt_of_not_le c)
      omega
end
end CP
/-! HAm2 -/
namespace CP
open PySem PySem.Spec PyProof.Rows L2
theorem fill_is : ∀ (n x : Nat), 1 ≤ n → x < 10 ^ n → List.replicate (n - (TL.numL x).length) 48 ++ TL.numL x = (Pu.figuresOf n x).map (48 + ·)
  | 0, x, h, _ => by omega
  | 1, x, h, hx => by
    rw [TL.numL_lt (by omega)]
    show [48 + x] = [48 + x % 10]
    rw [Nat.mod_eq_of_lt (by omega)]
  | n + 2, x, h, hx => by
    rw [Pu.figuresOf, List.map_append]
    by_cases c : x < 10
    · rw [TL.numL_lt c, Nat.div_eq_of_lt c, figuresOf_zero, List.map_replicate, Nat.mod_eq_of_lt c]
      rfl
    · have p : 10 ^ (n + 2) = 10 * 10 ^ (n + 1) := by rw [Nat.pow_succ, Nat.mul_comm]
      rw [TL.numL_step (by omega), ← fill_is (n + 1) (x / 10) (by omega) (by omega), List.length_append, List.length_singleton, ← List.append_assoc]
      rw [show n + 2 - ((TL.numL (x / 10)).length + 1) = n + 1 - (TL.numL (x / 10)).length from by omega]
      rfl
theorem zf_list {n x : Nat} (h1 : 1 ≤ n) (h : x < 10 ^ n) : (Txt.zfill (Str.ofString (toString ((x : Nat) : Int))) (n : Int)).cps.toList = (Pu.figuresOf n x).map (48 + ·) := by
  rw [← fill_is n x h1 h]
  have hl : (Str.ofString (toString ((x : Nat) : Int))).length = (TL.numL x).length := by rw [TL.len_tl, TL.tl_num]
  have ht : (Str.ofString (toString ((x : Nat) : Int))).cps.toList = TL.numL x := TL.tl_num x
  have le := (numL_lt_iff n x h1).mpr h
  generalize Str.ofString (toString ((x : Nat) : Int)) = S at *
  unfold Txt.zfill
  by_cases c : (n : Int) ≤ (S.length : Int)
  · rw [if_pos c, ht, show n - (TL.numL x).length = 0 from by omega]; rfl
  · rw [if_neg c]
    have hz : zfilled S ((n : Int).toNat - S.length) = Builtin.Str.padded S ((n : Int).toNat - S.length) 0 48 := by
      unfold zfilled
      have h0 : ∀ k, S.cps[0]? = some k → 48 ≤ k := by
        intro k hk
        have : (TL.numL x)[0]? = some k := by rw [← ht]; simpa using hk
        exact (TL.numL_digits x k (List.mem_of_getElem? this)).1
      split
      · rename_i e; have := h0 _ e; omega
      · rename_i e; have := h0 _ e; omega
      · rfl
    rw [hz]
    unfold Builtin.Str.padded
    simp only [Array.toList_append, Array.toList_replicate, List.replicate_zero, List.append_nil, ht, Int.toNat_natCast, hl]
theorem pad_small : ∀ n : Nat, n ≤ 18 → PadOk (n : Int) = true := by decide +kernel
theorem int_fig {d : Nat} (h : d < 10) : PySem.intText? (⟨#[48 + d]⟩ : Str) = some (d : Int) := by
  have := PySem.intText_digits (x := (⟨#[48 + d]⟩ : Str)) (by
    intro c hc
    have : c = 48 + d := by simpa using hc
    omega) (by simp) (by show 1 ≤ 4300; decide)
  rw [this]
  show some (((0 * 10 + (48 + d - 48) : Nat)) : Int) = _
  congr 1
  omega
theorem bor2 (n : Nat) : Builtin.bitOr (n : Int) 2 = ((n ||| 2 : Nat) : Int) := bor_nat n 2
section
variable {P : Program} {w : World} {K : PySem.W.Frag} {mg : Str → Option Value} {base : Heap} {ad : Ad} {dd : AdD} {de : AdE}
abbrev s_write_amount : Stmt := topS 25
abbrev N_write_amount : List Str := ["amount", "n", "columns", "sign"]
theorem sc_write_amount : FnScope N_write_amount ["amount", "n"] (defScope s_write_amount) := ⟨rfl, rfl, rfl, by decide +kernel, rfl, by decide +kernel, by decide +kernel⟩
def sp_write_amount : Sp := fun vs H Q _ => ∃ (z : Int) (n : Nat), vs = [.int z, .int (n : Int)] ∧ z.natAbs < 10000000000000000000 ∧ 1 ≤ n ∧ n ≤ 18 ∧ ¬ 10 ^ n ≤ z.natAbs ∧ NewL H Q ((putL n z).map vN)
theorem ok_write_amount {f : Addr} {fd : FuncData} (F : Fun K "write_amount" "write_amount" s_write_amount f fd) (T : TxtE P w K mg ad dd de) (D_figures_of : Dcl P w K mg base 1 "figures_of" ["amount"] sp_figures_of) (D_figure_hole : Dcl P w K mg base 1 "figure_hole" ["figure"] sp_figure_hole) : FnOk P w K mg base CX0 2 f fd ["amount", "n"] sp_write_amount := by
  refine F.ok sc_write_amount (fun vs H Q E h => ?_) (fun cdv A outer s H vs Q E hr h => ?_)
  · obtain ⟨z, n, rfl, _⟩ := h; rfl
  · obtain ⟨z, n, rfl, hz, h1, h18, hn, q⟩ := h
    refine ⟨_, (pss_cons (ps_setLc (i := 2) (own := [("sign", 3)]) (g := gName 3) (tt := tYes) (te := tCall sp_figure_hole [] E0 (tCons (tCB (fun xs H Q => ∃ a n, xs = [V.str a] ∧ PySem.intText? a = some n ∧ a.length ≤ 640 ∧ Q (V.int n) H) (tCons (tVar 3) tNil)) tNil)) (by rfl) sc_write_amount.nd rfl rfl (sw_true rfl rfl rfl (by decide +kernel)) (pi_str (pe_bm PySem.F.plainAttrs_str PySem.F.slot_str_zfill PySem.F.type_str_zfill mt_zfill (pe_call D_figures_of.ok (hr.mono (by decide)) (by rfl) D_figures_of.g D_figures_of.kp D_figures_of.b .nil pass0 (pa_cons (pv 0) pa_nil)) (pa_cons (pv 1) pa_nil))) (blkOk_by (own := [("sign", 3)]) (N := N_write_amount) (sc := defScope s_write_amount) (by decide +kernel)) (fun _ _ _ _ _ => pg_name (i := 3) sc_write_amount.nd rfl (Or.inl rfl)) (fun _ _ _ _ _ => pts_nil) (fun _ _ _ _ _ => (pe_call D_figure_hole.ok (hr.mono (by decide)) (by rfl) D_figure_hole.g D_figure_hole.kp D_figure_hole.b .nil pass0 (pa_cons (pe_callTy call_int_str (by rfl) T.b_int (by decide +kernel) (pa_cons (pv 3) pa_nil)) pa_nil))))
      (pss_cons (ps_if (pt_cmpR op_lt (pv 0) pe_int (nomark _))
      (pss_one (ps_augS (pv 2) (pe_op op_sub (pv 1) pe_int) get_list (pe_gint (by rfl) T.g_BELOW_HOLE) iop_or set_list))
      pss_nil)
      (pss_one (ps_ret (pv 2))))), ?_⟩
    refine ⟨_, rfl, z, rfl, hz, rfl, _, rfl, _, _, rfl, rfl, ?_, _, rfl, fun D nD => ?_⟩
    · exact pad_small n h18
    have zl := zf_list h1 (Nat.lt_of_not_le hn)
    generalize Txt.zfill (Str.ofString (toString ((z.natAbs : Nat) : Int))) (n : Int) = S at *
    have ln := figuresOf_len n z.natAbs
    have sz : S.cps.size = n := by
      have := congrArg List.length zl
      rw [List.length_map, ln] at this
      simpa using this
    refine lc_str (z := S) (fun i H' => Same H H' ∧ H' D = some (.lst (((Pu.figuresOf n z.natAbs).take i).map fun d => vN (Pu.figure d)))) ⟨same_upd nD, upd_same⟩ ?_ ?_
    · rintro i c H' hc ⟨sm, eD⟩
      have hc' : ((Pu.figuresOf n z.natAbs).map (48 + ·))[i]? = some c := by rw [← zl]; simpa using hc
      rw [List.getElem?_map] at hc'
      cases hd : (Pu.figuresOf n z.natAbs)[i]? with
      | none => rw [hd] at hc'; cases hc'
      | some d =>
        rw [hd] at hc'
        have ec : 48 + d = c := Option.some.inj hc'
        subst ec
        have d10 := figuresOf_lt n z.natAbs d (List.mem_of_getElem? hd)
        refine ⟨rfl, ?_⟩
        refine ⟨_, rfl, _, (d : Int), rfl, int_fig d10, (by show 1 ≤ 640; decide), d, rfl, by omega, _, eD, ?_, Same.mut sm nD, ?_⟩
        · rw [List.length_map, List.length_take, ln]
          exact size_big (by omega)
        · rw [upd_same, List.take_add_one, hd, List.map_append]
          rfl
    · rintro H' ⟨sm, eD⟩
      rw [sz, List.take_of_length_le (by omega)] at eD
      have eF : ((Pu.figuresOf n z.natAbs).map fun d => vN (Pu.figure d)) = (figL n z).map vN := by
        unfold figL; rw [List.map_map]; rfl
      rw [eF] at eD
      refine ⟨_, rfl, _, _, rfl, rfl, _, rfl, ?_⟩
      by_cases c : z < 0
      · refine ift (decide_eq_true c) ?_
        obtain ⟨d, d10, e1, e2⟩ := figL_last z h1
        have hm : ((figL n z).map vN)[n - 1]? = some (vN (Pu.figure d)) := by rw [List.getElem?_map, e1]; rfl
        have ei : (n : Int) - 1 = ((n - 1 : Nat) : Int) := by omega
        refine ⟨_, rfl, _, rfl, _, _, rfl, rfl, D, _, _, _, rfl, rfl, SqL.of eD, at_of ei hm, _, _, rfl, rfl, D, _, _, n - 1, rfl, rfl, eD, ixN_nat (by rw [List.length_map, figL_len]; omega) ei, ?_⟩
        refine ⟨_, rfl, q _ D (Same.mut sm nD) nD ?_⟩
        rw [upd_same]
        dsimp only
        rw [bor2, map_set_vN, putL_set h1 c e1]
      · refine iff_ (decide_eq_false c) ?_
        refine ⟨_, rfl, q H' D sm nD ?_⟩
        rw [eD]
        unfold putL
        rw [if_neg c]
end
end CP
/-! HProg1 -/
namespace CP
open PySem PySem.Spec PyProof.Rows L2
/-- a step's attributes -/
def stF (a b c d e g h i x : Int) : List (Str × V) := [("op", .int a), ("when", .int b), ("hub", .int c), ("k", .int d), ("j", .int e), ("c", .int g), ("n", .int h), ("s", .int i), ("x", .int x)]
theorem stF_op (a b c d e g h i x : Int) : (stF a b c d e g h i x).lookup ("op" : Str) = some (.int a) := lk_here
theorem stF_when (a b c d e g h i x : Int) : (stF a b c d e g h i x).lookup ("when" : Str) = some (.int b) := (lk_past (by decide +kernel)).trans (lk_here)
theorem stF_hub (a b c d e g h i x : Int) : (stF a b c d e g h i x).lookup ("hub" : Str) = some (.int c) := (lk_past (by decide +kernel)).trans ((lk_past (by decide +kernel)).trans (lk_here))
theorem stF_k (a b c d e g h i x : Int) : (stF a b c d e g h i x).lookup ("k" : Str) = some (.int d) := (lk_past (by decide +kernel)).trans ((lk_past (by decide +kernel)).trans ((lk_past (by decide +kernel)).trans (lk_here)))
theorem stF_j (a b c d e g h i x : Int) : (stF a b c d e g h i x).lookup ("j" : Str) = some (.int e) := (lk_past (by decide +kernel)).trans ((lk_past (by decide +kernel)).trans ((lk_past (by decide +kernel)).trans ((lk_past (by decide +kernel)).trans (lk_here))))
theorem stF_c (a b c d e g h i x : Int) : (stF a b c d e g h i x).lookup ("c" : Str) = some (.int g) := (lk_past (by decide +kernel)).trans ((lk_past (by decide +kernel)).trans ((lk_past (by decide +kernel)).trans ((lk_past (by decide +kernel)).trans ((lk_past (by decide +kernel)).trans (lk_here)))))
theorem stF_n (a b c d e g h i x : Int) : (stF a b c d e g h i x).lookup ("n" : Str) = some (.int h) := (lk_past (by decide +kernel)).trans ((lk_past (by decide +kernel)).trans ((lk_past (by decide +kernel)).trans ((lk_past (by decide +kernel)).trans ((lk_past (by decide +kernel)).trans ((lk_past (by decide +kernel)).trans (lk_here))))))
theorem stF_s (a b c d e g h i x : Int) : (stF a b c d e g h i x).lookup ("s" : Str) = some (.int i) := (lk_past (by decide +kernel)).trans ((lk_past (by decide +kernel)).trans ((lk_past (by decide +kernel)).trans ((lk_past (by decide +kernel)).trans ((lk_past (by decide +kernel)).trans ((lk_past (by decide +kernel)).trans ((lk_past (by decide +kernel)).trans (lk_here)))))))
theorem stF_x (a b c d e g h i x : Int) : (stF a b c d e g h i x).lookup ("x" : Str) = some (.int x) := (lk_past (by decide +kernel)).trans ((lk_past (by decide +kernel)).trans ((lk_past (by decide +kernel)).trans ((lk_past (by decide +kernel)).trans ((lk_past (by decide +kernel)).trans ((lk_past (by decide +kernel)).trans ((lk_past (by decide +kernel)).trans ((lk_past (by decide +kernel)).trans (lk_here))))))))
def sf0 : List (Str × V) := []
def sf1 (a : Int) : List (Str × V) := [("op", .int a)]
def sf2 (a b : Int) : List (Str × V) := [("op", .int a), ("when", .int b)]
def sf3 (a b c : Int) : List (Str × V) := [("op", .int a), ("when", .int b), ("hub", .int c)]
def sf4 (a b c d : Int) : List (Str × V) := [("op", .int a), ("when", .int b), ("hub", .int c), ("k", .int d)]
def sf5 (a b c d e : Int) : List (Str × V) := [("op", .int a), ("when", .int b), ("hub", .int c), ("k", .int d), ("j", .int e)]
def sf6 (a b c d e g : Int) : List (Str × V) := [("op", .int a), ("when", .int b), ("hub", .int c), ("k", .int d), ("j", .int e), ("c", .int g)]
def sf7 (a b c d e g h : Int) : List (Str × V) := [("op", .int a), ("when", .int b), ("hub", .int c), ("k", .int d), ("j", .int e), ("c", .int g), ("n", .int h)]
def sf8 (a b c d e g h i : Int) : List (Str × V) := [("op", .int a), ("when", .int b), ("hub", .int c), ("k", .int d), ("j", .int e), ("c", .int g), ("n", .int h), ("s", .int i)]
def sf9 (a b c d e g h i x : Int) : List (Str × V) := stF a b c d e g h i x
theorem stP_0 (a : Int) : putF "op" (.int a) (sf0 ) = sf1 a := rfl
theorem stP_1 (a b : Int) : putF "when" (.int b) (sf1 a) = sf2 a b := (put_past (by decide +kernel)).trans (congrArg _ (rfl))
theorem stP_2 (a b c : Int) : putF "hub" (.int c) (sf2 a b) = sf3 a b c := (put_past (by decide +kernel)).trans (congrArg _ ((put_past (by decide +kernel)).trans (congrArg _ (rfl))))
theorem stP_3 (a b c d : Int) : putF "k" (.int d) (sf3 a b c) = sf4 a b c d := (put_past (by decide +kernel)).trans (congrArg _ ((put_past (by decide +kernel)).trans (congrArg _ ((put_past (by decide +kernel)).trans (congrArg _ (rfl))))))
theorem stP_4 (a b c d e : Int) : putF "j" (.int e) (sf4 a b c d) = sf5 a b c d e := (put_past (by decide +kernel)).trans (congrArg _ ((put_past (by decide +kernel)).trans (congrArg _ ((put_past (by decide +kernel)).trans (congrArg _ ((put_past (by decide +kernel)).trans (congrArg _ (rfl))))))))
theorem stP_5 (a b c d e g : Int) : putF "c" (.int g) (sf5 a b c d e) = sf6 a b c d e g := (put_past (by decide +kernel)).trans (congrArg _ ((put_past (by decide +kernel)).trans (congrArg _ ((put_past (by decide +kernel)).trans (congrArg _ ((put_past (by decide +kernel)).trans (congrArg _ ((put_past (by decide +kernel)).trans (congrArg _ (rfl))))))))))
theorem stP_6 (a b c d e g h : Int) : putF "n" (.int h) (sf6 a b c d e g) = sf7 a b c d e g h := (put_past (by decide +kernel)).trans (congrArg _ ((put_past (by decide +kernel)).trans (congrArg _ ((put_past (by decide +kernel)).trans (congrArg _ ((put_past (by decide +kernel)).trans (congrArg _ ((put_past (by decide +kernel)).trans (congrArg _ ((put_past (by decide +kernel)).trans (congrArg _ (rfl))))))))))))
theorem stP_7 (a b c d e g h i : Int) : putF "s" (.int i) (sf7 a b c d e g h) = sf8 a b c d e g h i := (put_past (by decide +kernel)).trans (congrArg _ ((put_past (by decide +kernel)).trans (congrArg _ ((put_past (by decide +kernel)).trans (congrArg _ ((put_past (by decide +kernel)).trans (congrArg _ ((put_past (by decide +kernel)).trans (congrArg _ ((put_past (by decide +kernel)).trans (congrArg _ ((put_past (by decide +kernel)).trans (congrArg _ (rfl))))))))))))))
theorem stP_8 (a b c d e g h i x : Int) : putF "x" (.int x) (sf8 a b c d e g h i) = sf9 a b c d e g h i x := (put_past (by decide +kernel)).trans (congrArg _ ((put_past (by decide +kernel)).trans (congrArg _ ((put_past (by decide +kernel)).trans (congrArg _ ((put_past (by decide +kernel)).trans (congrArg _ ((put_past (by decide +kernel)).trans (congrArg _ ((put_past (by decide +kernel)).trans (congrArg _ ((put_past (by decide +kernel)).trans (congrArg _ ((put_past (by decide +kernel)).trans (congrArg _ (rfl))))))))))))))))
def stT (t : Pu.Step) : List (Str × V) := stF t.op t.when_ t.hub t.k t.j t.c t.n t.s t.x
def StepAt (de : AdE) (H : Hp) (p : Addr) (t : Pu.Step) : Prop := ∃ dx, H p = some (.ins de.cSt dx (stT t))
theorem StepAt.same {de : AdE} {H H' : Hp} {p : Addr} {t : Pu.Step} (h : StepAt de H p t) (s : Same H H') : StepAt de H' p t := by
  obtain ⟨dx, e⟩ := h
  exact ⟨dx, s _ _ e⟩
section
variable {P : Program} {w : World} {K : PySem.W.Frag} {mg : Str → Option Value} {base : Heap} {ad : Ad} {dd : AdD} {de : AdE}
abbrev s_Step___init__ : Stmt := inClass (topS 123) 0
abbrev N_Step___init__ : List Str := ["self", "numbers"]
theorem sc_Step___init__ : FnScope N_Step___init__ ["self", "numbers"] (defScope s_Step___init__) := ⟨rfl, rfl, rfl, by decide +kernel, rfl, by decide +kernel, by decide +kernel⟩
def sp_step_init (K : PySem.W.Frag) (de : AdE) : Sp := fun vs H Q _ => ∃ (p la dx : Addr) (a b c d e g h i x : Int), vs = [.ref p, .ref la] ∧ H p = some (.ins de.cSt dx []) ∧ SqL K H la ([a, b, c, d, e, g, h, i, x].map V.int) ∧ ∀ H' : Hp, H' p = some (.ins de.cSt dx (stF a b c d e g h i x)) → SB p H H' → Q .non H'
theorem ok_step_init {f : Addr} {fd : FuncData} (F : Fun K "__init__" "Step.__init__" s_Step___init__ f fd) (T : TxtE P w K mg ad dd de) : FnOk P w K mg base CX0 1 f fd ["self", "numbers"] (sp_step_init K de) := by
  refine F.ok sc_Step___init__ (fun vs H Q E h => ?_) (fun cdv A outer s H vs Q E hr h => ?_)
  · obtain ⟨p, la, dx, a, b, c, d, e, g, h, i, x, rfl, _⟩ := h; rfl
  · obtain ⟨p, la, dx, a, b, c, d, e, g, h, i, x, rfl, hpz, hl0, q⟩ := h
    have hp0 : H p = some (.ins de.cSt dx sf0) := hpz
    refine ⟨_, (pss_cons (ps_fld (pv 0) (pe_ix ix_list (pv 1) pe_int (fun _ _ => rfl)) rfl)
      (pss_cons (ps_fld (pv 0) (pe_ix ix_list (pv 1) pe_int (fun _ _ => rfl)) rfl)
      (pss_cons (ps_fld (pv 0) (pe_ix ix_list (pv 1) pe_int (fun _ _ => rfl)) rfl)
      (pss_cons (ps_fld (pv 0) (pe_ix ix_list (pv 1) pe_int (fun _ _ => rfl)) rfl)
      (pss_cons (ps_fld (pv 0) (pe_ix ix_list (pv 1) pe_int (fun _ _ => rfl)) rfl)
      (pss_cons (ps_fld (pv 0) (pe_ix ix_list (pv 1) pe_int (fun _ _ => rfl)) rfl)
      (pss_cons (ps_fld (pv 0) (pe_ix ix_list (pv 1) pe_int (fun _ _ => rfl)) rfl)
      (pss_cons (ps_fld (pv 0) (pe_ix ix_list (pv 1) pe_int (fun _ _ => rfl)) rfl)
      (pss_one (ps_fld (pv 0) (pe_ix ix_list (pv 1) pe_int (fun _ _ => rfl)) rfl)))))))))), ?_⟩
    have b0 : SB p H H := SB.refl p H
    refine ⟨_, rfl, la, _, _, _, rfl, rfl, hl0, at_int (j := 0) rfl rfl, _, rfl, p, de.cSt, dx, _, rfl, hp0, T.cl_Step, T.n_op, (by show 0 < 1000; decide), ?_⟩
    rw [stP_0]
    have hp1 : (upd H p (.ins de.cSt dx (sf1 a))) p = some (.ins de.cSt dx (sf1 a)) := upd_same
    have b1 := b0.trans (SB.upd p H (.ins de.cSt dx (sf1 a)))
    have hl1 : SqL K (upd H p (.ins de.cSt dx (sf1 a))) la ([a, b, c, d, e, g, h, i, x].map V.int) := (SB.upd p H _).seq' hp0 hl0
    generalize upd H p (.ins de.cSt dx (sf1 a)) = H1 at *
    refine ⟨_, rfl, la, _, _, _, rfl, rfl, hl1, at_int (j := 1) rfl rfl, _, rfl, p, de.cSt, dx, _, rfl, hp1, T.cl_Step, T.n_when, (by show 1 < 1000; decide), ?_⟩
    rw [stP_1]
    have hp2 : (upd H1 p (.ins de.cSt dx (sf2 a b))) p = some (.ins de.cSt dx (sf2 a b)) := upd_same
    have b2 := b1.trans (SB.upd p H1 (.ins de.cSt dx (sf2 a b)))
    have hl2 : SqL K (upd H1 p (.ins de.cSt dx (sf2 a b))) la ([a, b, c, d, e, g, h, i, x].map V.int) := (SB.upd p H1 _).seq' hp1 hl1
    generalize upd H1 p (.ins de.cSt dx (sf2 a b)) = H2 at *
    refine ⟨_, rfl, la, _, _, _, rfl, rfl, hl2, at_int (j := 2) rfl rfl, _, rfl, p, de.cSt, dx, _, rfl, hp2, T.cl_Step, T.n_hub, (by show 2 < 1000; decide), ?_⟩
    rw [stP_2]
    have hp3 : (upd H2 p (.ins de.cSt dx (sf3 a b c))) p = some (.ins de.cSt dx (sf3 a b c)) := upd_same
    have b3 := b2.trans (SB.upd p H2 (.ins de.cSt dx (sf3 a b c)))
    have hl3 : SqL K (upd H2 p (.ins de.cSt dx (sf3 a b c))) la ([a, b, c, d, e, g, h, i, x].map V.int) := (SB.upd p H2 _).seq' hp2 hl2
    generalize upd H2 p (.ins de.cSt dx (sf3 a b c)) = H3 at *
    refine ⟨_, rfl, la, _, _, _, rfl, rfl, hl3, at_int (j := 3) rfl rfl, _, rfl, p, de.cSt, dx, _, rfl, hp3, T.cl_Step, T.n_k, (by show 3 < 1000; decide), ?_⟩
    rw [stP_3]
    have hp4 : (upd H3 p (.ins de.cSt dx (sf4 a b c d))) p = some (.ins de.cSt dx (sf4 a b c d)) := upd_same
    have b4 := b3.trans (SB.upd p H3 (.ins de.cSt dx (sf4 a b c d)))
    have hl4 : SqL K (upd H3 p (.ins de.cSt dx (sf4 a b c d))) la ([a, b, c, d, e, g, h, i, x].map V.int) := (SB.upd p H3 _).seq' hp3 hl3
    generalize upd H3 p (.ins de.cSt dx (sf4 a b c d)) = H4 at *
    refine ⟨_, rfl, la, _, _, _, rfl, rfl, hl4, at_int (j := 4) rfl rfl, _, rfl, p, de.cSt, dx, _, rfl, hp4, T.cl_Step, T.n_j, (by show 4 < 1000; decide), ?_⟩
    rw [stP_4]
    have hp5 : (upd H4 p (.ins de.cSt dx (sf5 a b c d e))) p = some (.ins de.cSt dx (sf5 a b c d e)) := upd_same
    have b5 := b4.trans (SB.upd p H4 (.ins de.cSt dx (sf5 a b c d e)))
    have hl5 : SqL K (upd H4 p (.ins de.cSt dx (sf5 a b c d e))) la ([a, b, c, d, e, g, h, i, x].map V.int) := (SB.upd p H4 _).seq' hp4 hl4
    generalize upd H4 p (.ins de.cSt dx (sf5 a b c d e)) = H5 at *
    refine ⟨_, rfl, la, _, _, _, rfl, rfl, hl5, at_int (j := 5) rfl rfl, _, rfl, p, de.cSt, dx, _, rfl, hp5, T.cl_Step, T.n_c, (by show 5 < 1000; decide), ?_⟩
    rw [stP_5]
    have hp6 : (upd H5 p (.ins de.cSt dx (sf6 a b c d e g))) p = some (.ins de.cSt dx (sf6 a b c d e g)) := upd_same
    have b6 := b5.trans (SB.upd p H5 (.ins de.cSt dx (sf6 a b c d e g)))
    have hl6 : SqL K (upd H5 p (.ins de.cSt dx (sf6 a b c d e g))) la ([a, b, c, d, e, g, h, i, x].map V.int) := (SB.upd p H5 _).seq' hp5 hl5
    generalize upd H5 p (.ins de.cSt dx (sf6 a b c d e g)) = H6 at *
    refine ⟨_, rfl, la, _, _, _, rfl, rfl, hl6, at_int (j := 6) rfl rfl, _, rfl, p, de.cSt, dx, _, rfl, hp6, T.cl_Step, T.n_n, (by show 6 < 1000; decide), ?_⟩
    rw [stP_6]
    have hp7 : (upd H6 p (.ins de.cSt dx (sf7 a b c d e g h))) p = some (.ins de.cSt dx (sf7 a b c d e g h)) := upd_same
    have b7 := b6.trans (SB.upd p H6 (.ins de.cSt dx (sf7 a b c d e g h)))
    have hl7 : SqL K (upd H6 p (.ins de.cSt dx (sf7 a b c d e g h))) la ([a, b, c, d, e, g, h, i, x].map V.int) := (SB.upd p H6 _).seq' hp6 hl6
    generalize upd H6 p (.ins de.cSt dx (sf7 a b c d e g h)) = H7 at *
    refine ⟨_, rfl, la, _, _, _, rfl, rfl, hl7, at_int (j := 7) rfl rfl, _, rfl, p, de.cSt, dx, _, rfl, hp7, T.cl_Step, T.n_s, (by show 7 < 1000; decide), ?_⟩
    rw [stP_7]
    have hp8 : (upd H7 p (.ins de.cSt dx (sf8 a b c d e g h i))) p = some (.ins de.cSt dx (sf8 a b c d e g h i)) := upd_same
    have b8 := b7.trans (SB.upd p H7 (.ins de.cSt dx (sf8 a b c d e g h i)))
    have hl8 : SqL K (upd H7 p (.ins de.cSt dx (sf8 a b c d e g h i))) la ([a, b, c, d, e, g, h, i, x].map V.int) := (SB.upd p H7 _).seq' hp7 hl7
    generalize upd H7 p (.ins de.cSt dx (sf8 a b c d e g h i)) = H8 at *
    refine ⟨_, rfl, la, _, _, _, rfl, rfl, hl8, at_int (j := 8) rfl rfl, _, rfl, p, de.cSt, dx, _, rfl, hp8, T.cl_Step, T.n_x, (by show 8 < 1000; decide), ?_⟩
    rw [stP_8]
    exact q _ upd_same (b8.trans (SB.upd p H8 _))
abbrev s_asks_counter : Stmt := topS 124
abbrev N_asks_counter : List Str := ["step"]
theorem sc_asks_counter : FnScope N_asks_counter ["step"] (defScope s_asks_counter) := ⟨rfl, rfl, rfl, by decide +kernel, rfl, by decide +kernel, by decide +kernel⟩
def sp_asks (de : AdE) (lo hi : Nat) : Sp := fun vs H Q _ => ∃ (p : Addr) (t : Pu.Step), vs = [.ref p] ∧ StepAt de H p t ∧ Q (.bl (decide (lo ≤ t.when_) && decide (t.when_ ≤ hi))) H
theorem ok_asks_counter {f : Addr} {fd : FuncData} (F : Fun K "asks_counter" "asks_counter" s_asks_counter f fd) (T : TxtE P w K mg ad dd de) : FnOk P w K mg base CX0 1 f fd ["step"] (sp_asks de 1 3) := by
  refine F.ok sc_asks_counter (fun vs H Q E h => ?_) (fun cdv A outer s H vs Q E hr h => ?_)
  · obtain ⟨p, t, rfl, _⟩ := h; rfl
  · obtain ⟨p, t, rfl, ⟨dx, hp⟩, q⟩ := h
    refine ⟨_, (pss_one (ps_ret (pe_and (pe_cmpR op_le pe_int (pe_fld (pv 0) rfl) (nomark _)) (pe_one (pe_cmpR op_le (pe_fld (pv 0) rfl) pe_int (nomark _)))))), ?_⟩
    refine ⟨_, rfl, p, de.cSt, dx, _, _, rfl, hp, T.cl_Step, T.n_when, stF_when .., _, _, rfl, rfl, _, rfl, ?_⟩
    by_cases c : 1 ≤ t.when_
    · refine ift (decide_eq_true (by omega)) ?_
      refine ⟨_, rfl, p, de.cSt, dx, _, _, rfl, hp, T.cl_Step, T.n_when, stF_when .., _, _, rfl, rfl, ?_⟩
      refine qbl q ?_
      rw [decide_eq_true c, Bool.true_and]
      exact decide_eq_decide.mpr (by omega)
    · refine iff_ (decide_eq_false (by omega)) ?_
      exact qbl q (by rw [decide_eq_false c]; rfl)
abbrev s_asks_panel : Stmt := topS 125
abbrev N_asks_panel : List Str := ["step"]
theorem sc_asks_panel : FnScope N_asks_panel ["step"] (defScope s_asks_panel) := ⟨rfl, rfl, rfl, by decide +kernel, rfl, by decide +kernel, by decide +kernel⟩
theorem ok_asks_panel {f : Addr} {fd : FuncData} (F : Fun K "asks_panel" "asks_panel" s_asks_panel f fd) (T : TxtE P w K mg ad dd de) : FnOk P w K mg base CX0 1 f fd ["step"] (sp_asks de 4 5) := by
  refine F.ok sc_asks_panel (fun vs H Q E h => ?_) (fun cdv A outer s H vs Q E hr h => ?_)
  · obtain ⟨p, t, rfl, _⟩ := h; rfl
  · obtain ⟨p, t, rfl, ⟨dx, hp⟩, q⟩ := h
    refine ⟨_, (pss_one (ps_ret (pe_and (pe_cmpR op_le pe_int (pe_fld (pv 0) rfl) (nomark _)) (pe_one (pe_cmpR op_le (pe_fld (pv 0) rfl) pe_int (nomark _)))))), ?_⟩
    refine ⟨_, rfl, p, de.cSt, dx, _, _, rfl, hp, T.cl_Step, T.n_when, stF_when .., _, _, rfl, rfl, _, rfl, ?_⟩
    by_cases c : 4 ≤ t.when_
    · refine ift (decide_eq_true (by omega)) ?_
      refine ⟨_, rfl, p, de.cSt, dx, _, _, rfl, hp, T.cl_Step, T.n_when, stF_when .., _, _, rfl, rfl, ?_⟩
      refine qbl q ?_
      rw [decide_eq_true c, Bool.true_and]
      exact decide_eq_decide.mpr (by omega)
    · refine iff_ (decide_eq_false (by omega)) ?_
      exact qbl q (by rw [decide_eq_false c]; rfl)
abbrev s_number_fits : Stmt := topS 126
abbrev N_number_fits : List Str := ["number", "used", "most"]
theorem sc_number_fits : FnScope N_number_fits ["number", "used", "most"] (defScope s_number_fits) := ⟨rfl, rfl, rfl, by decide +kernel, rfl, by decide +kernel, by decide +kernel⟩
def numF (n : Nat) (u : Bool) (m : Nat) : Bool := if u = true then decide (n ≤ m) else decide (n = 0)
def sp_number_fits : Sp := fun vs H Q _ => ∃ (n m : Nat) (u : Bool), vs = [.int (n : Int), .bl u, .int (m : Int)] ∧ Q (.bl (numF n u m)) H
theorem ok_number_fits {f : Addr} {fd : FuncData} (F : Fun K "number_fits" "number_fits" s_number_fits f fd) : FnOk P w K mg base CX0 1 f fd ["number", "used", "most"] sp_number_fits := by
  refine F.ok sc_number_fits (fun vs H Q E h => ?_) (fun cdv A outer s H vs Q E hr h => ?_)
  · obtain ⟨n, m, u, rfl, _⟩ := h; rfl
  · obtain ⟨n, m, u, rfl, q⟩ := h
    refine ⟨_, (pss_one (ps_ret (pe_ifExp (pt_val (pv 1)) (pe_cmpR op_le (pv 0) (pv 2) (nomark _)) (pe_cmpR op_eq (pv 0) pe_int (nomark _))))), ?_⟩
    unfold numF at q
    refine ⟨_, rfl, _, rfl, ?_⟩
    cases u with
    | true =>
      refine ift rfl ⟨_, rfl, _, rfl, _, _, rfl, rfl, ?_⟩
      exact qbl q (decide_eq_decide.mpr (by omega))
    | false =>
      refine iff_ rfl ⟨_, rfl, rfl, ?_⟩
      exact qbl q (decide_eq_decide.mpr ⟨fun e => by rw [e]; rfl, fun e => by have := V.int.inj e; omega⟩)
abbrev s_field_fits : Stmt := topS 127
abbrev N_field_fits : List Str := ["step", "used"]
theorem sc_field_fits : FnScope N_field_fits ["step", "used"] (defScope s_field_fits) := ⟨rfl, rfl, rfl, by decide +kernel, rfl, by decide +kernel, by decide +kernel⟩
def fldF (t : Pu.Step) (u : Bool) : Bool := if u = true then (decide (1 ≤ t.n) && decide (t.c + t.n ≤ 80)) && decide (t.n ≤ 18) else decide (t.c = 0) && decide (t.n = 0)
def sp_field_fits (de : AdE) : Sp := fun vs H Q _ => ∃ (p : Addr) (t : Pu.Step) (u : Bool), vs = [.ref p, .bl u] ∧ StepAt de H p t ∧ Q (.bl (fldF t u)) H
theorem ok_field_fits {f : Addr} {fd : FuncData} (F : Fun K "field_fits" "field_fits" s_field_fits f fd) (T : TxtE P w K mg ad dd de) (D_is_field : Dcl P w K mg base 1 "is_field" ["c", "n"] sp_is_field) : FnOk P w K mg base CX0 2 f fd ["step", "used"] (sp_field_fits de) := by
  refine F.ok sc_field_fits (fun vs H Q E h => ?_) (fun cdv A outer s H vs Q E hr h => ?_)
  · obtain ⟨p, t, u, rfl, _⟩ := h; rfl
  · obtain ⟨p, t, u, rfl, ⟨dx, hp⟩, q⟩ := h
    refine ⟨_, (pss_cons (ps_if (pt_val (pv 1))
      (pss_one (ps_ret (pe_and (pe_call D_is_field.ok (hr.mono (by decide)) (by rfl) D_is_field.g D_is_field.kp D_is_field.b .nil pass0 (pa_cons (pe_fld (pv 0) rfl) (pa_cons (pe_fld (pv 0) rfl) pa_nil))) (pe_one (pe_cmpR op_le (pe_fld (pv 0) rfl) (pe_gint (by rfl) T.g_LONGEST_AMOUNT) (nomark _))))))
      pss_nil)
      (pss_one (ps_ret (pe_and (pe_cmpR op_eq (pe_fld (pv 0) rfl) pe_int (nomark _)) (pe_one (pe_cmpR op_eq (pe_fld (pv 0) rfl) pe_int (nomark _))))))), ?_⟩
    unfold fldF at q
    refine ⟨_, rfl, _, rfl, ?_⟩
    cases u with
    | true =>
      rw [if_pos rfl] at q
      refine ift rfl ⟨_, rfl, p, de.cSt, dx, _, _, rfl, hp, T.cl_Step, T.n_c, stF_c .., _, rfl, p, de.cSt, dx, _, _, rfl, hp, T.cl_Step, T.n_n, stF_n .., _, _, rfl, _, rfl, ?_⟩
      have e : (decide (1 ≤ t.n) && decide (t.c + t.n ≤ 80)) = decide (0 ≤ (t.c : Int) ∧ 1 ≤ (t.n : Int) ∧ (t.c : Int) + (t.n : Int) ≤ 80) := by
        rw [← Bool.decide_and]; exact decide_eq_decide.mpr (by omega)
      rw [e] at q
      cases hc : decide (0 ≤ (t.c : Int) ∧ 1 ≤ (t.n : Int) ∧ (t.c : Int) + (t.n : Int) ≤ 80) with
      | true =>
        rw [hc, Bool.true_and] at q
        refine ift rfl ⟨_, rfl, p, de.cSt, dx, _, _, rfl, hp, T.cl_Step, T.n_n, stF_n .., _, _, rfl, rfl, ?_⟩
        exact qbl q (decide_eq_decide.mpr (by omega))
      | false =>
        rw [hc] at q
        exact iff_ rfl q
    | false =>
      rw [if_neg (by decide)] at q
      refine iff_ rfl ⟨_, rfl, p, de.cSt, dx, _, _, rfl, hp, T.cl_Step, T.n_c, stF_c .., rfl, _, rfl, ?_⟩
      by_cases c : t.c = 0
      · rw [decide_eq_true c, Bool.true_and] at q
        refine ift (decide_eq_true (by rw [c]; rfl)) ⟨_, rfl, p, de.cSt, dx, _, _, rfl, hp, T.cl_Step, T.n_n, stF_n .., rfl, ?_⟩
        exact qbl q (decide_eq_decide.mpr ⟨fun e => by rw [e]; rfl, fun e => by have := V.int.inj e; omega⟩)
      · rw [decide_eq_false c] at q
        exact iff_ (decide_eq_false (fun e => c (by have := V.int.inj e; omega))) q
abbrev s_x_fits : Stmt := topS 128
abbrev N_x_fits : List Str := ["step", "used"]
theorem sc_x_fits : FnScope N_x_fits ["step", "used"] (defScope s_x_fits) := ⟨rfl, rfl, rfl, by decide +kernel, rfl, by decide +kernel, by decide +kernel⟩
def xF (t : Pu.Step) (u : Bool) : Bool := if u = true then decide (-2147483648 ≤ t.x) && decide (t.x ≤ 2147483647) else decide (t.x = 0)
def sp_x_fits (de : AdE) : Sp := fun vs H Q _ => ∃ (p : Addr) (t : Pu.Step) (u : Bool), vs = [.ref p, .bl u] ∧ StepAt de H p t ∧ Q (.bl (xF t u)) H
theorem ok_x_fits {f : Addr} {fd : FuncData} (F : Fun K "x_fits" "x_fits" s_x_fits f fd) (T : TxtE P w K mg ad dd de) : FnOk P w K mg base CX0 1 f fd ["step", "used"] (sp_x_fits de) := by
  refine F.ok sc_x_fits (fun vs H Q E h => ?_) (fun cdv A outer s H vs Q E hr h => ?_)
  · obtain ⟨p, t, u, rfl, _⟩ := h; rfl
  · obtain ⟨p, t, u, rfl, ⟨dx, hp⟩, q⟩ := h
    refine ⟨_, (pss_cons (ps_if (pt_val (pv 1))
      (pss_one (ps_ret (pe_and (pe_cmpR op_le (pe_gint (by rfl) T.g_LEAST_X) (pe_fld (pv 0) rfl) (nomark _)) (pe_one (pe_cmpR op_le (pe_fld (pv 0) rfl) (pe_gint (by rfl) T.g_MOST_X) (nomark _))))))
      pss_nil)
      (pss_one (ps_ret (pe_cmpR op_eq (pe_fld (pv 0) rfl) pe_int (nomark _))))), ?_⟩
    unfold xF at q
    refine ⟨_, rfl, _, rfl, ?_⟩
    cases u with
    | true =>
      rw [if_pos rfl] at q
      refine ift rfl ⟨_, rfl, p, de.cSt, dx, _, _, rfl, hp, T.cl_Step, T.n_x, stF_x .., _, _, rfl, rfl, _, rfl, ?_⟩
      cases hc : decide ((-2147483648 : Int) ≤ t.x) with
      | true =>
        rw [hc, Bool.true_and] at q
        exact ift rfl ⟨_, rfl, p, de.cSt, dx, _, _, rfl, hp, T.cl_Step, T.n_x, stF_x .., _, _, rfl, rfl, q⟩
      | false =>
        rw [hc] at q
        exact iff_ rfl q
    | false =>
      rw [if_neg (by decide)] at q
      refine iff_ rfl ⟨_, rfl, p, de.cSt, dx, _, _, rfl, hp, T.cl_Step, T.n_x, stF_x .., rfl, ?_⟩
      exact qbl q (decide_eq_decide.mpr ⟨fun e => by rw [e], fun e => V.int.inj e⟩)
end
end CP
/-! HProg2 -/
namespace CP
open PySem PySem.Spec PyProof.Rows L2
def useB (c op : Nat) : Bool := decide (c ∈ (useS.getD op Str.empty).cps.toList)
theorem use_k : ∀ op : Nat, op ≤ 10 → useB 107 op = decide (op ≠ 10) := by decide +kernel
theorem use_j : ∀ op : Nat, op ≤ 10 → useB 106 op = ((decide (1 ≤ op) && decide (op ≤ 4)) || decide (op = 6)) := by decide +kernel
theorem use_s : ∀ op : Nat, op ≤ 10 → useB 115 op = decide (op = 4 ∨ op = 7 ∨ op = 8 ∨ op = 10) := by decide +kernel
theorem use_c : ∀ op : Nat, op ≤ 10 → useB 99 op = decide (op = 0 ∨ op = 9) := by decide +kernel
theorem use_x : ∀ op : Nat, op ≤ 10 → useB 120 op = decide (op = 5) := by decide +kernel
def mostS (op : Nat) : Nat := (msTab.lookup op).getD 0
theorem most_s : ∀ op : Nat, op ≤ 10 → mostS op = if op = 4 ∨ op = 7 ∨ op = 8 then 15 else if op = 10 then 64 else 0 := by decide +kernel
theorem ms_val (op : Nat) : (valV msKvs (Sum.inl (op : Int))).getD (.int 0) = .int (mostS op : Int) := by
  have : valV msKvs (Sum.inl (op : Int)) = (msTab.lookup op).map fun v => V.int (v : Int) := by rw [← val_tab]; rfl
  rw [this]
  unfold mostS
  cases msTab.lookup op <;> rfl
theorem use_at {op : Nat} (h : op ≤ 10) : atI (useS.map V.str) (op : Int) = some (.str (useS.getD op Str.empty)) := by
  refine at_of (j := op) rfl ?_
  have hl : op < useS.length := by show op < 11; omega
  rw [List.getElem?_map, List.getD_eq_getElem?_getD, List.getElem?_eq_getElem hl]
  rfl
theorem and6 (a b c d e f : Bool) : (a && (b && (c && (e && (d && f))))) = (a && (b && (c && (d && (e && f))))) := by
  cases a <;> cases b <;> cases c <;> cases d <;> cases e <;> cases f <;> rfl
theorem fine_eq {t : Pu.Step} (h1 : t.op ≤ 10) (h2 : t.when_ ≤ 5) : t.fine = (numF t.hub (decide (4 ≤ t.when_) && decide (t.when_ ≤ 5)) 255 && (numF t.k (useB 107 t.op) 15 && (numF t.j (useB 106 t.op || (decide (1 ≤ t.when_) && decide (t.when_ ≤ 3))) 15 && (numF t.s (useB 115 t.op) (mostS t.op) && (fldF t (useB 99 t.op) && xF t (useB 120 t.op)))))) := by
  unfold Pu.Step.fine
  rw [decide_eq_true h1, decide_eq_true h2, Bool.true_and, Bool.true_and, ← and6, use_k _ h1, use_j _ h1, use_s _ h1, use_c _ h1, use_x _ h1, most_s _ h1]
  have e1 : (if 4 ≤ t.when_ then decide (t.hub < Pu.HUBS) else t.hub == 0) = numF t.hub (decide (4 ≤ t.when_) && decide (t.when_ ≤ 5)) 255 := by
    unfold numF Pu.HUBS
    rw [decide_eq_true h2, Bool.and_true]
    by_cases c : 4 ≤ t.when_
    · rw [if_pos c, if_pos (decide_eq_true c)]; exact decide_eq_decide.mpr (by omega)
    · rw [if_neg c, if_neg (by simpa using c)]; rfl
  have e2 : (if t.op = 10 then t.k == 0 else decide (t.k ≤ 15)) = numF t.k (decide (t.op ≠ 10)) 15 := by
    unfold numF
    by_cases c : t.op = 10
    · rw [if_pos c, if_neg (by simpa using c)]; rfl
    · rw [if_neg c, if_pos (decide_eq_true c)]
  have e3 : (if Pu.usesJ t = true then decide (t.j ≤ 15) else t.j == 0) = numF t.j (((decide (1 ≤ t.op) && decide (t.op ≤ 4)) || decide (t.op = 6)) || (decide (1 ≤ t.when_) && decide (t.when_ ≤ 3))) 15 := by
    unfold numF Pu.usesJ
    rw [Bool.or_assoc]
    rfl
  have e4 : (if t.op = 0 ∨ t.op = 9 then Pu.isField t.c t.n && decide (t.n ≤ Pu.MOSTFIGURES) else t.c == 0 && t.n == 0) = fldF t (decide (t.op = 0 ∨ t.op = 9)) := by
    unfold fldF
    by_cases c : t.op = 0 ∨ t.op = 9
    · rw [if_pos c, if_pos (decide_eq_true c)]; rfl
    · rw [if_neg c, if_neg (by simpa using c)]; rfl
  have e5 : (if t.op = 4 ∨ t.op = 7 ∨ t.op = 8 then decide (t.s ≤ 15) else if t.op = 10 then decide (t.s ≤ 64) else t.s == 0) = numF t.s (decide (t.op = 4 ∨ t.op = 7 ∨ t.op = 8 ∨ t.op = 10)) (if t.op = 4 ∨ t.op = 7 ∨ t.op = 8 then 15 else if t.op = 10 then 64 else 0) := by
    unfold numF
    by_cases c : t.op = 4 ∨ t.op = 7 ∨ t.op = 8
    · rw [if_pos c, if_pos (decide_eq_true (by omega)), if_pos c]
    · rw [if_neg c, if_neg c]
      by_cases c2 : t.op = 10
      · rw [if_pos c2, if_pos (decide_eq_true (by omega)), if_pos c2]
      · rw [if_neg c2, if_neg (by simp; omega)]; rfl
  have e6 : (if t.op = 5 then decide (-(Pu.XMOST : Int) ≤ t.x) && decide (t.x < (Pu.XMOST : Int)) else t.x == 0) = xF t (decide (t.op = 5)) := by
    unfold xF Pu.XMOST
    by_cases c : t.op = 5
    · rw [if_pos c, if_pos (decide_eq_true c)]
      have a1 : decide (-((2 ^ 31 : Nat) : Int) ≤ t.x) = decide (-2147483648 ≤ t.x) := decide_eq_decide.mpr (by omega)
      have a2 : decide (t.x < ((2 ^ 31 : Nat) : Int)) = decide (t.x ≤ 2147483647) := decide_eq_decide.mpr (by omega)
      rw [a1, a2]
    · rw [if_neg c, if_neg (by simpa using c)]; rfl
  rw [e1, e2, e3, e4, e5, e6, decide_eq_true h2]
theorem fine_bad {t : Pu.Step} (h : ¬ (t.op ≤ 10 ∧ t.when_ ≤ 5)) : t.fine = false := by
  unfold Pu.Step.fine
  by_cases c : t.op ≤ 10
  · rw [decide_eq_true c, decide_eq_false (fun z => h ⟨c, z⟩)]; rfl
  · rw [decide_eq_false c]; rfl
section
variable {P : Program} {w : World} {K : PySem.W.Frag} {mg : Str → Option Value} {base : Heap} {ad : Ad} {dd : AdD} {de : AdE}
abbrev s_is_as_it_should_be : Stmt := topS 129
abbrev N_is_as_it_should_be : List Str := ["step", "uses"]
theorem sc_is_as_it_should_be : FnScope N_is_as_it_should_be ["step"] (defScope s_is_as_it_should_be) := ⟨rfl, rfl, rfl, by decide +kernel, rfl, by decide +kernel, by decide +kernel⟩
def sp_as_should (de : AdE) : Sp := fun vs H Q _ => ∃ (p : Addr) (t : Pu.Step), vs = [.ref p] ∧ StepAt de H p t ∧ Q (.bl t.fine) H
theorem ok_is_as_it_should_be {f : Addr} {fd : FuncData} (F : Fun K "is_as_it_should_be" "is_as_it_should_be" s_is_as_it_should_be f fd) (T : TxtE P w K mg ad dd de) (D_number_fits : Dcl P w K mg base 1 "number_fits" ["number", "used", "most"] sp_number_fits) (D_asks_panel : Dcl P w K mg base 1 "asks_panel" ["step"] (sp_asks de 4 5)) (D_asks_counter : Dcl P w K mg base 1 "asks_counter" ["step"] (sp_asks de 1 3)) (D_field_fits : Dcl P w K mg base 2 "field_fits" ["step", "used"] (sp_field_fits de)) (D_x_fits : Dcl P w K mg base 1 "x_fits" ["step", "used"] (sp_x_fits de)) : FnOk P w K mg base CX0 3 f fd ["step"] (sp_as_should de) := by
  refine F.ok sc_is_as_it_should_be (fun vs H Q E h => ?_) (fun cdv A outer s H vs Q E hr h => ?_)
  · obtain ⟨p, t, rfl, _⟩ := h; rfl
  · obtain ⟨p, t, rfl, ⟨dx, hp⟩, q⟩ := h
    refine ⟨_, (pss_cons (ps_if (PW.pt (pw_or (pt_cmpR op_gt (pe_fld (pv 0) rfl) (pe_gint (by rfl) T.g_MOST_OP) (nomark _)) (pw_or1 (pt_cmpR op_gt (pe_fld (pv 0) rfl) (pe_gint (by rfl) T.g_MOST_WHEN) (nomark _)))))
      (pss_one (ps_ret pe_bl))
      pss_nil)
      (pss_cons (ps_set (i := 1) sc_is_as_it_should_be.nd rfl (Or.inl rfl) (pe_ix ix_tup (pe_gref (by rfl) T.g_USES) (pe_fld (pv 0) rfl) (fun _ _ => rfl)))
      (pss_one (ps_ret (pe_and (pe_call D_number_fits.ok (hr.mono (by decide)) (by rfl) D_number_fits.g D_number_fits.kp D_number_fits.b .nil pass0 (pa_cons (pe_fld (pv 0) rfl) (pa_cons (pe_call D_asks_panel.ok (hr.mono (by decide)) (by rfl) D_asks_panel.g D_asks_panel.kp D_asks_panel.b .nil pass0 (pa_cons (pv 0) pa_nil)) (pa_cons (pe_gint (by rfl) T.g_MOST_HUB) pa_nil)))) (pe_and (pe_call D_number_fits.ok (hr.mono (by decide)) (by rfl) D_number_fits.g D_number_fits.kp D_number_fits.b .nil pass0 (pa_cons (pe_fld (pv 0) rfl) (pa_cons (pe_cmpR op_in_sign pe_str (pv 1) (by rfl)) (pa_cons (pe_gint (by rfl) T.g_MOST_COUNTER) pa_nil)))) (pe_and (pe_call D_number_fits.ok (hr.mono (by decide)) (by rfl) D_number_fits.g D_number_fits.kp D_number_fits.b .nil pass0 (pa_cons (pe_fld (pv 0) rfl) (pa_cons (pe_or (pe_cmpR op_in_sign pe_str (pv 1) (by rfl)) (pe_one (pe_call D_asks_counter.ok (hr.mono (by decide)) (by rfl) D_asks_counter.g D_asks_counter.kp D_asks_counter.b .nil pass0 (pa_cons (pv 0) pa_nil)))) (pa_cons (pe_gint (by rfl) T.g_MOST_COUNTER) pa_nil)))) (pe_and (pe_call D_number_fits.ok (hr.mono (by decide)) (by rfl) D_number_fits.g D_number_fits.kp D_number_fits.b .nil pass0 (pa_cons (pe_fld (pv 0) rfl) (pa_cons (pe_cmpR op_in_sign pe_str (pv 1) (by rfl)) (pa_cons (pe_kget2 (pe_gref (by rfl) T.g_MOST_S) (pe_fld (pv 0) rfl) pe_int ⟨rfl, rfl, rfl, rfl⟩) pa_nil)))) (pe_and (pe_call D_field_fits.ok (hr.mono (by decide)) (by rfl) D_field_fits.g D_field_fits.kp D_field_fits.b .nil pass0 (pa_cons (pv 0) (pa_cons (pe_cmpR op_in_sign pe_str (pv 1) (by rfl)) pa_nil))) (pe_one (pe_call D_x_fits.ok (hr.mono (by decide)) (by rfl) D_x_fits.g D_x_fits.kp D_x_fits.b .nil pass0 (pa_cons (pv 0) (pa_cons (pe_cmpR op_in_sign pe_str (pv 1) (by rfl)) pa_nil))))))))))))), ?_⟩
    refine ⟨_, rfl, p, de.cSt, dx, _, _, rfl, hp, T.cl_Step, T.n_op, stF_op .., _, _, rfl, rfl, _, rfl, ?_⟩
    by_cases c1 : t.op ≤ 10
    · refine iff_ (decide_eq_false (by omega)) ?_
      refine ⟨_, rfl, p, de.cSt, dx, _, _, rfl, hp, T.cl_Step, T.n_when, stF_when .., _, _, rfl, rfl, _, rfl, ?_⟩
      by_cases c2 : t.when_ ≤ 5
      · refine iff_ (decide_eq_false (by omega)) ?_
        rw [fine_eq c1 c2] at q
        refine ⟨_, rfl, p, de.cSt, dx, _, _, rfl, hp, T.cl_Step, T.n_op, stF_op .., de.us, _, _, _, rfl, rfl, T.t_US.at_ H, use_at c1, ?_⟩
        refine ⟨_, rfl, p, de.cSt, dx, _, _, rfl, hp, T.cl_Step, T.n_hub, stF_hub .., _, rfl, p, t, rfl, ⟨dx, hp⟩, t.hub, 255, _, rfl, _, rfl, ?_⟩
        cases h1 : numF t.hub (decide (4 ≤ t.when_) && decide (t.when_ ≤ 5)) 255 with
        | false => rw [h1] at q; exact iff_ rfl q
        | true =>
        rw [h1, Bool.true_and] at q
        refine ift rfl ?_
        refine ⟨_, rfl, p, de.cSt, dx, _, _, rfl, hp, T.cl_Step, T.n_k, stF_k .., _, rfl, 107, _, rfl, rfl, t.k, 15, useB 107 t.op, rfl, _, rfl, ?_⟩
        cases h2 : numF t.k (useB 107 t.op) 15 with
        | false => rw [h2] at q; exact iff_ rfl q
        | true =>
        rw [h2, Bool.true_and] at q
        refine ift rfl ?_
        refine ⟨_, rfl, p, de.cSt, dx, _, _, rfl, hp, T.cl_Step, T.n_j, stF_j .., _, rfl, 106, _, rfl, rfl, useB 106 t.op, rfl, ?_⟩
        cases hj : useB 106 t.op with
        | true =>
          refine ift rfl ⟨t.j, 15, true, rfl, _, rfl, ?_⟩
          cases h3 : numF t.j (useB 106 t.op || (decide (1 ≤ t.when_) && decide (t.when_ ≤ 3))) 15 with
          | false => rw [h3] at q; rw [hj, Bool.true_or] at h3; exact iff_ h3 q
          | true =>
          rw [h3, Bool.true_and] at q
          rw [hj, Bool.true_or] at h3
          refine ift h3 ?_
          refine ⟨_, rfl, p, de.cSt, dx, _, _, rfl, hp, T.cl_Step, T.n_s, stF_s .., _, rfl, 115, _, rfl, rfl, de.ms, msKvs, rfl, T.d_MS, _, rfl, p, de.cSt, dx, _, _, rfl, hp, T.cl_Step, T.n_op, stF_op .., Sum.inl (t.op : Int), rfl, t.s, mostS t.op, useB 115 t.op, by rw [ms_val]; rfl, _, rfl, ?_⟩
          cases h4 : numF t.s (useB 115 t.op) (mostS t.op) with
          | false => rw [h4] at q; exact iff_ rfl q
          | true =>
          rw [h4, Bool.true_and] at q
          refine ift rfl ?_
          refine ⟨_, rfl, _, rfl, 99, _, rfl, rfl, p, t, useB 99 t.op, rfl, ⟨dx, hp⟩, _, rfl, ?_⟩
          cases h5 : fldF t (useB 99 t.op) with
          | false => rw [h5] at q; exact iff_ rfl q
          | true =>
          rw [h5, Bool.true_and] at q
          refine ift rfl ?_
          exact ⟨_, rfl, _, rfl, 120, _, rfl, rfl, p, t, useB 120 t.op, rfl, ⟨dx, hp⟩, q⟩
        | false =>
          refine iff_ rfl ⟨_, rfl, p, t, rfl, ⟨dx, hp⟩, t.j, 15, _, rfl, _, rfl, ?_⟩
          cases h3 : numF t.j (useB 106 t.op || (decide (1 ≤ t.when_) && decide (t.when_ ≤ 3))) 15 with
          | false => rw [h3] at q; rw [hj, Bool.false_or] at h3; exact iff_ h3 q
          | true =>
          rw [h3, Bool.true_and] at q
          rw [hj, Bool.false_or] at h3
          refine ift h3 ?_
          refine ⟨_, rfl, p, de.cSt, dx, _, _, rfl, hp, T.cl_Step, T.n_s, stF_s .., _, rfl, 115, _, rfl, rfl, de.ms, msKvs, rfl, T.d_MS, _, rfl, p, de.cSt, dx, _, _, rfl, hp, T.cl_Step, T.n_op, stF_op .., Sum.inl (t.op : Int), rfl, t.s, mostS t.op, useB 115 t.op, by rw [ms_val]; rfl, _, rfl, ?_⟩
          cases h4 : numF t.s (useB 115 t.op) (mostS t.op) with
          | false => rw [h4] at q; exact iff_ rfl q
          | true =>
          rw [h4, Bool.true_and] at q
          refine ift rfl ?_
          refine ⟨_, rfl, _, rfl, 99, _, rfl, rfl, p, t, useB 99 t.op, rfl, ⟨dx, hp⟩, _, rfl, ?_⟩
          cases h5 : fldF t (useB 99 t.op) with
          | false => rw [h5] at q; exact iff_ rfl q
          | true =>
          rw [h5, Bool.true_and] at q
          refine ift rfl ?_
          exact ⟨_, rfl, _, rfl, 120, _, rfl, rfl, p, t, useB 120 t.op, rfl, ⟨dx, hp⟩, q⟩
      · refine ift (decide_eq_true (by omega)) ?_
        exact qbl q (fine_bad fun z => c2 z.2)
    · refine ift (decide_eq_true (by omega)) (ift rfl ?_)
      exact qbl q (fine_bad fun z => c1 z.1)
end
end CP
/-! HProg3 -/
namespace CP
open PySem PySem.Spec PyProof.Rows L2
/-- steps, a list of them -/
inductive StepsIn (de : AdE) (H : Hp) : List Addr → List Pu.Step → Prop
  | nil : StepsIn de H [] []
  | cons {a : Addr} {x : Pu.Step} {as : List Addr} {d : List Pu.Step} : StepAt de H a x → StepsIn de H as d → StepsIn de H (a :: as) (x :: d)
theorem StepsIn.len {de : AdE} {H : Hp} {as : List Addr} {d : List Pu.Step} (h : StepsIn de H as d) : as.length = d.length := by
  induction h with
  | nil => rfl
  | cons _ _ ih => simp only [List.length_cons, ih]
theorem StepsIn.same {de : AdE} {H H' : Hp} {as : List Addr} {d : List Pu.Step} (h : StepsIn de H as d) (s : Same H H') : StepsIn de H' as d := by
  induction h with
  | nil => exact .nil
  | cons e _ ih => exact .cons (e.same s) ih
theorem StepsIn.get {de : AdE} {H : Hp} : ∀ {as : List Addr} {d : List Pu.Step} {i : Nat} {x : Pu.Step}, StepsIn de H as d → d[i]? = some x → ∃ a, as[i]? = some a ∧ StepAt de H a x
  | _, _, i, x, .nil, h => by simp at h
  | _, _, 0, x, .cons (a := a) e _, h => by
    have : _ = x := Option.some.inj h
    subst this
    exact ⟨a, rfl, e⟩
  | _, _, i + 1, x, .cons _ t, h => StepsIn.get (i := i) t h
theorem StepsIn.push {de : AdE} {H : Hp} {as : List Addr} {d : List Pu.Step} {a : Addr} {x : Pu.Step} (h : StepsIn de H as d) (e : StepAt de H a x) : StepsIn de H (as ++ [a]) (d ++ [x]) := by
  induction h with
  | nil => exact .cons e .nil
  | cons q _ ih => exact .cons q ih
theorem StepAt.upd {de : AdE} {H : Hp} {a p : Addr} {t : Pu.Step} {o : HO} {xs : List V} (h : StepAt de H a t) (hp : H p = some (.lst xs)) : StepAt de (L2.upd H p o) a t := by
  obtain ⟨dx, e⟩ := h
  exact ⟨dx, by rw [upd_ne (ne_of e hp (fun z => by cases z))]; exact e⟩
theorem StepsIn.upd {de : AdE} {H : Hp} {as : List Addr} {d : List Pu.Step} {p : Addr} {o : HO} {xs : List V} (h : StepsIn de H as d) (hp : H p = some (.lst xs)) : StepsIn de (L2.upd H p o) as d := by
  induction h with
  | nil => exact .nil
  | cons e _ ih => exact .cons (e.upd hp) ih
def StepsAt (de : AdE) (H : Hp) (a : Addr) (d : List Pu.Step) : Prop := ∃ as, H a = some (.lst (as.map V.ref)) ∧ StepsIn de H as d
theorem StepsAt.same {de : AdE} {H H' : Hp} {a : Addr} {d : List Pu.Step} (h : StepsAt de H a d) (s : Same H H') : StepsAt de H' a d := by
  obtain ⟨as, e, c⟩ := h
  exact ⟨as, s _ _ e, c.same s⟩
theorem rg9 (n : Nat) (h : n ≤ 1000000) (he : n % 9 = 0) : RgC 0 (n : Int) 9 (n / 9) := by
  have hs : Builtin.Range.rangeSize 0 (n : Int) 9 = ((n / 9 : Nat) : Int) := by
    unfold Builtin.Range.rangeSize
    rw [if_pos (by decide)]
    split <;> omega
  have f : ∀ z : Int, -(2 ^ 62) ≤ z → z < 2 ^ 62 → Builtin.Range.rangeFitsLong z = true := by
    intro z h1 h2
    unfold Builtin.Range.rangeFitsLong
    rw [Bool.and_eq_true]
    exact ⟨decide_eq_true (by omega), decide_eq_true (by omega)⟩
  refine ⟨by decide, by decide, ?_, hs⟩
  unfold Builtin.Range.small
  rw [hs, f 0 (by decide) (by decide), f (n : Int) (by omega) (by omega), f 9 (by decide) (by decide), f ((n / 9 : Nat) : Int) (by omega) (by omega), if_pos (by decide), f _ (by omega) (by omega), Bool.or_true]
  rfl
theorem nonNeg_iff {l : List Int} : nonNeg l = true ↔ ∀ z ∈ l, 0 ≤ z := by
  unfold nonNeg
  rw [List.all_eq_true]
  exact ⟨fun h z hz => of_decide_eq_true (h z hz), fun h z hz => decide_eq_true (h z hz)⟩
section
variable {P : Program} {w : World} {K : PySem.W.Frag} {mg : Str → Option Value} {base : Heap} {ad : Ad} {dd : AdD} {de : AdE}
abbrev s_read_step : Stmt := topS 130
abbrev N_read_step : List Str := ["numbers", "step"]
theorem sc_read_step : FnScope N_read_step ["numbers"] (defScope s_read_step) := ⟨rfl, rfl, rfl, by decide +kernel, rfl, by decide +kernel, by decide +kernel⟩
def sp_read_step (K : PySem.W.Frag) (de : AdE) : Sp := fun vs H Q _ => ∃ (la : Addr) (ns : List Int), vs = [.ref la] ∧ H la = some (.lst (ns.map V.int)) ∧ ns.length = 9 ∧
  (step1 ns = none → ∀ H', Same H H' → Q .non H') ∧ (∀ t, step1 ns = some t → ∀ H' p, Same H H' → H p = none → StepAt de H' p t → Q (.ref p) H')
theorem ok_read_step {f : Addr} {fd : FuncData} (F : Fun K "read_step" "read_step" s_read_step f fd) (T : TxtE P w K mg ad dd de) (D_Step : CDcl P w K mg base 1 de.cSt "Step" ["self", "numbers"] (sp_step_init K de)) (D_is_as_it_should_be : Dcl P w K mg base 3 "is_as_it_should_be" ["step"] (sp_as_should de)) : FnOk P w K mg base CX0 4 f fd ["numbers"] (sp_read_step K de) := by
  refine F.ok sc_read_step (fun vs H Q E h => ?_) (fun cdv A outer s H vs Q E hr h => ?_)
  · obtain ⟨la, ns, rfl, _⟩ := h; rfl
  · obtain ⟨la, ns, rfl, hl, h9, qn, qs⟩ := h
    refine ⟨_, (pss_cons (ps_set (i := 1) sc_read_step.nd rfl (Or.inl rfl) (pe_make D_Step.make D_Step.ok (hr.mono (by decide)) (by rfl) D_Step.g D_Step.b .nil pass0 (pa_cons (pv 0) pa_nil)))
      (pss_cons (ps_if (PW.pt (pw_or (pt_cmpR op_lt (pe_callB (cr_min rfl) (by rfl) T.b_min (by decide +kernel) (pa_cons (pe_slice sl_list (pv 0) po_none (po_some (pe_un un_neg pe_int))) pa_nil)) pe_int (nomark _)) (pw_or1 (pt_not (pt_val (pe_call D_is_as_it_should_be.ok (hr.mono (by decide)) (by rfl) D_is_as_it_should_be.g D_is_as_it_should_be.kp D_is_as_it_should_be.b .nil pass0 (pa_cons (pv 1) pa_nil)))))))
      (pss_one (ps_ret pe_non))
      pss_nil)
      (pss_one (ps_ret (pv 1))))), ?_⟩
    obtain ⟨a, b, c, d, e, g, h, i, x, r, rfl⟩ := nine (l := ns) (by omega)
    have er : r = [] := List.length_eq_zero_iff.mp (by simp only [List.length_cons] at h9; omega)
    subst er
    rw [step1_nine] at qn qs
    refine ⟨_, rfl, ?_⟩
    intro p dx np ndx nex
    have hl1 : (upd (upd H dx (.own p)) p (.ins de.cSt dx [])) la = some (.lst ([a, b, c, d, e, g, h, i, x].map V.int)) := by
      rw [upd_ne (ne_of_none hl np), upd_ne (ne_of_none hl ndx)]; exact hl
    refine ⟨p, la, dx, a, b, c, d, e, g, h, i, x, rfl, upd_same, SqL.of hl1, fun H1 hp1 sb1 => ⟨rfl, ?_⟩⟩
    have s1 : Same H H1 := Same.made np ndx sb1
    have hl2 := s1 _ _ hl
    refine ⟨_, rfl, _, rfl, _, rfl, la, _, rfl, SqL.of hl2, fun r1 n1 => ?_⟩
    have ec : cutV ([a, b, c, d, e, g, h, i, x].map V.int) none (some (-1)) = [a, b, c, d, e, g, h, i].map V.int := cut_last [V.int a, V.int b, V.int c, V.int d, V.int e, V.int g, V.int h, V.int i] (V.int x)
    rw [ec]
    have t2 := same_upd (o := .lst ([a, b, c, d, e, g, h, i].map V.int)) n1
    refine ⟨r1, _, rfl, SqL.of upd_same, (by show 0 < 8; decide), fun m hm hle => ?_⟩
    refine ⟨_, _, rfl, rfl, _, rfl, ?_⟩
    have sA := s1.trans t2
    by_cases c1 : m < 0
    · refine ift (decide_eq_true c1) (ift rfl ?_)
      refine qn (if_neg fun z => ?_) _ sA
      have := nonNeg_iff.mp z.1 m hm
      omega
    · refine iff_ (decide_eq_false c1) ?_
      have nn : nonNeg [a, b, c, d, e, g, h, i] = true := nonNeg_iff.mpr fun z hz => by have := hle z hz; omega
      have nz := nonNeg_iff.mp nn
      have za : 0 ≤ a := nz a (by simp)
      have zb : 0 ≤ b := nz b (by simp)
      have zc : 0 ≤ c := nz c (by simp)
      have zd : 0 ≤ d := nz d (by simp)
      have ze : 0 ≤ e := nz e (by simp)
      have zg : 0 ≤ g := nz g (by simp)
      have zh : 0 ≤ h := nz h (by simp)
      have zi : 0 ≤ i := nz i (by simp)
      have hst : StepAt de H1 p ⟨a.toNat, b.toNat, c.toNat, d.toNat, e.toNat, g.toNat, h.toNat, i.toNat, x⟩ := by
        refine ⟨dx, ?_⟩
        unfold stT
        simp only [Int.toNat_of_nonneg, za, zb, zc, zd, ze, zg, zh, zi]
        exact hp1
      have hst2 := hst.same t2
      refine ⟨_, rfl, p, _, rfl, hst2, _, rfl, ?_⟩
      generalize hT : (⟨a.toNat, b.toNat, c.toNat, d.toNat, e.toNat, g.toNat, h.toNat, i.toNat, x⟩ : Pu.Step) = t at *
      cases hf : t.fine with
      | true =>
        refine iff_ rfl ?_
        exact ⟨_, rfl, qs t (if_pos ⟨nn, hf⟩) _ p sA np hst2⟩
      | false =>
        refine ift rfl ?_
        exact qn (if_neg fun z => by rw [hf] at z; cases z.2) _ sA
abbrev s_read_program : Stmt := topS 131
abbrev N_read_program : List Str := ["numbers", "steps", "at", "step"]
theorem sc_read_program : FnScope N_read_program ["numbers"] (defScope s_read_program) := ⟨rfl, rfl, rfl, by decide +kernel, rfl, by decide +kernel, by decide +kernel⟩
def sp_read_program (K : PySem.W.Frag) (de : AdE) : Sp := fun vs H Q _ => ∃ (a : Addr) (ns : List Int), vs = [.ref a] ∧ SqL K H a (ns.map V.int) ∧ ns.length ≤ 100000 ∧
  (Pu.programOf ns = none → ∀ H', Same H H' → Q .non H') ∧ (∀ p, Pu.programOf ns = some p → ∀ H' r, Same H H' → H r = none → StepsAt de H' r p → Q (.ref r) H')
theorem ok_read_program {f : Addr} {fd : FuncData} (F : Fun K "read_program" "read_program" s_read_program f fd) (T : TxtE P w K mg ad dd de) (D_read_step : Dcl P w K mg base 4 "read_step" ["numbers"] (sp_read_step K de)) : FnOk P w K mg base CX0 5 f fd ["numbers"] (sp_read_program K de) := by
  refine F.ok sc_read_program (fun vs H Q E h => ?_) (fun cdv A outer s H vs Q E hr h => ?_)
  · obtain ⟨a, ns, rfl, _⟩ := h; rfl
  · obtain ⟨a, ns, rfl, ha, hl, qn, qs⟩ := h
    refine ⟨_, (pss_cons (ps_if (PW.pt (pw_or (pt_cmpR op_ne (pe_op op_mod (pe_callB call_len_seq (by rfl) T.b_len PySem.boot_len (pa_cons (pv 0) pa_nil)) (pe_gint (by rfl) T.g_STEP_NUMBERS)) pe_int (nomark _)) (pw_or1 (pt_cmpR op_gt (pe_callB call_len_seq (by rfl) T.b_len PySem.boot_len (pa_cons (pv 0) pa_nil)) (pe_op op_mul (pe_gint (by rfl) T.g_STEP_NUMBERS) (pe_gint (by rfl) T.g_MOST_STEPS)) (nomark _)))))
      (pss_one (ps_ret pe_non))
      pss_nil)
      (pss_cons (ps_set (i := 1) sc_read_program.nd rfl (Or.inl rfl) (pe_lst pa_nil))
      (pss_cons (ps_for PassesOwn.never rfl (pi_range3 rfl T.b_range (pa_cons pe_int (pa_cons (pe_callB call_len_seq (by rfl) T.b_len PySem.boot_len (pa_cons (pv 0) pa_nil)) (pa_cons (pe_gint (by rfl) T.g_STEP_NUMBERS) pa_nil)))) (pg_name (i := 2) sc_read_program.nd rfl (Or.inl rfl))
      (pss_cons (ps_set (i := 3) sc_read_program.nd rfl (Or.inl rfl) (pe_call D_read_step.ok (hr.mono (by decide)) (by rfl) D_read_step.g D_read_step.kp D_read_step.b .nil pass0 (pa_cons (pe_slice sl_list (pv 0) (po_some (pv 2)) (po_some (pe_op op_add (pv 2) (pe_gint (by rfl) T.g_STEP_NUMBERS)))) pa_nil)))
      (pss_cons (ps_if (pt_cmpR op_isN (pv 3) pe_non (nomark _))
      (pss_one (ps_ret pe_non))
      pss_nil)
      (pss_one (ps_expr (pe_bm PySem.F.plainAttrs_list PySem.F.slot_list_append PySem.F.type_list_append mt_append (pv 1) (pa_cons (pv 3) pa_nil)))))))
      (pss_one (ps_ret (pv 1)))))), ?_⟩
    refine ⟨_, rfl, a, _, rfl, .inl ha, _, _, rfl, rfl, (by show (0 : Int) < 9; decide), rfl, _, rfl, ?_⟩
    have eo : (((ns.map V.int).length : Int) % 9) = ((ns.length % 9 : Nat) : Int) := by rw [List.length_map]; omega
    by_cases c9 : ns.length % 9 = 0
    · refine iff_ ?_ ?_
      · show (!decide (V.int (((ns.map V.int).length : Int) % 9) = V.int 0)) = false
        rw [eo, c9]; rfl
      refine ⟨_, rfl, a, _, rfl, .inl ha, _, _, rfl, rfl, .inl ⟨by decide, by decide⟩, _, _, rfl, rfl, _, rfl, ?_⟩
      by_cases c64 : 576 < ns.length
      · refine ift (decide_eq_true (by rw [List.length_map]; omega)) ?_
        exact qn (program_bad (.inr c64)) H (Same.refl H)
      · refine iff_ (decide_eq_false (by rw [List.length_map]; omega)) ?_
        obtain ⟨k, hk⟩ : ∃ k, ns.length = 9 * k := ⟨ns.length / 9, by omega⟩
        have hp := program_is hk (by omega)
        rw [hp] at qn qs
        refine ⟨Nat.zero_le _, fun r nr => ?_⟩
        have t1 := same_upd (o := .lst []) nr
        have ha1 := t1.seq ha
        refine ⟨_, rfl, a, _, rfl, .inl ha1, 0, ((ns.length : Nat) : Int), 9, ns.length / 9, by rw [List.length_map], rg9 _ (by omega) c9, ?_⟩
        have ek : ns.length / 9 = k := by omega
        rw [ek]
        refine for_rangeC (lo := 0) (c := 9) (n := k) (fun i σ H' => ∃ (v2 v3 : Option V) (as : List Addr) (ss : List Pu.Step), σ = [some (.ref a), some (.ref r), v2, v3] ∧ Same H H' ∧ H' r = some (.lst (as.map V.ref)) ∧ StepsIn de H' as ss ∧ ss.length = i ∧ progM k ns = (progM (k - i) (ns.drop (9 * i))).map fun q => ss ++ q) ?_ ?_ ?_
        · refine ⟨none, none, [], [], rfl, t1, upd_same, .nil, rfl, ?_⟩
          rw [Nat.mul_zero, List.drop_zero, Nat.sub_zero]
          show progM k ns = (progM k ns).map fun q => q
          cases progM k ns <;> rfl
        · rintro i σ H' hi ⟨v2, v3, as, ss, rfl, sm, er, si, ls, inv⟩
          have ha2 := sm.seq ha
          have lt9 : ((ns.drop (9 * i)).take 9).length = 9 := by rw [List.length_take, List.length_drop]; omega
          refine ⟨_, rfl, _, rfl, _, rfl, _, rfl, _, _, rfl, rfl, _, rfl, a, _, rfl, ha2, fun r1 n1 => ?_⟩
          have ekk : k - i = (k - (i + 1)) + 1 := by omega
          have edr : (ns.drop (9 * i)).drop 9 = ns.drop (9 * (i + 1)) := by rw [List.drop_drop]; congr 1
          have ecut : cutV (ns.map V.int) (some (0 + (i : Int) * 9)) (some (0 + (i : Int) * 9 + 9)) = ((ns.drop (9 * i)).take 9).map V.int := by
            rw [cut_nat (i := 9 * i) (j := 9 * i + 9) (by rw [List.length_map]; omega) (by rw [List.length_map]; omega) (by omega) (by omega), Nat.add_sub_cancel_left, List.map_take, List.map_drop]
          have t3 := same_upd (o := .lst (cutV (ns.map V.int) (some (0 + (i : Int) * 9)) (some (0 + (i : Int) * 9 + 9)))) n1
          refine ⟨r1, (ns.drop (9 * i)).take 9, rfl, ?_, lt9, fun e H2 s2 => ?_, fun t e H2 p s2 n2 st => ?_⟩
          · rw [← ecut]; exact upd_same
          · refine ⟨_, rfl, rfl, _, rfl, ift rfl ?_⟩
            refine qn ?_ H2 (sm.trans (t3.trans s2))
            rw [inv, ekk, progM_none e]; rfl
          · refine ⟨_, rfl, rfl, _, rfl, iff_ rfl ?_⟩
            have sB := t3.trans s2
            have er2 := sB _ _ er
            refine ⟨_, rfl, .inl ⟨rfl, _, SqL.of er2⟩, _, rfl, r, _, _, rfl, rfl, er2, by rw [List.length_map, si.len]; exact size_big (by omega), ?_⟩
            refine ⟨_, _, as ++ [p], ss ++ [t], rfl, Same.mut (sm.trans sB) nr, by rw [upd_same, List.map_append]; rfl, ((si.same sB).upd er2).push (st.upd er2), by rw [List.length_append, ls]; rfl, ?_⟩
            rw [inv, ekk, progM_some e, edr, Option.map_map]
            congr 1
            funext q
            show ss ++ t :: q = (ss ++ [t]) ++ q
            rw [List.append_assoc]; rfl
        · rintro σ H' ⟨v2, v3, as, ss, rfl, sm, er, si, ls, inv⟩
          rw [Nat.sub_self] at inv
          refine ⟨_, rfl, qs ss ?_ H' r sm nr ⟨as, er, si⟩⟩
          rw [inv]
          show some (ss ++ []) = _
          rw [List.append_nil]
    · refine ift ?_ (ift rfl ?_)
      · show (!decide (V.int (((ns.map V.int).length : Int) % 9) = V.int 0)) = true
        rw [eo, decide_eq_false (fun z => c9 (by have := V.int.inj z; omega))]; rfl
      · exact qn (program_bad (.inl c9)) H (Same.refl H)
end
end CP
/-! HCalc1 -/
namespace CP
open PySem PySem.Spec PyProof.Rows L2
theorem abs_is (z : Int) : (if z < 0 then -z else z) = ((z.natAbs : Nat) : Int) := by
  by_cases c : z < 0
  · rw [if_pos c]; omega
  · rw [if_neg c]; omega
/-- one card in the punch -/
def rnF (ca za g : Addr) : List (Str × V) := [("card", .ref ca), ("counters", .ref za), ("goes", .ref g)]
theorem rnF_card (ca za g : Addr) : (rnF ca za g).lookup ("card" : Str) = some (.ref ca) := lk_here
theorem rnF_counters (ca za g : Addr) : (rnF ca za g).lookup ("counters" : Str) = some (.ref za) := (lk_past (by decide +kernel)).trans lk_here
theorem rnF_goes (ca za g : Addr) : (rnF ca za g).lookup ("goes" : Str) = some (.ref g) := (lk_past (by decide +kernel)).trans ((lk_past (by decide +kernel)).trans lk_here)
def rnF1 (ca : Addr) : List (Str × V) := [("card", .ref ca)]
def rnF2 (ca za : Addr) : List (Str × V) := [("card", .ref ca), ("counters", .ref za)]
theorem rnP_1 (ca za : Addr) : putF "counters" (.ref za) (rnF1 ca) = rnF2 ca za := (put_past (by decide +kernel)).trans rfl
theorem rnP_2 (ca za g : Addr) : putF "goes" (.ref g) (rnF2 ca za) = rnF ca za g := (put_past (by decide +kernel)).trans (congrArg _ ((put_past (by decide +kernel)).trans rfl))
structure RunAt (de : AdE) (H : Hp) (ru ca za g : Addr) (x : Pu.Card) (z : Pu.Counters) (t : Pu.Flow) : Prop where
  ins : ∃ dx, H ru = some (.ins de.cCR dx (rnF ca za g))
  card : H ca = some (.lst (x.map vN))
  ctr : H za = some (.lst (z.map V.int))
  goes : GoesAt H g t
  ox : COk x
  oz : ZOk z
theorem RunAt.same {de : AdE} {H H' : Hp} {ru ca za g : Addr} {x : Pu.Card} {z : Pu.Counters} {t : Pu.Flow} (h : RunAt de H ru ca za g x z t) (s : Same H H') : RunAt de H' ru ca za g x z t := by
  obtain ⟨dx, e⟩ := h.ins
  exact ⟨⟨dx, s _ _ e⟩, s _ _ h.card, s _ _ h.ctr, h.goes.same s, h.ox, h.oz⟩
/-- all but two stays -/
def S2 (a b : Addr) (H H' : Hp) : Prop := ∀ c o, H c = some o → c ≠ a → c ≠ b → H' c = some o
theorem S2.refl (a b : Addr) (H : Hp) : S2 a b H H := fun _ _ h _ _ => h
theorem S2.trans {a b : Addr} {H H1 H2 : Hp} (h : S2 a b H H1) (k : S2 a b H1 H2) : S2 a b H H2 := fun c o e n m => k c o (h c o e n m) n m
theorem S2.of {a b : Addr} {H H' : Hp} (s : Same H H') : S2 a b H H' := fun c o e _ _ => s c o e
theorem S2.updA {a b : Addr} {H : Hp} {o : HO} : S2 a b H (L2.upd H a o) := fun c u e n _ => by rw [upd_ne n]; exact e
theorem S2.updB {a b : Addr} {H : Hp} {o : HO} : S2 a b H (L2.upd H b o) := fun c u e _ n => by rw [upd_ne n]; exact e
theorem S2.sbA {a b : Addr} {H H' : Hp} (s : SB a H H') : S2 a b H H' := fun c o e n _ => s c o e n
theorem lst_len {H : Hp} {a b : Addr} {xs ys : List V} (ha : H a = some (.lst xs)) (hb : H b = some (.lst ys)) (h : xs.length ≠ ys.length) : a ≠ b := by
  intro e
  subst e
  rw [ha] at hb
  exact h (congrArg List.length (HO.lst.inj (Option.some.inj hb)))
theorem RunAt.ne {de : AdE} {H : Hp} {ru ca za g : Addr} {x : Pu.Card} {z : Pu.Counters} {t : Pu.Flow} (h : RunAt de H ru ca za g x z t) : ca ≠ za :=
  lst_len h.card h.ctr (by rw [List.length_map, List.length_map, h.ox.1, h.oz.len]; decide)
/-- the run behind a step -/
theorem RunAt.step {de : AdE} {H H' : Hp} {ru ca za g : Addr} {x x' : Pu.Card} {z z' : Pu.Counters} {t : Pu.Flow} (h : RunAt de H ru ca za g x z t) (s : S2 ca za H H') (hc : H' ca = some (.lst (x'.map vN))) (hz : H' za = some (.lst (z'.map V.int))) (ox : COk x') (oz : ZOk z') : RunAt de H' ru ca za g x' z' t := by
  obtain ⟨dx, e⟩ := h.ins
  obtain ⟨kvs, eg, lk, hk⟩ := h.goes
  exact ⟨⟨dx, s _ _ e (ne_of e h.card (fun q => by cases q)) (ne_of e h.ctr (fun q => by cases q))⟩, hc, hz, ⟨kvs, s _ _ eg (ne_of eg h.card (fun q => by cases q)) (ne_of eg h.ctr (fun q => by cases q)), lk, hk⟩, ox, oz⟩
theorem StepAt.s2 {de : AdE} {H H' : Hp} {a b p : Addr} {t : Pu.Step} {xs ys : List V} (h : StepAt de H p t) (s : S2 a b H H') (ha : H a = some (.lst xs)) (hb : H b = some (.lst ys)) : StepAt de H' p t := by
  obtain ⟨dx, e⟩ := h
  exact ⟨dx, s _ _ e (ne_of e ha (fun q => by cases q)) (ne_of e hb (fun q => by cases q))⟩
section
variable {P : Program} {w : World} {K : PySem.W.Frag} {mg : Str → Option Value} {base : Heap} {ad : Ad} {dd : AdD} {de : AdE}
abbrev s_CardRun___init__ : Stmt := inClass (topS 87) 0
abbrev N_CardRun___init__ : List Str := ["self", "card", "counters", "goes"]
theorem sc_CardRun___init__ : FnScope N_CardRun___init__ ["self", "card", "counters", "goes"] (defScope s_CardRun___init__) := ⟨rfl, rfl, rfl, by decide +kernel, rfl, by decide +kernel, by decide +kernel⟩
def sp_run_init (de : AdE) : Sp := fun vs H Q _ => ∃ (p ca za g dx : Addr), vs = [.ref p, .ref ca, .ref za, .ref g] ∧ H p = some (.ins de.cCR dx []) ∧ ∀ H' : Hp, H' p = some (.ins de.cCR dx (rnF ca za g)) → SB p H H' → Q .non H'
theorem ok_run_init {f : Addr} {fd : FuncData} (F : Fun K "__init__" "CardRun.__init__" s_CardRun___init__ f fd) (T : TxtE P w K mg ad dd de) : FnOk P w K mg base CX0 1 f fd ["self", "card", "counters", "goes"] (sp_run_init de) := by
  refine F.ok sc_CardRun___init__ (fun vs H Q E h => ?_) (fun cdv A outer s H vs Q E hr h => ?_)
  · obtain ⟨p, ca, za, g, dx, rfl, _⟩ := h; rfl
  · obtain ⟨p, ca, za, g, dx, rfl, hp, q⟩ := h
    refine ⟨_, (pss_cons (ps_fld (pv 0) (pv 1) rfl)
      (pss_cons (ps_fld (pv 0) (pv 2) rfl)
      (pss_one (ps_fld (pv 0) (pv 3) rfl)))), ?_⟩
    refine ⟨_, rfl, _, rfl, p, de.cCR, dx, _, rfl, hp, T.cl_CardRun, T.n_card, (by show 0 < 1000; decide), ?_⟩
    have e1 : putF "card" (.ref ca) ([] : List (Str × V)) = rnF1 ca := rfl
    rw [e1]
    refine ⟨_, rfl, _, rfl, p, de.cCR, dx, _, rfl, upd_same, T.cl_CardRun, T.n_counters, (by show 1 < 1000; decide), ?_⟩
    rw [rnP_1]
    refine ⟨_, rfl, _, rfl, p, de.cCR, dx, _, rfl, upd_same, T.cl_CardRun, T.n_goes, (by show 2 < 1000; decide), ?_⟩
    rw [rnP_2]
    exact q _ upd_same ((SB.upd p H _).trans ((SB.upd p _ _).trans (SB.upd p _ _)))
abbrev s_power_of_ten : Stmt := topS 88
abbrev N_power_of_ten : List Str := ["exponent", "power", "turn"]
theorem sc_power_of_ten : FnScope N_power_of_ten ["exponent"] (defScope s_power_of_ten) := ⟨rfl, rfl, rfl, by decide +kernel, rfl, by decide +kernel, by decide +kernel⟩
def sp_power_of_ten : Sp := fun vs H Q _ => ∃ s : Nat, vs = [.int (s : Int)] ∧ s ≤ 64 ∧ Q (.int ((10 ^ s : Nat) : Int)) H
theorem ok_power_of_ten {f : Addr} {fd : FuncData} (F : Fun K "power_of_ten" "power_of_ten" s_power_of_ten f fd) (T : TxtE P w K mg ad dd de) : FnOk P w K mg base CX0 1 f fd ["exponent"] sp_power_of_ten := by
  refine F.ok sc_power_of_ten (fun vs H Q E h => ?_) (fun cdv A outer s H vs Q E hr h => ?_)
  · obtain ⟨s, rfl, _⟩ := h; rfl
  · obtain ⟨n, rfl, hn, q⟩ := h
    refine ⟨_, (pss_cons (ps_set (i := 1) sc_power_of_ten.nd rfl (Or.inl rfl) pe_int)
      (pss_cons (ps_for PassesOwn.never rfl (pi_range1 rfl T.b_range (pa_cons (pv 0) pa_nil)) (pg_name (i := 2) sc_power_of_ten.nd rfl (Or.inl rfl))
      (pss_one (ps_aug (i := 1) sc_power_of_ten.nd rfl (Or.inl rfl) pe_int iop_mul)))
      (pss_one (ps_ret (pv 1))))), ?_⟩
    refine ⟨_, rfl, (n : Int), rfl, by omega, by omega, ?_⟩
    rw [Int.toNat_natCast]
    refine for_range (lo := 0) (n := n) (fun i σ H' => H' = H ∧ ∃ v2, σ = [some (.int (n : Int)), some (.int ((10 ^ i : Nat) : Int)), v2]) ⟨rfl, none, rfl⟩ ?_ ?_
    · rintro i σ H' hi ⟨rfl, v2, rfl⟩
      refine ⟨_, rfl, _, _, rfl, rfl, .inr ⟨by decide, by decide⟩, rfl, some (.int (0 + (i : Int))), ?_⟩
      have : ((10 ^ i : Nat) : Int) * 10 = ((10 ^ (i + 1) : Nat) : Int) := by rw [Nat.pow_succ, Int.natCast_mul]; rfl
      show [_, some (V.int (((10 ^ i : Nat) : Int) * 10)), _] = _
      rw [this]
    · rintro σ H' ⟨rfl, v2, rfl⟩
      exact ⟨_, rfl, q⟩
abbrev s_quotient_of : Stmt := topS 89
abbrev N_quotient_of : List Str := ["number", "by", "quotient"]
theorem sc_quotient_of : FnScope N_quotient_of ["number", "by"] (defScope s_quotient_of) := ⟨rfl, rfl, rfl, by decide +kernel, rfl, by decide +kernel, by decide +kernel⟩
def sp_quotient_of : Sp := fun vs H Q _ => ∃ a b : Int, vs = [.int a, .int b] ∧ b ≠ 0 ∧ b.natAbs < 10000000000000000 ∧ Q (.int (Pu.quotient a b)) H
theorem ok_quotient_of {f : Addr} {fd : FuncData} (F : Fun K "quotient_of" "quotient_of" s_quotient_of f fd) (T : TxtE P w K mg ad dd de) : FnOk P w K mg base CX0 1 f fd ["number", "by"] sp_quotient_of := by
  refine F.ok sc_quotient_of (fun vs H Q E h => ?_) (fun cdv A outer s H vs Q E hr h => ?_)
  · obtain ⟨a, b, rfl, _⟩ := h; rfl
  · obtain ⟨a, b, rfl, hb, lb, q⟩ := h
    refine ⟨_, (pss_cons (ps_set (i := 2) sc_quotient_of.nd rfl (Or.inl rfl) (pe_op op_fdivW (pe_callB call_abs (by rfl) T.b_abs (by decide +kernel) (pa_cons (pv 0) pa_nil)) (pe_callB call_abs (by rfl) T.b_abs (by decide +kernel) (pa_cons (pv 1) pa_nil))))
      (pss_cons (ps_if (pt_cmpR op_ne (pe_cmpR op_lt (pv 0) pe_int (nomark _)) (pe_cmpR op_lt (pv 1) pe_int (nomark _)) (nomark _))
      (pss_one (ps_ret (pe_un un_neg (pv 2))))
      pss_nil)
      (pss_one (ps_ret (pv 2))))), ?_⟩
    unfold Pu.quotient at q
    refine ⟨_, rfl, a, rfl, _, rfl, b, rfl, ?_⟩
    rw [abs_is, abs_is]
    refine ⟨_, _, rfl, rfl, wide_div (b := 64) (by omega) (by rw [Int.natAbs_natCast]; exact Nat.lt_trans lb (by decide)) (by decide) (by decide), ?_⟩
    have ed : ((a.natAbs : Nat) : Int) / ((b.natAbs : Nat) : Int) = ((a.natAbs / b.natAbs : Nat) : Int) := (Int.natCast_ediv _ _).symm
    dsimp only
    rw [ed]
    refine ⟨_, rfl, _, _, rfl, rfl, _, rfl, _, _, rfl, rfl, rfl, _, rfl, ?_⟩
    by_cases c : (decide (a < 0) == decide (b < 0)) = true
    · rw [if_pos c] at q
      have e := eq_of_beq c
      refine iff_ ?_ ⟨_, rfl, q⟩
      exact congrArg Bool.not (decide_eq_true (congrArg V.bl e))
    · rw [if_neg c] at q
      refine ift ?_ ⟨_, rfl, _, rfl, q⟩
      rw [decide_eq_false (fun z => c (by have := V.bl.inj z; rw [this]; exact beq_self_eq_true _))]; rfl
abbrev s_rounded_quotient : Stmt := topS 90
abbrev N_rounded_quotient : List Str := ["number", "by", "quotient"]
theorem sc_rounded_quotient : FnScope N_rounded_quotient ["number", "by"] (defScope s_rounded_quotient) := ⟨rfl, rfl, rfl, by decide +kernel, rfl, by decide +kernel, by decide +kernel⟩
def sp_rounded : Sp := fun vs H Q _ => ∃ (a : Int) (d : Nat), vs = [.int a, .int (d : Int)] ∧ 0 < d ∧ d < 10000000000000000000 ∧ Q (.int (Pu.nearest a d)) H
theorem ok_rounded_quotient {f : Addr} {fd : FuncData} (F : Fun K "rounded_quotient" "rounded_quotient" s_rounded_quotient f fd) (T : TxtE P w K mg ad dd de) : FnOk P w K mg base CX0 1 f fd ["number", "by"] sp_rounded := by
  refine F.ok sc_rounded_quotient (fun vs H Q E h => ?_) (fun cdv A outer s H vs Q E hr h => ?_)
  · obtain ⟨a, d, rfl, _⟩ := h; rfl
  · obtain ⟨a, d, rfl, hd, ld, q⟩ := h
    refine ⟨_, (pss_cons (ps_set (i := 2) sc_rounded_quotient.nd rfl (Or.inl rfl) (pe_op op_fdivW (pe_op op_add (pe_op op_mul pe_int (pe_callB call_abs (by rfl) T.b_abs (by decide +kernel) (pa_cons (pv 0) pa_nil))) (pv 1)) (pe_op op_mul pe_int (pv 1))))
      (pss_one (ps_ret (pe_ifExp (pt_cmpR op_lt (pv 0) pe_int (nomark _)) (pe_un un_neg (pv 2)) (pv 2))))), ?_⟩
    unfold Pu.nearest at q
    refine ⟨_, rfl, a, rfl, ?_⟩
    rw [abs_is]
    refine ⟨_, _, rfl, rfl, .inl ⟨by decide, by decide⟩, _, rfl, _, _, rfl, rfl, _, rfl, _, _, rfl, rfl, .inl ⟨by decide, by decide⟩, _, _, rfl, rfl, ?_, ?_⟩
    · refine wide_div (b := 70) (by omega) ?_ (by decide) (by decide)
      have : ((2 : Int) * (d : Int)).natAbs = 2 * d := by omega
      rw [this]
      have h70 : (2 : Nat) ^ 70 = 1180591620717411303424 := by decide
      omega
    have ed : ((2 : Int) * ((a.natAbs : Nat) : Int) + (d : Int)) / ((2 : Int) * (d : Int)) = (((2 * a.natAbs + d) / (2 * d) : Nat) : Int) := by
      rw [Int.natCast_ediv]
      congr 1
    dsimp only
    rw [ed]
    refine ⟨_, rfl, _, _, rfl, rfl, _, rfl, ?_⟩
    by_cases c : a < 0
    · rw [if_pos c] at q
      exact ift (decide_eq_true c) ⟨_, rfl, _, rfl, q⟩
    · rw [if_neg c] at q
      exact iff_ (decide_eq_false c) ⟨_, rfl, q⟩
abbrev s_put : Stmt := topS 91
abbrev N_put : List Str := ["run", "k", "number"]
theorem sc_put : FnScope N_put ["run", "k", "number"] (defScope s_put) := ⟨rfl, rfl, rfl, by decide +kernel, rfl, by decide +kernel, by decide +kernel⟩
def sp_put (de : AdE) : Sp := fun vs H Q _ => ∃ (ru ca za g : Addr) (k : Nat) (v : Int) (x : Pu.Card) (z : Pu.Counters) (t : Pu.Flow), vs = [.ref ru, .int (k : Int), .int v] ∧ RunAt de H ru ca za g x z t ∧ k ≤ 15 ∧
  (¬ v.natAbs < 10000000000000000 → Q (.int 2) H) ∧ (v.natAbs < 10000000000000000 → Q (.int 0) (upd H za (.lst ((z.set k v).map V.int))))
theorem ok_put {f : Addr} {fd : FuncData} (F : Fun K "put" "put" s_put f fd) (T : TxtE P w K mg ad dd de) : FnOk P w K mg base CX0 1 f fd ["run", "k", "number"] (sp_put de) := by
  refine F.ok sc_put (fun vs H Q E h => ?_) (fun cdv A outer s H vs Q E hr h => ?_)
  · obtain ⟨ru, ca, za, g, k, v, x, z, t, rfl, _⟩ := h; rfl
  · obtain ⟨ru, ca, za, g, k, v, x, z, t, rfl, R, hk, q1, q2⟩ := h
    obtain ⟨dx, hp⟩ := R.ins
    refine ⟨_, (pss_cons (ps_if (pt_cmpR op_ge (pe_callB call_abs (by rfl) T.b_abs (by decide +kernel) (pa_cons (pv 2) pa_nil)) (pe_gint (by rfl) T.g_COUNTER_LIMIT) (nomark _))
      (pss_one (ps_ret (pe_gint (by rfl) T.g_TOO_GREAT)))
      pss_nil)
      (pss_cons (ps_asg (pv 2) (pg_sub (pe_fld (pv 0) rfl) (pv 1) set_list))
      (pss_one (ps_ret pe_int)))), ?_⟩
    refine ⟨_, rfl, v, rfl, ?_⟩
    rw [abs_is]
    refine ⟨_, _, rfl, rfl, _, rfl, ?_⟩
    by_cases c : v.natAbs < 10000000000000000
    · refine iff_ (decide_eq_false (by omega)) ?_
      refine ⟨_, rfl, _, rfl, ru, de.cCR, dx, _, _, rfl, hp, T.cl_CardRun, T.n_counters, rnF_counters .., _, rfl, za, _, _, k, rfl, rfl, R.ctr, ixN_nat (by rw [List.length_map, R.oz.len]; omega) rfl, ?_⟩
      have e : (z.map V.int).set k (V.int v) = (z.set k v).map V.int := by rw [List.map_set]
      rw [e]
      exact q2 c
    · refine ift (decide_eq_true (by omega)) ?_
      exact q1 c
end
end CP
/-! HCalc2 -/
namespace CP
open PySem PySem.Spec PyProof.Rows L2
section
open Pu
theorem done_0 {t : Pu.Step} {x : Card} {z : Counters} (h : t.op = 0) : doneStep t x z = match amountOf (fieldOf x t.c t.n) with
    | none => .error 1
    | some v => (setTo z t.k v).map fun (y : Counters) => (x, y) := by
  unfold doneStep
  rw [h]
  rfl
theorem done_4 {t : Pu.Step} {x : Card} {z : Counters} (h : t.op = 4) : doneStep t x z = if ctr z t.j = 0 then .error 3 else .ok (x, (z.set t.k (quotient (ctr z t.k) (ctr z t.j))).set t.s (left_ (ctr z t.k) (ctr z t.j))) := by
  unfold doneStep
  rw [h]
  rfl
theorem done_9 {t : Pu.Step} {x : Card} {z : Counters} (h : t.op = 9) : doneStep t x z = match put t.n (ctr z t.k) with
    | none => .error 4
    | some l => .ok (inField x t.c l, z) := by
  unfold doneStep
  rw [h]
  rfl
/-- what counter k becomes by an op that changes this counter alone -/
def rk (t : Pu.Step) (z : Counters) : Int := if t.op = 1 then ctr z t.k + ctr z t.j else if t.op = 2 then ctr z t.k - ctr z t.j else if t.op = 3 then ctr z t.k * ctr z t.j else if t.op = 5 then t.x else if t.op = 6 then ctr z t.j else if t.op = 7 then nearest (ctr z t.k) (10 ^ t.s) else ctr z t.k * ((10 ^ t.s : Nat) : Int)
def Alone (t : Pu.Step) : Prop := t.op ≠ 0 ∧ t.op ≠ 4 ∧ t.op ≠ 9 ∧ t.op ≠ 10
theorem done_rk {t : Pu.Step} {x : Card} {z : Counters} (f : FineS t) (oz : ZOk z) (h : Alone t) : doneStep t x z = (setTo z t.k (rk t z)).map fun (y : Counters) => (x, y) := by
  have ho := f.op
  obtain ⟨h0, h4, h9, h10⟩ := h
  have c : t.op = 1 ∨ t.op = 2 ∨ t.op = 3 ∨ t.op = 5 ∨ t.op = 6 ∨ t.op = 7 ∨ t.op = 8 := by omega
  unfold rk
  rcases c with c | c | c | c | c | c | c
  · unfold doneStep; rw [c]; rfl
  · unfold doneStep; rw [c]; rfl
  · unfold doneStep; rw [c]; rfl
  · have fx := f.x c
    rw [c]
    show doneStep t x z = (setTo z t.k t.x).map _
    rw [setTo_ok (by omega)]
    unfold doneStep; rw [c]; rfl
  · rw [c]
    show doneStep t x z = (setTo z t.k (ctr z t.j)).map _
    rw [setTo_ok (oz.ctr _)]
    unfold doneStep; rw [c]; rfl
  · rw [c]
    show doneStep t x z = (setTo z t.k (nearest (ctr z t.k) (10 ^ t.s))).map _
    rw [setTo_ok (Nat.lt_of_le_of_lt (nearest_le _ (Nat.pow_pos (by decide))) (oz.ctr _))]
    unfold doneStep; rw [c]; rfl
  · unfold doneStep; rw [c]; rfl
theorem set_ok {z : Counters} {k : Nat} {v : Int} {x : Card} (h : v.natAbs < 10000000000000000) : ((setTo z k v).map fun (y : Counters) => (x, y)) = .ok (x, z.set k v) := by rw [setTo_ok h]; rfl
theorem set_bad {z : Counters} {k : Nat} {v : Int} {x : Card} (h : ¬ v.natAbs < 10000000000000000) : ((setTo z k v).map fun (y : Counters) => (x, y)) = .error 2 := by rw [setTo_bad h]; rfl
end
theorem set_int (z : List Int) (k : Nat) (v : Int) : (z.map V.int).set k (V.int v) = (z.set k v).map V.int := by rw [List.map_set]
/-- a step's doing, as the program does it -/
def sp_do (de : AdE) (C : Pu.Step → Prop) : Sp := fun vs H Q _ => ∃ (sa ru ca za g : Addr) (t : Pu.Step) (x : Pu.Card) (z : Pu.Counters) (fl : Pu.Flow), vs = [.ref sa, .ref ru] ∧ StepAt de H sa t ∧ FineS t ∧ C t ∧ RunAt de H ru ca za g x z fl ∧
  (∀ e : Nat, Pu.doneStep t x z = .error e → 1 ≤ e → ∀ H', Same H H' → Q (.int (e : Int)) H') ∧
  (∀ y, Pu.doneStep t x z = .ok y → ∀ H', S2 ca za H H' → H' ca = some (.lst (y.1.map vN)) → H' za = some (.lst (y.2.map V.int)) → Q (.int 0) H')
section
variable {P : Program} {w : World} {K : PySem.W.Frag} {mg : Str → Option Value} {base : Heap} {ad : Ad} {dd : AdD} {de : AdE}
abbrev s_read_field : Stmt := topS 92
abbrev N_read_field : List Str := ["step", "run", "amount"]
theorem sc_read_field : FnScope N_read_field ["step", "run"] (defScope s_read_field) := ⟨rfl, rfl, rfl, by decide +kernel, rfl, by decide +kernel, by decide +kernel⟩
theorem ok_read_field {f : Addr} {fd : FuncData} (F : Fun K "read_field" "read_field" s_read_field f fd) (T : TxtE P w K mg ad dd de) (D_read_amount : Dcl P w K mg base 2 "read_amount" ["columns"] (sp_read_amount K)) (D_put : Dcl P w K mg base 1 "put" ["run", "k", "number"] (sp_put de)) : FnOk P w K mg base CX0 3 f fd ["step", "run"] (sp_do de fun t => t.op = 0) := by
  refine F.ok sc_read_field (fun vs H Q E h => ?_) (fun cdv A outer s H vs Q E hr h => ?_)
  · obtain ⟨sa, ru, ca, za, g, t, x, z, fl, rfl, _⟩ := h; rfl
  · obtain ⟨sa, ru, ca, za, g, t, x, z, fl, rfl, ⟨dx, hp⟩, fi, h0, R, qe, qo⟩ := h
    obtain ⟨dr, hru⟩ := R.ins
    have fl0 := fi.fld (.inl h0)
    have lx := R.ox.1
    refine ⟨_, (pss_cons (ps_set (i := 2) sc_read_field.nd rfl (Or.inl rfl) (pe_call D_read_amount.ok (hr.mono (by decide)) (by rfl) D_read_amount.g D_read_amount.kp D_read_amount.b .nil pass0 (pa_cons (pe_slice sl_list (pe_fld (pv 1) rfl) (po_some (pe_fld (pv 0) rfl)) (po_some (pe_op op_add (pe_fld (pv 0) rfl) (pe_fld (pv 0) rfl)))) pa_nil)))
      (pss_cons (ps_if (pt_cmpR op_isN (pv 2) pe_non (nomark _))
      (pss_one (ps_ret (pe_gint (by rfl) T.g_NO_AMOUNT)))
      pss_nil)
      (pss_one (ps_ret (pe_call D_put.ok (hr.mono (by decide)) (by rfl) D_put.g D_put.kp D_put.b .nil pass0 (pa_cons (pv 1) (pa_cons (pe_fld (pv 0) rfl) (pa_cons (pv 2) pa_nil)))))))), ?_⟩
    refine ⟨_, rfl, ru, de.cCR, dr, _, _, rfl, hru, T.cl_CardRun, T.n_card, rnF_card .., _, rfl, sa, de.cSt, dx, _, _, rfl, hp, T.cl_Step, T.n_c, stF_c .., _, rfl, _, rfl, sa, de.cSt, dx, _, _, rfl, hp, T.cl_Step, T.n_c, stF_c .., _, rfl, sa, de.cSt, dx, _, _, rfl, hp, T.cl_Step, T.n_n, stF_n .., _, _, rfl, rfl, _, rfl, ca, _, rfl, SqL.of R.card, fun r1 n1 => ?_⟩
    have ec : cutV (x.map vN) (some (t.c : Int)) (some ((t.c : Int) + (t.n : Int))) = (Pu.fieldOf x t.c t.n).map vN := by
      rw [cut_nat (i := t.c) (j := t.c + t.n) (by rw [List.length_map]; omega) (by rw [List.length_map]; omega) rfl (by omega), Nat.add_sub_cancel_left, ← List.map_drop, ← List.map_take]; rfl
    have t1 := same_upd (o := .lst (cutV (x.map vN) (some (t.c : Int)) (some ((t.c : Int) + (t.n : Int))))) n1
    have lf : (Pu.fieldOf x t.c t.n).length = t.n := by
      unfold Pu.fieldOf; rw [List.length_take, List.length_drop]; omega
    refine ⟨r1, Pu.fieldOf x t.c t.n, rfl, by rw [← ec]; exact upd_same, fun e => by rw [e] at lf; simp at lf; omega, by omega, fun H2 s2 => ?_⟩
    have d0 := done_0 (x := x) (z := z) h0
    have sA := t1.trans s2
    cases ha : Pu.amountOf (Pu.fieldOf x t.c t.n) with
    | none =>
      rw [ha] at d0
      exact ⟨_, rfl, rfl, _, rfl, ift rfl (qe 1 d0 (by decide) H2 sA)⟩
    | some v =>
      rw [ha] at d0
      refine ⟨_, rfl, rfl, _, rfl, iff_ rfl ?_⟩
      have R2 := R.same sA
      refine ⟨_, rfl, _, rfl, sa, de.cSt, dx, _, _, rfl, sA _ _ hp, T.cl_Step, T.n_k, stF_k .., _, rfl, ru, ca, za, g, t.k, v, x, z, fl, rfl, R2, fi.k, fun b => ?_, fun b => ?_⟩
      · exact qe 2 (d0.trans (set_bad b)) (by decide) H2 sA
      · refine qo _ (d0.trans (set_ok b)) _ ((S2.of sA).trans S2.updB) ?_ upd_same
        rw [upd_ne R.ne]
        exact R2.card
abbrev s_divide : Stmt := topS 93
abbrev N_divide : List Str := ["step", "run", "number", "by", "quotient"]
theorem sc_divide : FnScope N_divide ["step", "run"] (defScope s_divide) := ⟨rfl, rfl, rfl, by decide +kernel, rfl, by decide +kernel, by decide +kernel⟩
theorem ok_divide {f : Addr} {fd : FuncData} (F : Fun K "divide" "divide" s_divide f fd) (T : TxtE P w K mg ad dd de) (D_quotient_of : Dcl P w K mg base 1 "quotient_of" ["number", "by"] sp_quotient_of) : FnOk P w K mg base CX0 2 f fd ["step", "run"] (sp_do de fun t => t.op = 4) := by
  refine F.ok sc_divide (fun vs H Q E h => ?_) (fun cdv A outer s H vs Q E hr h => ?_)
  · obtain ⟨sa, ru, ca, za, g, t, x, z, fl, rfl, _⟩ := h; rfl
  · obtain ⟨sa, ru, ca, za, g, t, x, z, fl, rfl, ⟨dx, hp⟩, fi, h0, R, qe, qo⟩ := h
    obtain ⟨dr, hru⟩ := R.ins
    have s15 := fi.s15 (.inl h0)
    have fk := fi.k
    have fj := fi.j
    have lz := R.oz.len
    have ak := R.oz.at_ fk
    have aj := R.oz.at_ fj
    have bk := R.oz.ctr t.k
    have bj := R.oz.ctr t.j
    have d4 := done_4 (x := x) (z := z) h0
    refine ⟨_, (pss_cons (ps_set (i := 2) sc_divide.nd rfl (Or.inl rfl) (pe_ix ix_list (pe_fld (pv 1) rfl) (pe_fld (pv 0) rfl) (fun _ _ => rfl)))
      (pss_cons (ps_set (i := 3) sc_divide.nd rfl (Or.inl rfl) (pe_ix ix_list (pe_fld (pv 1) rfl) (pe_fld (pv 0) rfl) (fun _ _ => rfl)))
      (pss_cons (ps_if (pt_cmpR op_eq (pv 3) pe_int (nomark _))
      (pss_one (ps_ret (pe_gint (by rfl) T.g_BY_NOUGHT)))
      pss_nil)
      (pss_cons (ps_set (i := 4) sc_divide.nd rfl (Or.inl rfl) (pe_call D_quotient_of.ok (hr.mono (by decide)) (by rfl) D_quotient_of.g D_quotient_of.kp D_quotient_of.b .nil pass0 (pa_cons (pv 2) (pa_cons (pv 3) pa_nil))))
      (pss_cons (ps_asg (pv 4) (pg_sub (pe_fld (pv 1) rfl) (pe_fld (pv 0) rfl) set_list))
      (pss_cons (ps_asg (pe_op op_sub (pv 2) (pe_op op_mul (pv 4) (pv 3))) (pg_sub (pe_fld (pv 1) rfl) (pe_fld (pv 0) rfl) set_list))
      (pss_one (ps_ret pe_int)))))))), ?_⟩
    refine ⟨_, rfl, ru, de.cCR, dr, _, _, rfl, hru, T.cl_CardRun, T.n_counters, rnF_counters .., _, rfl, sa, de.cSt, dx, _, _, rfl, hp, T.cl_Step, T.n_k, stF_k .., za, _, _, _, rfl, rfl, SqL.of R.ctr, at_int ak rfl, ?_⟩
    refine ⟨_, rfl, ru, de.cCR, dr, _, _, rfl, hru, T.cl_CardRun, T.n_counters, rnF_counters .., _, rfl, sa, de.cSt, dx, _, _, rfl, hp, T.cl_Step, T.n_j, stF_j .., za, _, _, _, rfl, rfl, SqL.of R.ctr, at_int aj rfl, ?_⟩
    refine ⟨_, rfl, rfl, _, rfl, ?_⟩
    by_cases c : Pu.ctr z t.j = 0
    · rw [if_pos c] at d4
      exact ift (decide_eq_true (by rw [c])) (qe 3 d4 (by decide) H (Same.refl H))
    · rw [if_neg c] at d4
      refine iff_ (decide_eq_false (fun e => c (V.int.inj e))) ?_
      refine ⟨_, rfl, _, rfl, _, _, rfl, c, bj, ?_⟩
      have nz : ru ≠ za := ne_of hru R.ctr (fun q => by cases q)
      have ns : sa ≠ za := ne_of hp R.ctr (fun q => by cases q)
      have e1 : (z.map V.int).set t.k (V.int (Pu.quotient (Pu.ctr z t.k) (Pu.ctr z t.j))) = (z.set t.k (Pu.quotient (Pu.ctr z t.k) (Pu.ctr z t.j))).map V.int := by rw [List.map_set]
      refine ⟨_, rfl, _, rfl, ru, de.cCR, dr, _, _, rfl, hru, T.cl_CardRun, T.n_counters, rnF_counters .., _, rfl, sa, de.cSt, dx, _, _, rfl, hp, T.cl_Step, T.n_k, stF_k .., za, _, _, t.k, rfl, rfl, R.ctr, ixN_nat (by rw [List.length_map, lz]; omega) rfl, ?_⟩
      rw [e1]
      have hru1 : (upd H za (.lst ((z.set t.k (Pu.quotient (Pu.ctr z t.k) (Pu.ctr z t.j))).map V.int))) ru = some (.ins de.cCR dr (rnF ca za g)) := by rw [upd_ne nz]; exact hru
      have hp1 : (upd H za (.lst ((z.set t.k (Pu.quotient (Pu.ctr z t.k) (Pu.ctr z t.j))).map V.int))) sa = some (.ins de.cSt dx (stT t)) := by rw [upd_ne ns]; exact hp
      have e2 : ((z.set t.k (Pu.quotient (Pu.ctr z t.k) (Pu.ctr z t.j))).map V.int).set t.s (V.int (Pu.left_ (Pu.ctr z t.k) (Pu.ctr z t.j))) = ((z.set t.k (Pu.quotient (Pu.ctr z t.k) (Pu.ctr z t.j))).set t.s (Pu.left_ (Pu.ctr z t.k) (Pu.ctr z t.j))).map V.int := set_int _ _ _
      refine ⟨_, rfl, _, rfl, _, rfl, _, _, rfl, rfl, .inr ⟨by omega, by omega⟩, _, _, rfl, rfl, ?_⟩
      dsimp only
      rw [rest_is]
      refine ⟨_, rfl, ru, de.cCR, dr, _, _, rfl, hru1, T.cl_CardRun, T.n_counters, rnF_counters .., _, rfl, sa, de.cSt, dx, _, _, rfl, hp1, T.cl_Step, T.n_s, stF_s .., za, _, _, t.s, rfl, rfl, upd_same, ixN_nat (by rw [List.length_map, List.length_set, lz]; omega) rfl, ?_⟩
      rw [e2]
      refine qo _ d4 _ (S2.updB.trans S2.updB) ?_ upd_same
      rw [upd_ne R.ne, upd_ne R.ne]
      exact R.card
end
end CP
/-! HCalc3 -/
namespace CP
open PySem PySem.Spec PyProof.Rows L2
section
variable {P : Program} {w : World} {K : PySem.W.Frag} {mg : Str → Option Value} {base : Heap} {ad : Ad} {dd : AdD} {de : AdE}
abbrev s_punch_field : Stmt := topS 94
abbrev N_punch_field : List Str := ["step", "run", "amount", "place", "holes"]
theorem sc_punch_field : FnScope N_punch_field ["step", "run"] (defScope s_punch_field) := ⟨rfl, rfl, rfl, by decide +kernel, rfl, by decide +kernel, by decide +kernel⟩
theorem ok_punch_field {f : Addr} {fd : FuncData} (F : Fun K "punch_field" "punch_field" s_punch_field f fd) (T : TxtE P w K mg ad dd de) (D_amount_fits : Dcl P w K mg base 2 "amount_fits" ["amount", "n"] sp_amount_fits) (D_write_amount : Dcl P w K mg base 2 "write_amount" ["amount", "n"] sp_write_amount) : FnOk P w K mg base CX0 3 f fd ["step", "run"] (sp_do de fun t => t.op = 9) := by
  refine F.ok sc_punch_field (fun vs H Q E h => ?_) (fun cdv A outer s H vs Q E hr h => ?_)
  · obtain ⟨sa, ru, ca, za, g, t, x, z, fl, rfl, _⟩ := h; rfl
  · obtain ⟨sa, ru, ca, za, g, t, x, z, fl, rfl, ⟨dx, hp⟩, fi, h0, R, qe, qo⟩ := h
    obtain ⟨dr, hru⟩ := R.ins
    obtain ⟨n1, n18, n80⟩ := fi.fld (.inr h0)
    have lx := R.ox.1
    have ak := R.oz.at_ fi.k
    have bk := R.oz.ctr t.k
    have bk' : (Pu.ctr z t.k).natAbs < 10000000000000000000 := by omega
    have d9 := done_9 (x := x) (z := z) h0
    refine ⟨_, (pss_cons (ps_set (i := 2) sc_punch_field.nd rfl (Or.inl rfl) (pe_ix ix_list (pe_fld (pv 1) rfl) (pe_fld (pv 0) rfl) (fun _ _ => rfl)))
      (pss_cons (ps_if (pt_not (pt_val (pe_call D_amount_fits.ok (hr.mono (by decide)) (by rfl) D_amount_fits.g D_amount_fits.kp D_amount_fits.b .nil pass0 (pa_cons (pv 2) (pa_cons (pe_fld (pv 0) rfl) pa_nil)))))
      (pss_one (ps_ret (pe_gint (by rfl) T.g_TOO_LONG)))
      pss_nil)
      (pss_cons (ps_for PassesOwn.never rfl (pi_enum (by rfl) T.b_enumerate (pa_cons (pe_call D_write_amount.ok (hr.mono (by decide)) (by rfl) D_write_amount.g D_write_amount.kp D_write_amount.b .nil pass0 (pa_cons (pv 2) (pa_cons (pe_fld (pv 0) rfl) pa_nil))) pa_nil)) (pg_tup rfl (pgs_cons (pg_name (i := 3) sc_punch_field.nd rfl (Or.inl rfl)) (pgs_cons (pg_name (i := 4) sc_punch_field.nd rfl (Or.inl rfl)) pgs_nil)))
      (pss_one (ps_asg (pv 4) (pg_sub (pe_fld (pv 1) rfl) (pe_op op_add (pe_fld (pv 0) rfl) (pv 3)) set_list))))
      (pss_one (ps_ret pe_int))))), ?_⟩
    refine ⟨_, rfl, ru, de.cCR, dr, _, _, rfl, hru, T.cl_CardRun, T.n_counters, rnF_counters .., _, rfl, sa, de.cSt, dx, _, _, rfl, hp, T.cl_Step, T.n_k, stF_k .., za, _, _, _, rfl, rfl, SqL.of R.ctr, at_int ak rfl, ?_⟩
    refine ⟨_, rfl, _, rfl, sa, de.cSt, dx, _, _, rfl, hp, T.cl_Step, T.n_n, stF_n .., _, t.n, rfl, bk', n1, _, rfl, ?_⟩
    by_cases c : 10 ^ t.n ≤ (Pu.ctr z t.k).natAbs
    · rw [put_none c] at d9
      exact ift (by rw [decide_eq_false (fun h => h c)]; rfl) (qe 4 d9 (by decide) H (Same.refl H))
    · rw [put_some c] at d9
      refine iff_ (by rw [decide_eq_true c]; rfl) ?_
      refine ⟨_, rfl, _, rfl, sa, de.cSt, dx, _, _, rfl, hp, T.cl_Step, T.n_n, stF_n .., _, t.n, rfl, bk', n1, n18, c, fun H1 r1 s1 n1' h1 => ?_⟩
      have R1 := R.same s1
      have hru1 := s1 _ _ hru
      have hp1 := s1 _ _ hp
      have pl := putL_len (Pu.ctr z t.k) n1
      have rc : r1 ≠ ca := fun e => by rw [e, R.card] at n1'; cases n1'
      refine ⟨r1, _, rfl, SqL.of h1, ?_⟩
      refine for_enum (K := K) (a := r1) (xs := (putL t.n (Pu.ctr z t.k)).map vN) (fun i σ H' => ∃ v3 v4, σ = [some (.ref sa), some (.ref ru), some (.int (Pu.ctr z t.k)), v3, v4] ∧ SB ca H1 H' ∧ H' ca = some (.lst ((Pu.inField x t.c ((putL t.n (Pu.ctr z t.k)).take i)).map vN))) ?_ ?_ ?_ ?_
      · refine ⟨none, none, rfl, SB.refl _ _, ?_⟩
        rw [List.take_zero, inField_nil]
        exact R1.card
      · rintro i σ H' _ ⟨v3, v4, rfl, sb, hc⟩
        exact SqL.of (sb _ _ h1 rc)
      · rintro i y σ H' T0 hy ⟨v3, v4, rfl, sb, hc⟩ nT
        obtain ⟨v, hv, rfl, _, hi⟩ := list_at hy
        have sT := same_upd (o := .tup [V.int (i : Nat), vN v]) nT
        have hru2 := sT _ _ (sb _ _ hru1 (ne_of hru1 R1.card (fun q => by cases q)))
        have hp2 := sT _ _ (sb _ _ hp1 (ne_of hp1 R1.card (fun q => by cases q)))
        have hc2 := sT _ _ hc
        refine ⟨T0, [_, _], rfl, .inl (.inl upd_same), rfl, _, [_], rfl, _, [], rfl, rfl, ?_⟩
        refine ⟨_, rfl, _, rfl, ru, de.cCR, dr, _, _, rfl, hru2, T.cl_CardRun, T.n_card, rnF_card .., _, rfl, sa, de.cSt, dx, _, _, rfl, hp2, T.cl_Step, T.n_c, stF_c .., _, rfl, _, _, rfl, rfl, ca, _, _, t.c + i, rfl, rfl, hc2, ixN_nat (by rw [List.length_map, inField_len (by rw [List.length_take]; omega)]; omega) (by omega), ?_⟩
        refine ⟨_, _, rfl, (sb.trans (SB.of sT)).trans (SB.upd ca _ _), ?_⟩
        rw [upd_same]
        show some (HO.lst (((Pu.inField x t.c ((putL t.n (Pu.ctr z t.k)).take i)).map vN).set (t.c + i) (V.int (v : Int)))) = _
        rw [map_set_vN, inField_step (by omega) hv]
      · rintro σ H' ⟨v3, v4, rfl, sb, hc⟩
        rw [List.length_map, List.take_length] at hc
        refine qo _ d9 H' ((S2.of s1).trans (S2.sbA sb)) hc ?_
        exact sb _ _ (s1 _ _ R.ctr) (Ne.symm R.ne)
abbrev s_reckoned : Stmt := topS 95
abbrev N_reckoned : List Str := ["step", "counters", "number", "other"]
theorem sc_reckoned : FnScope N_reckoned ["step", "counters"] (defScope s_reckoned) := ⟨rfl, rfl, rfl, by decide +kernel, rfl, by decide +kernel, by decide +kernel⟩
def sp_reckoned (de : AdE) : Sp := fun vs H Q _ => ∃ (sa za : Addr) (t : Pu.Step) (z : Pu.Counters), vs = [.ref sa, .ref za] ∧ StepAt de H sa t ∧ FineS t ∧ Alone t ∧ H za = some (.lst (z.map V.int)) ∧ ZOk z ∧ Q (.int (rk t z)) H
theorem ok_reckoned {f : Addr} {fd : FuncData} (F : Fun K "reckoned" "reckoned" s_reckoned f fd) (T : TxtE P w K mg ad dd de) (D_rounded_quotient : Dcl P w K mg base 1 "rounded_quotient" ["number", "by"] sp_rounded) (D_power_of_ten : Dcl P w K mg base 1 "power_of_ten" ["exponent"] sp_power_of_ten) : FnOk P w K mg base CX0 2 f fd ["step", "counters"] (sp_reckoned de) := by
  refine F.ok sc_reckoned (fun vs H Q E h => ?_) (fun cdv A outer s H vs Q E hr h => ?_)
  · obtain ⟨sa, za, t, z, rfl, _⟩ := h; rfl
  · obtain ⟨sa, za, t, z, rfl, ⟨dx, hp⟩, fi, al, hz, oz, q⟩ := h
    have ak := oz.at_ fi.k
    have aj := oz.at_ fi.j
    have bk := oz.ctr t.k
    have bj := oz.ctr t.j
    have ho := fi.op
    refine ⟨_, (pss_cons (ps_set (i := 2) sc_reckoned.nd rfl (Or.inl rfl) (pe_ix ix_list (pv 1) (pe_fld (pv 0) rfl) (fun _ _ => rfl)))
      (pss_cons (ps_set (i := 3) sc_reckoned.nd rfl (Or.inl rfl) (pe_ix ix_list (pv 1) (pe_fld (pv 0) rfl) (fun _ _ => rfl)))
      (pss_cons (ps_if (pt_cmpR op_eq (pe_fld (pv 0) rfl) (pe_gint (by rfl) T.g_MORE) (nomark _))
      (pss_one (ps_ret (pe_op op_add (pv 2) (pv 3))))
      pss_nil)
      (pss_cons (ps_if (pt_cmpR op_eq (pe_fld (pv 0) rfl) (pe_gint (by rfl) T.g_LESS) (nomark _))
      (pss_one (ps_ret (pe_op op_sub (pv 2) (pv 3))))
      pss_nil)
      (pss_cons (ps_if (pt_cmpR op_eq (pe_fld (pv 0) rfl) (pe_gint (by rfl) T.g_TIMES) (nomark _))
      (pss_one (ps_ret (pe_op op_mul (pv 2) (pv 3))))
      pss_nil)
      (pss_cons (ps_if (pt_cmpR op_eq (pe_fld (pv 0) rfl) (pe_gint (by rfl) T.g_SET) (nomark _))
      (pss_one (ps_ret (pe_fld (pv 0) rfl)))
      pss_nil)
      (pss_cons (ps_if (pt_cmpR op_eq (pe_fld (pv 0) rfl) (pe_gint (by rfl) T.g_MOVE) (nomark _))
      (pss_one (ps_ret (pv 3)))
      pss_nil)
      (pss_cons (ps_if (pt_cmpR op_eq (pe_fld (pv 0) rfl) (pe_gint (by rfl) T.g_SHORTEN) (nomark _))
      (pss_one (ps_ret (pe_call D_rounded_quotient.ok (hr.mono (by decide)) (by rfl) D_rounded_quotient.g D_rounded_quotient.kp D_rounded_quotient.b .nil pass0 (pa_cons (pv 2) (pa_cons (pe_call D_power_of_ten.ok (hr.mono (by decide)) (by rfl) D_power_of_ten.g D_power_of_ten.kp D_power_of_ten.b .nil pass0 (pa_cons (pe_fld (pv 0) rfl) pa_nil)) pa_nil)))))
      pss_nil)
      (pss_one (ps_ret (pe_op op_mul (pv 2) (pe_call D_power_of_ten.ok (hr.mono (by decide)) (by rfl) D_power_of_ten.g D_power_of_ten.kp D_power_of_ten.b .nil pass0 (pa_cons (pe_fld (pv 0) rfl) pa_nil))))))))))))), ?_⟩
    unfold rk at q
    refine ⟨_, rfl, _, rfl, sa, de.cSt, dx, _, _, rfl, hp, T.cl_Step, T.n_k, stF_k .., za, _, _, _, rfl, rfl, SqL.of hz, at_int ak rfl, ?_⟩
    refine ⟨_, rfl, _, rfl, sa, de.cSt, dx, _, _, rfl, hp, T.cl_Step, T.n_j, stF_j .., za, _, _, _, rfl, rfl, SqL.of hz, at_int aj rfl, ?_⟩
    refine ⟨_, rfl, sa, de.cSt, dx, _, _, rfl, hp, T.cl_Step, T.n_op, stF_op .., rfl, _, rfl, ?_⟩
    by_cases c1 : t.op = 1
    · rw [if_pos c1] at q
      exact ift (decide_eq_true (by rw [c1]; rfl)) ⟨_, rfl, _, rfl, _, _, rfl, rfl, q⟩
    rw [if_neg c1] at q
    refine iff_ (decide_eq_false (fun e => c1 (by have := V.int.inj e; omega))) ?_
    refine ⟨_, rfl, sa, de.cSt, dx, _, _, rfl, hp, T.cl_Step, T.n_op, stF_op .., rfl, _, rfl, ?_⟩
    by_cases c2 : t.op = 2
    · rw [if_pos c2] at q
      exact ift (decide_eq_true (by rw [c2]; rfl)) ⟨_, rfl, _, rfl, _, _, rfl, rfl, q⟩
    rw [if_neg c2] at q
    refine iff_ (decide_eq_false (fun e => c2 (by have := V.int.inj e; omega))) ?_
    refine ⟨_, rfl, sa, de.cSt, dx, _, _, rfl, hp, T.cl_Step, T.n_op, stF_op .., rfl, _, rfl, ?_⟩
    by_cases c3 : t.op = 3
    · rw [if_pos c3] at q
      exact ift (decide_eq_true (by rw [c3]; rfl)) ⟨_, rfl, _, rfl, _, _, rfl, rfl, .inl ⟨by omega, by omega⟩, q⟩
    rw [if_neg c3] at q
    refine iff_ (decide_eq_false (fun e => c3 (by have := V.int.inj e; omega))) ?_
    refine ⟨_, rfl, sa, de.cSt, dx, _, _, rfl, hp, T.cl_Step, T.n_op, stF_op .., rfl, _, rfl, ?_⟩
    by_cases c5 : t.op = 5
    · rw [if_pos c5] at q
      exact ift (decide_eq_true (by rw [c5]; rfl)) ⟨_, rfl, sa, de.cSt, dx, _, _, rfl, hp, T.cl_Step, T.n_x, stF_x .., q⟩
    rw [if_neg c5] at q
    refine iff_ (decide_eq_false (fun e => c5 (by have := V.int.inj e; omega))) ?_
    refine ⟨_, rfl, sa, de.cSt, dx, _, _, rfl, hp, T.cl_Step, T.n_op, stF_op .., rfl, _, rfl, ?_⟩
    by_cases c6 : t.op = 6
    · rw [if_pos c6] at q
      exact ift (decide_eq_true (by rw [c6]; rfl)) ⟨_, rfl, q⟩
    rw [if_neg c6] at q
    refine iff_ (decide_eq_false (fun e => c6 (by have := V.int.inj e; omega))) ?_
    have s15 : t.s ≤ 15 := fi.s15 (by obtain ⟨a1, a2, a3, a4⟩ := al; omega)
    have p10 : 10 ^ t.s ≤ 10 ^ 15 := Nat.pow_le_pow_right (by decide) s15
    refine ⟨_, rfl, sa, de.cSt, dx, _, _, rfl, hp, T.cl_Step, T.n_op, stF_op .., rfl, _, rfl, ?_⟩
    by_cases c7 : t.op = 7
    · rw [if_pos c7] at q
      exact ift (decide_eq_true (by rw [c7]; rfl)) ⟨_, rfl, _, rfl, sa, de.cSt, dx, _, _, rfl, hp, T.cl_Step, T.n_s, stF_s .., t.s, rfl, by omega, _, _, rfl, Nat.pow_pos (by decide), Nat.lt_of_le_of_lt p10 (by decide), q⟩
    rw [if_neg c7] at q
    refine iff_ (decide_eq_false (fun e => c7 (by have := V.int.inj e; omega))) ?_
    exact ⟨_, rfl, _, rfl, sa, de.cSt, dx, _, _, rfl, hp, T.cl_Step, T.n_s, stF_s .., t.s, rfl, by omega, _, _, rfl, rfl, .inl ⟨by omega, by omega⟩, q⟩
abbrev s_do_step : Stmt := topS 96
abbrev N_do_step : List Str := ["step", "run"]
theorem sc_do_step : FnScope N_do_step ["step", "run"] (defScope s_do_step) := ⟨rfl, rfl, rfl, by decide +kernel, rfl, by decide +kernel, by decide +kernel⟩
theorem ok_do_step {f : Addr} {fd : FuncData} (F : Fun K "do_step" "do_step" s_do_step f fd) (T : TxtE P w K mg ad dd de) (D_read_field : Dcl P w K mg base 3 "read_field" ["step", "run"] (sp_do de fun t => t.op = 0)) (D_divide : Dcl P w K mg base 2 "divide" ["step", "run"] (sp_do de fun t => t.op = 4)) (D_punch_field : Dcl P w K mg base 3 "punch_field" ["step", "run"] (sp_do de fun t => t.op = 9)) (D_put : Dcl P w K mg base 1 "put" ["run", "k", "number"] (sp_put de)) (D_reckoned : Dcl P w K mg base 2 "reckoned" ["step", "counters"] (sp_reckoned de)) : FnOk P w K mg base CX0 4 f fd ["step", "run"] (sp_do de fun t => t.op ≠ 10) := by
  refine F.ok sc_do_step (fun vs H Q E h => ?_) (fun cdv A outer s H vs Q E hr h => ?_)
  · obtain ⟨sa, ru, ca, za, g, t, x, z, fl, rfl, _⟩ := h; rfl
  · obtain ⟨sa, ru, ca, za, g, t, x, z, fl, rfl, ⟨dx, hp⟩, fi, h0, R, qe, qo⟩ := h
    obtain ⟨dr, hru⟩ := R.ins
    refine ⟨_, (pss_cons (ps_if (pt_cmpR op_eq (pe_fld (pv 0) rfl) (pe_gint (by rfl) T.g_READ) (nomark _))
      (pss_one (ps_ret (pe_call D_read_field.ok (hr.mono (by decide)) (by rfl) D_read_field.g D_read_field.kp D_read_field.b .nil pass0 (pa_cons (pv 0) (pa_cons (pv 1) pa_nil)))))
      pss_nil)
      (pss_cons (ps_if (pt_cmpR op_eq (pe_fld (pv 0) rfl) (pe_gint (by rfl) T.g_DIVIDE) (nomark _))
      (pss_one (ps_ret (pe_call D_divide.ok (hr.mono (by decide)) (by rfl) D_divide.g D_divide.kp D_divide.b .nil pass0 (pa_cons (pv 0) (pa_cons (pv 1) pa_nil)))))
      pss_nil)
      (pss_cons (ps_if (pt_cmpR op_eq (pe_fld (pv 0) rfl) (pe_gint (by rfl) T.g_PUNCH) (nomark _))
      (pss_one (ps_ret (pe_call D_punch_field.ok (hr.mono (by decide)) (by rfl) D_punch_field.g D_punch_field.kp D_punch_field.b .nil pass0 (pa_cons (pv 0) (pa_cons (pv 1) pa_nil)))))
      pss_nil)
      (pss_one (ps_ret (pe_call D_put.ok (hr.mono (by decide)) (by rfl) D_put.g D_put.kp D_put.b .nil pass0 (pa_cons (pv 1) (pa_cons (pe_fld (pv 0) rfl) (pa_cons (pe_call D_reckoned.ok (hr.mono (by decide)) (by rfl) D_reckoned.g D_reckoned.kp D_reckoned.b .nil pass0 (pa_cons (pv 0) (pa_cons (pe_fld (pv 1) rfl) pa_nil))) pa_nil))))))))), ?_⟩
    refine ⟨_, rfl, sa, de.cSt, dx, _, _, rfl, hp, T.cl_Step, T.n_op, stF_op .., rfl, _, rfl, ?_⟩
    by_cases c0 : t.op = 0
    · exact ift (decide_eq_true (by rw [c0]; rfl)) ⟨_, rfl, _, rfl, sa, ru, ca, za, g, t, x, z, fl, rfl, ⟨dx, hp⟩, fi, c0, R, qe, qo⟩
    refine iff_ (decide_eq_false (fun e => c0 (by have := V.int.inj e; omega))) ?_
    refine ⟨_, rfl, sa, de.cSt, dx, _, _, rfl, hp, T.cl_Step, T.n_op, stF_op .., rfl, _, rfl, ?_⟩
    by_cases c4 : t.op = 4
    · exact ift (decide_eq_true (by rw [c4]; rfl)) ⟨_, rfl, _, rfl, sa, ru, ca, za, g, t, x, z, fl, rfl, ⟨dx, hp⟩, fi, c4, R, qe, qo⟩
    refine iff_ (decide_eq_false (fun e => c4 (by have := V.int.inj e; omega))) ?_
    refine ⟨_, rfl, sa, de.cSt, dx, _, _, rfl, hp, T.cl_Step, T.n_op, stF_op .., rfl, _, rfl, ?_⟩
    by_cases c9 : t.op = 9
    · exact ift (decide_eq_true (by rw [c9]; rfl)) ⟨_, rfl, _, rfl, sa, ru, ca, za, g, t, x, z, fl, rfl, ⟨dx, hp⟩, fi, c9, R, qe, qo⟩
    refine iff_ (decide_eq_false (fun e => c9 (by have := V.int.inj e; omega))) ?_
    have al : Alone t := ⟨c0, c4, c9, h0⟩
    have d := done_rk (x := x) fi R.oz al
    refine ⟨_, rfl, _, rfl, sa, de.cSt, dx, _, _, rfl, hp, T.cl_Step, T.n_k, stF_k .., _, rfl, _, rfl, ru, de.cCR, dr, _, _, rfl, hru, T.cl_CardRun, T.n_counters, rnF_counters .., sa, za, t, z, rfl, ⟨dx, hp⟩, fi, al, R.ctr, R.oz, ?_⟩
    refine ⟨ru, ca, za, g, t.k, rk t z, x, z, fl, rfl, R, fi.k, fun b => ?_, fun b => ?_⟩
    · exact qe 2 (d.trans (set_bad b)) (by decide) H (Same.refl H)
    · refine qo _ (d.trans (set_ok b)) _ S2.updB ?_ upd_same
      rw [upd_ne R.ne]
      exact R.card
end
end CP
/-! HCalc4 -/
namespace CP
open PySem PySem.Spec PyProof.Rows L2
/-- a calculating punch -/
def cpF (sa pa ka : Addr) : List (Str × V) := [("steps", .ref sa), ("panel", .ref pa), ("kept", .ref ka)]
theorem cpF_steps (sa pa ka : Addr) : (cpF sa pa ka).lookup ("steps" : Str) = some (.ref sa) := lk_here
theorem cpF_panel (sa pa ka : Addr) : (cpF sa pa ka).lookup ("panel" : Str) = some (.ref pa) := (lk_past (by decide +kernel)).trans lk_here
theorem cpF_kept (sa pa ka : Addr) : (cpF sa pa ka).lookup ("kept" : Str) = some (.ref ka) := (lk_past (by decide +kernel)).trans ((lk_past (by decide +kernel)).trans lk_here)
def cpF1 (sa : Addr) : List (Str × V) := [("steps", .ref sa)]
def cpF2 (sa pa : Addr) : List (Str × V) := [("steps", .ref sa), ("panel", .ref pa)]
theorem cpP_1 (sa pa : Addr) : putF "panel" (.ref pa) (cpF1 sa) = cpF2 sa pa := (put_past (by decide +kernel)).trans rfl
theorem cpP_2 (sa pa ka : Addr) : putF "kept" (.ref ka) (cpF2 sa pa) = cpF sa pa ka := (put_past (by decide +kernel)).trans (congrArg _ ((put_past (by decide +kernel)).trans rfl))
theorem cpP_kept (sa pa ka kb : Addr) : putF "kept" (.ref kb) (cpF sa pa ka) = cpF sa pa kb := (put_past (by decide +kernel)).trans (congrArg _ ((put_past (by decide +kernel)).trans (congrArg _ put_here)))
theorem S2.fresh {a b r : Addr} {H H' : Hp} (s : S2 a b H H') (ha : H' a ≠ none) (hb : H' b ≠ none) (n : H' r = none) : H r = none := by
  cases e : H r with
  | none => rfl
  | some o =>
    by_cases c : r = a
    · rw [c] at n; exact absurd n ha
    · by_cases d : r = b
      · rw [d] at n; exact absurd n hb
      · rw [s _ _ e c d] at n; cases n
theorem StepsIn.s2 {de : AdE} {H H' : Hp} {a b : Addr} {xs ys : List V} {as : List Addr} {d : List Pu.Step} (h : StepsIn de H as d) (s : S2 a b H H') (ha : H a = some (.lst xs)) (hb : H b = some (.lst ys)) : StepsIn de H' as d := by
  induction h with
  | nil => exact .nil
  | cons e _ ih => exact .cons (e.s2 s ha hb) ih
section
variable {P : Program} {w : World} {K : PySem.W.Frag} {mg : Str → Option Value} {base : Heap} {ad : Ad} {dd : AdD} {de : AdE}
abbrev s_is_done : Stmt := topS 97
abbrev N_is_done : List Str := ["step", "run", "counter", "holes"]
theorem sc_is_done : FnScope N_is_done ["step", "run"] (defScope s_is_done) := ⟨rfl, rfl, rfl, by decide +kernel, rfl, by decide +kernel, by decide +kernel⟩
def sp_is_done (de : AdE) : Sp := fun vs H Q _ => ∃ (sa ru ca za g : Addr) (t : Pu.Step) (x : Pu.Card) (z : Pu.Counters) (fl : Pu.Flow), vs = [.ref sa, .ref ru] ∧ StepAt de H sa t ∧ FineS t ∧ RunAt de H ru ca za g x z fl ∧ ∀ H', Same H H' → Q (.bl (Pu.isDone t z (fl 0))) H'
theorem ok_is_done {f : Addr} {fd : FuncData} (F : Fun K "is_done" "is_done" s_is_done f fd) (T : TxtE P w K mg ad dd de) (D_machine_gets : Dcl P w K mg base 1 "machine_gets" ["goes", "place"] sp_machine_gets) : FnOk P w K mg base CX0 2 f fd ["step", "run"] (sp_is_done de) := by
  refine F.ok sc_is_done (fun vs H Q E h => ?_) (fun cdv A outer s H vs Q E hr h => ?_)
  · obtain ⟨sa, ru, ca, za, g, t, x, z, fl, rfl, _⟩ := h; rfl
  · obtain ⟨sa, ru, ca, za, g, t, x, z, fl, rfl, ⟨dx, hp0⟩, fi, R, q0⟩ := h
    obtain ⟨dr, hru⟩ := R.ins
    have aj := R.oz.at_ fi.j
    have hw := fi.wh
    refine ⟨_, (pss_cons (ps_set (i := 2) sc_is_done.nd rfl (Or.inl rfl) (pe_ix ix_list (pe_fld (pv 1) rfl) (pe_fld (pv 0) rfl) (fun _ _ => rfl)))
      (pss_cons (ps_set (i := 3) sc_is_done.nd rfl (Or.inl rfl) (pe_call D_machine_gets.ok (hr.mono (by decide)) (by rfl) D_machine_gets.g D_machine_gets.kp D_machine_gets.b .nil pass0 (pa_cons (pe_fld (pv 1) rfl) (pa_cons (pe_fld (pv 0) rfl) pa_nil))))
      (pss_cons (ps_if (pt_cmpR op_eq (pe_fld (pv 0) rfl) (pe_gint (by rfl) T.g_IF_BELOW) (nomark _))
      (pss_one (ps_ret (pe_cmpR op_lt (pv 2) pe_int (nomark _))))
      pss_nil)
      (pss_cons (ps_if (pt_cmpR op_eq (pe_fld (pv 0) rfl) (pe_gint (by rfl) T.g_IF_NOUGHT) (nomark _))
      (pss_one (ps_ret (pe_cmpR op_eq (pv 2) pe_int (nomark _))))
      pss_nil)
      (pss_cons (ps_if (pt_cmpR op_eq (pe_fld (pv 0) rfl) (pe_gint (by rfl) T.g_IF_ABOVE) (nomark _))
      (pss_one (ps_ret (pe_cmpR op_gt (pv 2) pe_int (nomark _))))
      pss_nil)
      (pss_cons (ps_if (pt_cmpR op_eq (pe_fld (pv 0) rfl) (pe_gint (by rfl) T.g_IF_SOMETHING) (nomark _))
      (pss_one (ps_ret (pe_cmpR op_gt (pv 3) pe_int (nomark _))))
      pss_nil)
      (pss_cons (ps_if (pt_cmpR op_eq (pe_fld (pv 0) rfl) (pe_gint (by rfl) T.g_IF_NOTHING) (nomark _))
      (pss_one (ps_ret (pe_cmpR op_eq (pv 3) pe_int (nomark _))))
      pss_nil)
      (pss_one (ps_ret pe_bl))))))))), ?_⟩
    refine ⟨_, rfl, ru, de.cCR, dr, _, _, rfl, hru, T.cl_CardRun, T.n_counters, rnF_counters .., _, rfl, sa, de.cSt, dx, _, _, rfl, hp0, T.cl_Step, T.n_j, stF_j .., za, _, _, _, rfl, rfl, SqL.of R.ctr, at_int aj rfl, ?_⟩
    refine ⟨_, rfl, ru, de.cCR, dr, _, _, rfl, hru, T.cl_CardRun, T.n_goes, rnF_goes .., _, rfl, sa, de.cSt, dx, _, _, rfl, hp0, T.cl_Step, T.n_hub, stF_hub .., g, t.hub, fl, rfl, R.goes, fun H1 s1 => ?_⟩
    have hp := s1 _ _ hp0
    have q := q0 H1 s1
    unfold Pu.isDone at q
    generalize Pu.ctr z t.j = cn at *
    generalize fl 0 t.hub = gn at *
    refine ⟨_, rfl, sa, de.cSt, dx, _, _, rfl, hp, T.cl_Step, T.n_when, stF_when .., rfl, _, rfl, ?_⟩
    by_cases c1 : t.when_ = 1
    · rw [c1] at q
      exact ift (decide_eq_true (by rw [c1]; rfl)) ⟨_, rfl, _, _, rfl, rfl, q⟩
    refine iff_ (decide_eq_false (fun e => c1 (by have := V.int.inj e; omega))) ?_
    refine ⟨_, rfl, sa, de.cSt, dx, _, _, rfl, hp, T.cl_Step, T.n_when, stF_when .., rfl, _, rfl, ?_⟩
    by_cases c2 : t.when_ = 2
    · rw [c2] at q
      refine ift (decide_eq_true (by rw [c2]; rfl)) ⟨_, rfl, rfl, qbl q ?_⟩
      show (cn == 0) = decide (V.int cn = V.int 0)
      by_cases z : cn = 0
      · rw [z]; rfl
      · rw [decide_eq_false (fun e => z (V.int.inj e))]; exact beq_eq_false_iff_ne.mpr z
    refine iff_ (decide_eq_false (fun e => c2 (by have := V.int.inj e; omega))) ?_
    refine ⟨_, rfl, sa, de.cSt, dx, _, _, rfl, hp, T.cl_Step, T.n_when, stF_when .., rfl, _, rfl, ?_⟩
    by_cases c3 : t.when_ = 3
    · rw [c3] at q
      exact ift (decide_eq_true (by rw [c3]; rfl)) ⟨_, rfl, _, _, rfl, rfl, q⟩
    refine iff_ (decide_eq_false (fun e => c3 (by have := V.int.inj e; omega))) ?_
    refine ⟨_, rfl, sa, de.cSt, dx, _, _, rfl, hp, T.cl_Step, T.n_when, stF_when .., rfl, _, rfl, ?_⟩
    by_cases c4 : t.when_ = 4
    · rw [c4] at q
      refine ift (decide_eq_true (by rw [c4]; rfl)) ⟨_, rfl, _, _, rfl, rfl, qbl q ?_⟩
      show (gn != 0) = decide ((0 : Int) < (gn : Int))
      by_cases z : gn = 0
      · rw [z]; rfl
      · rw [decide_eq_true (by omega)]; exact bne_iff_ne.mpr z
    refine iff_ (decide_eq_false (fun e => c4 (by have := V.int.inj e; omega))) ?_
    refine ⟨_, rfl, sa, de.cSt, dx, _, _, rfl, hp, T.cl_Step, T.n_when, stF_when .., rfl, _, rfl, ?_⟩
    by_cases c5 : t.when_ = 5
    · rw [c5] at q
      refine ift (decide_eq_true (by rw [c5]; rfl)) ⟨_, rfl, rfl, qbl q ?_⟩
      show (gn == 0) = decide (V.int (gn : Int) = V.int 0)
      by_cases z : gn = 0
      · rw [z]; rfl
      · rw [decide_eq_false (fun e => z (by have := V.int.inj e; omega))]; exact beq_eq_false_iff_ne.mpr z
    refine iff_ (decide_eq_false (fun e => c5 (by have := V.int.inj e; omega))) ?_
    have c0 : t.when_ = 0 := by omega
    rw [c0] at q
    exact q
abbrev s_CalculatingPunch___init__ : Stmt := inClass (topS 86) 0
abbrev N_CalculatingPunch___init__ : List Str := ["self", "steps", "panel"]
theorem sc_CalculatingPunch___init__ : FnScope N_CalculatingPunch___init__ ["self", "steps", "panel"] (defScope s_CalculatingPunch___init__) := ⟨rfl, rfl, rfl, by decide +kernel, rfl, by decide +kernel, by decide +kernel⟩
def sp_cp_init (de : AdE) : Sp := fun vs H Q _ => ∃ (p sa pa dx : Addr), vs = [.ref p, .ref sa, .ref pa] ∧ H p = some (.ins de.cCP dx []) ∧ ∀ (H' : Hp) (ka : Addr), H' p = some (.ins de.cCP dx (cpF sa pa ka)) → H ka = none → H' ka = some (.lst (Pu.noneKept.map V.int)) → SB p H H' → Q .non H'
theorem ok_cp_init {f : Addr} {fd : FuncData} (F : Fun K "__init__" "CalculatingPunch.__init__" s_CalculatingPunch___init__ f fd) (T : TxtE P w K mg ad dd de) : FnOk P w K mg base CX0 1 f fd ["self", "steps", "panel"] (sp_cp_init de) := by
  refine F.ok sc_CalculatingPunch___init__ (fun vs H Q E h => ?_) (fun cdv A outer s H vs Q E hr h => ?_)
  · obtain ⟨p, sa, pa, dx, rfl, _⟩ := h; rfl
  · obtain ⟨p, sa, pa, dx, rfl, hp, q⟩ := h
    refine ⟨_, (pss_cons (ps_fld (pv 0) (pv 1) rfl)
      (pss_cons (ps_fld (pv 0) (pv 2) rfl)
      (pss_one (ps_fld (pv 0) (pe_op op_rep (pe_lst (pa_cons pe_int pa_nil)) (pe_gint (by rfl) T.g_KEPT)) rfl)))), ?_⟩
    refine ⟨_, rfl, _, rfl, p, de.cCP, dx, _, rfl, hp, T.i_CP.cl, T.n_steps, (by show 0 < 1000; decide), ?_⟩
    have e1 : putF "steps" (.ref sa) ([] : List (Str × V)) = cpF1 sa := rfl
    rw [e1]
    refine ⟨_, rfl, _, rfl, p, de.cCP, dx, _, rfl, upd_same, T.i_CP.cl, T.n_cpanel, (by show 1 < 1000; decide), ?_⟩
    rw [cpP_1]
    have b2 := (SB.upd p H (.ins de.cCP dx (cpF1 sa))).trans (SB.upd p _ (.ins de.cCP dx (cpF2 sa pa)))
    have hp2 : (upd (upd H p (.ins de.cCP dx (cpF1 sa))) p (.ins de.cCP dx (cpF2 sa pa))) p = some (.ins de.cCP dx (cpF2 sa pa)) := upd_same
    generalize upd (upd H p (.ins de.cCP dx (cpF1 sa))) p (.ins de.cCP dx (cpF2 sa pa)) = H2 at *
    refine ⟨(by show 1 ≤ sizeLine; decide), fun l nl => ?_⟩
    have t3 := same_upd (o := .lst [V.int 0]) nl
    refine ⟨l, _, _, rfl, rfl, upd_same, by decide, by decide, (by show 1 * 8 ≤ sizeLine; decide), fun r nr => ?_⟩
    have t4 := same_upd (o := .lst ((List.replicate (Int.toNat 8) [V.int 0]).flatten)) nr
    have hp4 := t4 _ _ (t3 _ _ hp2)
    refine ⟨_, rfl, p, de.cCP, dx, _, rfl, hp4, T.i_CP.cl, T.n_kept, (by show 2 < 1000; decide), ?_⟩
    rw [cpP_2]
    have nrp : r ≠ p := fun e => by rw [e, t3 _ _ hp2] at nr; cases nr
    refine q _ r upd_same (fresh_sb b2 (by rw [hp2]; exact fun z => by cases z) (t3.free nr)) ?_ (b2.trans ((SB.of t3).trans ((SB.of t4).trans (SB.upd p _ _))))
    rw [upd_ne nrp, upd_same]
    rfl
abbrev s_begin_card : Stmt := topS 98
abbrev N_begin_card : List Str := ["punch", "card", "goes"]
theorem sc_begin_card : FnScope N_begin_card ["punch", "card"] (defScope s_begin_card) := ⟨rfl, rfl, rfl, by decide +kernel, rfl, by decide +kernel, by decide +kernel⟩
def sp_begin_card (de : AdE) : Sp := fun vs H Q _ => ∃ (pu c0 sa pa ka dx : Addr) (l : List Pu.Wire) (x : Pu.Card) (kept : List Int), vs = [.ref pu, .ref c0] ∧ H pu = some (.ins de.cCP dx (cpF sa pa ka)) ∧ PanelAt H pa l ∧ H c0 = some (.lst (x.map vN)) ∧ COk x ∧ H ka = some (.lst (kept.map V.int)) ∧ ZOk (Pu.begun kept) ∧ kept.length = 8 ∧
  ∀ (H' : Hp) (ru ca za g : Addr), Same H H' → H ru = none → H ca = none → H za = none → RunAt de H' ru ca za g x (Pu.begun kept) (Pu.flow l x Pu.noSending) → Q (.ref ru) H'
theorem ok_begin_card {f : Addr} {fd : FuncData} (F : Fun K "begin_card" "begin_card" s_begin_card f fd) (T : TxtE P w K mg ad dd de) (D_run_panel : Dcl P w K mg base 4 "run_panel" ["panel", "card", "machine"] (sp_run_panel K)) (D_silent_machine : Dcl P w K mg base 2 "silent_machine" [] sp_silent_machine) (D_CardRun : CDcl P w K mg base 1 de.cCR "CardRun" ["self", "card", "counters", "goes"] (sp_run_init de)) : FnOk P w K mg base CX0 5 f fd ["punch", "card"] (sp_begin_card de) := by
  refine F.ok sc_begin_card (fun vs H Q E h => ?_) (fun cdv A outer s H vs Q E hr h => ?_)
  · obtain ⟨pu, c0, sa, pa, ka, dx, l, x, kept, rfl, _⟩ := h; rfl
  · obtain ⟨pu, c0, sa, pa, ka, dx, l, x, kept, rfl, hpu, hpa, hx, ox, hk, oz, lk8, q⟩ := h
    obtain ⟨ord, hw, pm, tp, so, okl, ll⟩ := hpa
    refine ⟨_, (pss_cons (ps_set (i := 2) sc_begin_card.nd rfl (Or.inl rfl) (pe_call D_run_panel.ok (hr.mono (by decide)) (by rfl) D_run_panel.g D_run_panel.kp D_run_panel.b .nil pass0 (pa_cons (pe_fld (pv 0) rfl) (pa_cons (pv 1) (pa_cons (pe_call0 D_silent_machine.ok (hr.mono (by decide)) (by rfl) D_silent_machine.g D_silent_machine.kp D_silent_machine.b .nil pass0) pa_nil)))))
      (pss_one (ps_ret (pe_make D_CardRun.make D_CardRun.ok (hr.mono (by decide)) (by rfl) D_CardRun.g D_CardRun.b .nil pass0 (pa_cons (pe_callTy call_list_of (by rfl) T.b_list (by decide +kernel) (pa_cons (pv 1) pa_nil)) (pa_cons (pe_op op_cat (pe_op op_rep (pe_lst (pa_cons pe_int pa_nil)) (pe_gint (by rfl) T.g_FIRST_KEPT)) (pe_fld (pv 0) rfl)) (pa_cons (pv 2) pa_nil))))))), ?_⟩
    refine ⟨_, rfl, pu, de.cCP, dx, _, _, rfl, hpu, T.i_CP.cl, T.n_cpanel, cpF_panel .., _, rfl, rfl, fun H1 ma s1 n1 h1 => ?_⟩
    have hw1 : WiresAt H1 pa ord := by
      obtain ⟨as, z1, z2⟩ := hw
      exact ⟨as, s1 _ _ z1, z2.same s1⟩
    have oko : ∀ y ∈ ord, y.ok = true := fun y hy => okl y (pm.mem_iff.mp hy)
    refine ⟨pa, c0, ma, ord, x, List.replicate 256 0, rfl, hw1, by rw [pm.length_eq]; exact ll, oko, SqL.of (s1 _ _ hx), ox.1, ox.2, SqL.of h1, by decide, fun h hh => by rw [(List.mem_replicate.mp hh).2]; decide, fun H2 g s2 hg => ?_⟩
    have ef : goesL x (List.replicate 256 0) ord = Pu.flow l x Pu.noSending := by
      funext a c
      unfold Pu.noSending
      rw [flow_is so pm tp okl, goesL_frm (x := x) (f1 := List.replicate 256 0) (f2 := []) (fun k => by rw [rep_getD]; rfl) ord]
    rw [ef] at hg
    have s12 := s1.trans s2
    have hx2 := s12 _ _ hx
    refine ⟨_, rfl, c0, _, rfl, .inl (SqL.of hx2), fun ca nca => ?_⟩
    have t3 := same_upd (o := .lst (x.map vN)) nca
    refine ⟨(by show 1 ≤ sizeLine; decide), fun l0 nl0 => ?_⟩
    have t4 := same_upd (o := .lst [V.int 0]) nl0
    refine ⟨l0, _, _, rfl, rfl, upd_same, by decide, by decide, (by show 1 * 8 ≤ sizeLine; decide), fun r8 nr8 => ?_⟩
    have t5 := same_upd (o := .lst ((List.replicate (Int.toNat 8) [V.int 0]).flatten)) nr8
    have s5 := s12.trans (t3.trans (t4.trans t5))
    refine ⟨_, rfl, pu, de.cCP, dx, _, _, rfl, s5 _ _ hpu, T.i_CP.cl, T.n_kept, cpF_kept .., r8, ka, _, _, rfl, rfl, upd_same, s5 _ _ hk, ?_, fun za nza => ?_⟩
    · rw [List.length_map, lk8]
      show 8 + 8 ≤ sizeLine
      decide
    have ez : (List.replicate (Int.toNat 8) [V.int 0]).flatten ++ kept.map V.int = (Pu.begun kept).map V.int := by
      unfold Pu.begun; rw [List.map_append]; rfl
    rw [ez]
    have t6 := same_upd (o := .lst ((Pu.begun kept).map V.int)) nza
    have s6 := s5.trans t6
    refine ⟨_, rfl, ?_⟩
    intro ru dy nru ndy ney
    refine ⟨ru, ca, za, g, dy, rfl, upd_same, fun H7 h7 sb7 => ⟨rfl, ?_⟩⟩
    have s7 : Same _ H7 := Same.made nru ndy sb7
    refine q H7 ru ca za g (s6.trans s7) (s6.free nru) (s12.free nca) (s5.free nza) ⟨⟨dy, h7⟩, ?_, s7 _ _ upd_same, ((((hg.same t3).same t4).same t5).same t6).same s7, ox, oz⟩
    exact s7 _ _ (t6 _ _ (t5 _ _ (t4 _ _ upd_same)))
abbrev s_keep_counters : Stmt := topS 100
abbrev N_keep_counters : List Str := ["punch", "run"]
theorem sc_keep_counters : FnScope N_keep_counters ["punch", "run"] (defScope s_keep_counters) := ⟨rfl, rfl, rfl, by decide +kernel, rfl, by decide +kernel, by decide +kernel⟩
def sp_keep (de : AdE) : Sp := fun vs H Q _ => ∃ (pu ru sa pa ka dx ca za g : Addr) (x : Pu.Card) (z : Pu.Counters) (fl : Pu.Flow), vs = [.ref pu, .ref ru] ∧ H pu = some (.ins de.cCP dx (cpF sa pa ka)) ∧ RunAt de H ru ca za g x z fl ∧ ∀ r, H r = none → Q .non (upd (upd H r (.lst ((z.drop 8).map V.int))) pu (.ins de.cCP dx (cpF sa pa r)))
theorem ok_keep_counters {f : Addr} {fd : FuncData} (F : Fun K "keep_counters" "keep_counters" s_keep_counters f fd) (T : TxtE P w K mg ad dd de) : FnOk P w K mg base CX0 1 f fd ["punch", "run"] (sp_keep de) := by
  refine F.ok sc_keep_counters (fun vs H Q E h => ?_) (fun cdv A outer s H vs Q E hr h => ?_)
  · obtain ⟨pu, ru, sa, pa, ka, dx, ca, za, g, x, z, fl, rfl, _⟩ := h; rfl
  · obtain ⟨pu, ru, sa, pa, ka, dx, ca, za, g, x, z, fl, rfl, hpu, R, q⟩ := h
    obtain ⟨dr, hru⟩ := R.ins
    refine ⟨_, (pss_one (ps_fld (pv 0) (pe_slice sl_list (pe_fld (pv 1) rfl) (po_some (pe_gint (by rfl) T.g_FIRST_KEPT)) po_none) rfl)), ?_⟩
    refine ⟨_, rfl, ru, de.cCR, dr, _, _, rfl, hru, T.cl_CardRun, T.n_counters, rnF_counters .., _, rfl, za, _, rfl, SqL.of R.ctr, fun r nr => ?_⟩
    have ec : cutV (z.map V.int) (some 8) none = (z.drop 8).map V.int := by
      rw [cut_from (xs := z.map V.int) (z := 8) (i := 8) (by rw [List.length_map, R.oz.len]; decide) rfl, List.map_drop]
    rw [ec]
    have t1 := same_upd (o := .lst ((z.drop 8).map V.int)) nr
    refine ⟨_, rfl, pu, de.cCP, dx, _, rfl, t1 _ _ hpu, T.i_CP.cl, T.n_kept, (by show 3 < 1000; decide), ?_⟩
    rw [cpP_kept]
    exact q r nr
end
end CP
/-! HCalc5 -/
namespace CP
open PySem PySem.Spec PyProof.Rows L2
section
variable {P : Program} {w : World} {K : PySem.W.Frag} {mg : Str → Option Value} {base : Heap} {ad : Ad} {dd : AdD} {de : AdE}
abbrev s_run_steps : Stmt := topS 99
abbrev N_run_steps : List Str := ["steps", "run", "place", "step", "skipped", "wrong"]
theorem sc_run_steps : FnScope N_run_steps ["steps", "run"] (defScope s_run_steps) := ⟨rfl, rfl, rfl, by decide +kernel, rfl, by decide +kernel, by decide +kernel⟩
def sp_run_steps (de : AdE) : Sp := fun vs H Q _ => ∃ (sa ru ca za g : Addr) (p : List Pu.Step) (x : Pu.Card) (z : Pu.Counters) (fl : Pu.Flow), vs = [.ref sa, .ref ru] ∧ StepsAt de H sa p ∧ (∀ t ∈ p, t.fine = true) ∧ p.length ≤ 64 ∧ sa ≠ ca ∧ sa ≠ za ∧ RunAt de H ru ca za g x z fl ∧
  (∀ e i : Nat, Pu.runSteps (fl 0) 0 0 p x z = .error (e, i) → ∀ H' r, S2 ca za H H' → H r = none → H' r = some (.lst [.int (e : Int), .int (i : Int)]) → Q (.ref r) H') ∧
  (∀ y, Pu.runSteps (fl 0) 0 0 p x z = .ok y → ∀ H' r, S2 ca za H H' → H r = none → H' r = some (.lst []) → RunAt de H' ru ca za g y.1 y.2 fl → Q (.ref r) H')
theorem ok_run_steps {f : Addr} {fd : FuncData} (F : Fun K "run_steps" "run_steps" s_run_steps f fd) (T : TxtE P w K mg ad dd de) (D_is_done : Dcl P w K mg base 2 "is_done" ["step", "run"] (sp_is_done de)) (D_do_step : Dcl P w K mg base 4 "do_step" ["step", "run"] (sp_do de fun t => t.op ≠ 10)) : FnOk P w K mg base CX0 5 f fd ["steps", "run"] (sp_run_steps de) := by
  refine F.ok sc_run_steps (fun vs H Q E h => ?_) (fun cdv A outer s H vs Q E hr h => ?_)
  · obtain ⟨sa, ru, ca, za, g, p, x, z, fl, rfl, _⟩ := h; rfl
  · obtain ⟨sa, ru, ca, za, g, p, x, z, fl, rfl, ⟨as, hsa, si⟩, fp, lp, nc, nz, R, qe, qo⟩ := h
    have lsi := si.len
    refine ⟨_, (pss_cons (ps_set (i := 2) sc_run_steps.nd rfl (Or.inl rfl) pe_int)
      (pss_cons (ps_while PassesOwn.never (pt_cmpR op_lt (pv 2) (pe_callB call_len_seq (by rfl) T.b_len PySem.boot_len (pa_cons (pv 0) pa_nil)) (nomark _))
      (pss_cons (ps_set (i := 3) sc_run_steps.nd rfl (Or.inl rfl) (pe_ix ix_list (pv 0) (pv 2) (fun _ _ => rfl)))
      (pss_cons (ps_set (i := 4) sc_run_steps.nd rfl (Or.inl rfl) pe_int)
      (pss_cons (ps_if (pt_val (pe_call D_is_done.ok (hr.mono (by decide)) (by rfl) D_is_done.g D_is_done.kp D_is_done.b .nil pass0 (pa_cons (pv 3) (pa_cons (pv 1) pa_nil))))
      (pss_one (ps_if (pt_cmpR op_eq (pe_fld (pv 3) rfl) (pe_gint (by rfl) T.g_SKIP) (nomark _))
      (pss_one (ps_set (i := 4) sc_run_steps.nd rfl (Or.inl rfl) (pe_fld (pv 3) rfl)))
      (pss_cons (ps_set (i := 5) sc_run_steps.nd rfl (Or.inl rfl) (pe_call D_do_step.ok (hr.mono (by decide)) (by rfl) D_do_step.g D_do_step.kp D_do_step.b .nil pass0 (pa_cons (pv 3) (pa_cons (pv 1) pa_nil))))
      (pss_one (ps_if (pt_cmpR op_gt (pv 5) pe_int (nomark _))
      (pss_one (ps_ret (pe_lst (pa_cons (pv 5) (pa_cons (pv 2) pa_nil)))))
      pss_nil)))))
      pss_nil)
      (pss_one (ps_aug (i := 2) sc_run_steps.nd rfl (Or.inl rfl) (pe_op op_add pe_int (pv 4)) ip_add))))))
      (pss_one (ps_ret (pe_lst pa_nil))))), ?_⟩
    refine while_by (fun σ H' => ∃ (i : Nat) (v3 v4 v5 : Option V) (x' : Pu.Card) (z' : Pu.Counters), σ = [some (.ref sa), some (.ref ru), some (.int (i : Int)), v3, v4, v5] ∧ S2 ca za H H' ∧ RunAt de H' ru ca za g x' z' fl ∧ Pu.runSteps (fl 0) 0 0 p x z = Pu.runSteps (fl 0) i 0 (p.drop i) x' z') (fun σ H' => p.length - (slotI σ 2).toNat) ?_ ?_ ?_
    · exact ⟨0, none, none, none, x, z, rfl, S2.refl _ _ _, R, rfl⟩
    · rintro σ H' ⟨i, v3, v4, v5, x', z', rfl, s2, R', inv⟩
      have hsa' := s2 _ _ hsa nc nz
      have si' := si.s2 s2 R.card R.ctr
      refine ⟨_, rfl, _, rfl, sa, _, rfl, .inl (SqL.of hsa'), _, _, rfl, rfl, _, rfl, ?_⟩
      by_cases c : i < p.length
      · refine ift (decide_eq_true (by rw [List.length_map, lsi]; omega)) ?_
        have hpi : p[i]? = some p[i] := List.getElem?_eq_getElem c
        have edr : p.drop i = p[i] :: p.drop (i + 1) := List.drop_eq_getElem_cons c
        have fi := fine_is (fp _ (List.getElem_mem c))
        generalize p[i] = t at *
        obtain ⟨sp, e1, hst⟩ := si'.get hpi
        rw [edr] at inv
        obtain ⟨dx, hp⟩ := hst
        refine ⟨_, rfl, _, rfl, sa, _, _, _, rfl, rfl, SqL.of hsa', at_ref e1 rfl, ?_⟩
        refine ⟨_, rfl, _, rfl, sp, ru, ca, za, g, t, x', z', fl, rfl, ⟨dx, hp⟩, fi, R', fun H1 s1 => ⟨_, rfl, ?_⟩⟩
        have s21 := s2.trans (S2.of s1)
        have R1 := R'.same s1
        have hp1 := s1 _ _ hp
        cases hd : Pu.isDone t z' (fl 0) with
        | false =>
          rw [run_not hd] at inv
          refine iff_ rfl ?_
          refine ⟨_, rfl, _, rfl, _, _, rfl, rfl, _, _, rfl, rfl, ⟨i + 1, some (.ref sp), some (.int 0), v5, x', z', ?_, s21, R1, inv⟩, ?_⟩
          · show [_, _, some (V.int ((i : Int) + (1 + 0))), _, _, _] = _
            rw [show (i : Int) + (1 + 0) = ((i + 1 : Nat) : Int) by omega]
          · show p.length - ((i : Int) + (1 + 0)).toNat < p.length - ((i : Int)).toNat
            omega
        | true =>
          refine ift rfl ?_
          refine ⟨_, rfl, sp, de.cSt, dx, _, _, rfl, hp1, T.cl_Step, T.n_op, stF_op .., rfl, _, rfl, ?_⟩
          by_cases c10 : t.op = 10
          · refine ift (decide_eq_true (by rw [c10]; rfl)) ?_
            rw [run_ok hd (done_ten c10), if_pos c10, List.drop_drop] at inv
            refine ⟨_, rfl, sp, de.cSt, dx, _, _, rfl, hp1, T.cl_Step, T.n_s, stF_s .., ?_⟩
            refine ⟨_, rfl, _, rfl, _, _, rfl, rfl, _, _, rfl, rfl, ⟨i + 1 + t.s, some (.ref sp), some (.int (t.s : Int)), v5, x', z', ?_, s21, R1, inv⟩, ?_⟩
            · show [_, _, some (V.int ((i : Int) + (1 + (t.s : Int)))), _, _, _] = _
              rw [show (i : Int) + (1 + (t.s : Int)) = ((i + 1 + t.s : Nat) : Int) by omega]
            · show p.length - ((i : Int) + (1 + (t.s : Int))).toNat < p.length - ((i : Int)).toNat
              omega
          · refine iff_ (decide_eq_false (fun e => c10 (by have := V.int.inj e; omega))) ?_
            refine ⟨_, rfl, _, rfl, sp, ru, ca, za, g, t, x', z', fl, rfl, ⟨dx, hp1⟩, fi, c10, R1, fun e he e1 H2 s3 => ?_, fun y hy H2 s3 hc hz => ?_⟩
            · rw [run_err hd he] at inv
              refine ⟨_, rfl, _, _, rfl, rfl, _, rfl, ift (decide_eq_true (by show (0 : Int) < (e : Int); omega)) ?_⟩
              refine ⟨_, rfl, _, rfl, (by show 2 ≤ sizeLine; decide), fun r nr => ?_⟩
              have sA := s21.trans (S2.of s3)
              have t4 := same_upd (o := .lst [V.int (e : Int), V.int (i : Int)]) nr
              have R2 := R1.same s3
              have R2c : H2 ca ≠ none := by rw [R2.card]; exact fun z => by cases z
              have R2z : H2 za ≠ none := by rw [R2.ctr]; exact fun z => by cases z
              exact qe e i inv _ r (sA.trans (S2.of t4)) (sA.fresh R2c R2z nr) upd_same
            · rw [run_ok hd hy, if_neg c10, List.drop_zero, Nat.add_zero] at inv
              obtain ⟨oy1, oy2⟩ := done_ok fi R1.ox R1.oz hy
              have R2 := R1.step s3 hc hz oy1 oy2
              refine ⟨_, rfl, _, _, rfl, rfl, _, rfl, iff_ (decide_eq_false (by decide)) ?_⟩
              refine ⟨_, rfl, _, rfl, _, _, rfl, rfl, _, _, rfl, rfl, ⟨i + 1, some (.ref sp), some (.int 0), some (.int 0), y.1, y.2, ?_, s21.trans s3, R2, inv⟩, ?_⟩
              · show [_, _, some (V.int ((i : Int) + (1 + 0))), _, _, _] = _
                rw [show (i : Int) + (1 + 0) = ((i + 1 : Nat) : Int) by omega]
              · show p.length - ((i : Int) + (1 + 0)).toNat < p.length - ((i : Int)).toNat
                omega
      · refine iff_ (decide_eq_false (by rw [List.length_map, lsi]; omega)) ?_
        rw [List.drop_eq_nil_iff.mpr (by omega)] at inv
        refine ⟨Nat.zero_le _, fun r nr => ?_⟩
        have t4 := same_upd (o := .lst []) nr
        exact qo (x', z') inv _ r (s2.trans (S2.of t4)) (s2.fresh (by rw [R'.card]; exact fun z => by cases z) (by rw [R'.ctr]; exact fun z => by cases z) nr) upd_same (R'.same t4)
    · rintro σ H1 Q1 Q2 hq ⟨u1, e1, u2, e2, u3, u4, e3, e4, u5, u6, e5, e6, u7, e7, z⟩
      exact ⟨u1, e1, u2, e2, u3, u4, e3, e4, u5, u6, e5, e6, u7, e7, hq _ _ z⟩
end
end CP
/-! HRep -/
namespace CP
open PySem PySem.Spec PyProof.Rows L2
/-- a reproducing punch -/
def rpF (pa qa : Addr) : List (Str × V) := [("panel", .ref pa), ("last_card", .ref qa)]
theorem rpF_panel (pa qa : Addr) : (rpF pa qa).lookup ("panel" : Str) = some (.ref pa) := lk_here
theorem rpF_last (pa qa : Addr) : (rpF pa qa).lookup ("last_card" : Str) = some (.ref qa) := (lk_past (by decide +kernel)).trans lk_here
def rpF1 (pa : Addr) : List (Str × V) := [("panel", .ref pa)]
theorem rpP_1 (pa qa : Addr) : putF "last_card" (.ref qa) (rpF1 pa) = rpF pa qa := (put_past (by decide +kernel)).trans rfl
theorem rpP_last (pa qa ra : Addr) : putF "last_card" (.ref ra) (rpF pa qa) = rpF pa ra := (put_past (by decide +kernel)).trans (congrArg _ put_here)
def difP (g : Nat → Nat) (k : Nat) : Bool := g (96 + k) != g (176 + k)
theorem differ_is (g : Nat → Nat) : Pu.differ g = ((List.range 80).drop 0).find? (difP g) := rfl
theorem range_drop {i : Nat} (h : i < 80) : (List.range 80).drop i = i :: (List.range 80).drop (i + 1) := by
  rw [List.drop_eq_getElem_cons (by rw [List.length_range]; exact h), List.getElem_range]
section
variable {P : Program} {w : World} {K : PySem.W.Frag} {mg : Str → Option Value} {base : Heap} {ad : Ad} {dd : AdD} {de : AdE}
abbrev s_ReproducingPunch___init__ : Stmt := inClass (topS 136) 0
abbrev N_ReproducingPunch___init__ : List Str := ["self", "panel"]
theorem sc_ReproducingPunch___init__ : FnScope N_ReproducingPunch___init__ ["self", "panel"] (defScope s_ReproducingPunch___init__) := ⟨rfl, rfl, rfl, by decide +kernel, rfl, by decide +kernel, by decide +kernel⟩
def sp_rp_init (de : AdE) : Sp := fun vs H Q _ => ∃ (p pa dx : Addr), vs = [.ref p, .ref pa] ∧ H p = some (.ins de.cRP dx []) ∧ ∀ (H' : Hp) (qa : Addr), H' p = some (.ins de.cRP dx (rpF pa qa)) → H qa = none → H' qa = some (.lst (Pu.blankCard.map vN)) → SB p H H' → Q .non H'
theorem ok_rp_init {f : Addr} {fd : FuncData} (F : Fun K "__init__" "ReproducingPunch.__init__" s_ReproducingPunch___init__ f fd) (T : TxtE P w K mg ad dd de) (D_blank_card : Dcl P w K mg base 1 "blank_card" [] sp_blank_card) : FnOk P w K mg base CX0 2 f fd ["self", "panel"] (sp_rp_init de) := by
  refine F.ok sc_ReproducingPunch___init__ (fun vs H Q E h => ?_) (fun cdv A outer s H vs Q E hr h => ?_)
  · obtain ⟨p, pa, dx, rfl, _⟩ := h; rfl
  · obtain ⟨p, pa, dx, rfl, hp, q⟩ := h
    refine ⟨_, (pss_cons (ps_fld (pv 0) (pv 1) rfl)
      (pss_one (ps_fld (pv 0) (pe_call0 D_blank_card.ok (hr.mono (by decide)) (by rfl) D_blank_card.g D_blank_card.kp D_blank_card.b .nil pass0) rfl))), ?_⟩
    refine ⟨_, rfl, _, rfl, p, de.cRP, dx, _, rfl, hp, T.i_RP.cl, T.n_rpanel, (by show 0 < 1000; decide), ?_⟩
    have e1 : putF "panel" (.ref pa) ([] : List (Str × V)) = rpF1 pa := rfl
    rw [e1]
    have b1 := SB.upd p H (.ins de.cRP dx (rpF1 pa))
    have hp1 : (upd H p (.ins de.cRP dx (rpF1 pa))) p = some (.ins de.cRP dx (rpF1 pa)) := upd_same
    generalize upd H p (.ins de.cRP dx (rpF1 pa)) = H1 at *
    refine ⟨rfl, fun H2 qa s2 n2 h2 => ?_⟩
    refine ⟨_, rfl, p, de.cRP, dx, _, rfl, s2 _ _ hp1, T.i_RP.cl, T.n_last, (by show 1 < 1000; decide), ?_⟩
    rw [rpP_1]
    have nqp : qa ≠ p := fun e => by rw [e, hp1] at n2; cases n2
    refine q _ qa upd_same (fresh_sb b1 (by rw [hp1]; exact fun z => by cases z) n2) ?_ (b1.trans ((SB.of s2).trans (SB.upd p _ _)))
    rw [upd_ne nqp]
    exact h2
abbrev s_run_pair : Stmt := topS 137
abbrev N_run_pair : List Str := ["punch", "source", "card"]
theorem sc_run_pair : FnScope N_run_pair ["punch", "source", "card"] (defScope s_run_pair) := ⟨rfl, rfl, rfl, by decide +kernel, rfl, by decide +kernel, by decide +kernel⟩
def sp_run_pair (de : AdE) : Sp := fun vs H Q _ => ∃ (pu ra ca pa qa dx : Addr) (l : List Pu.Wire) (r p q : Pu.Card), vs = [.ref pu, .ref ra, .ref ca] ∧ H pu = some (.ins de.cRP dx (rpF pa qa)) ∧ PanelAt H pa l ∧ H qa = some (.lst (q.map vN)) ∧ COk q ∧ H ra = some (.lst (r.map vN)) ∧ COk r ∧ H ca = some (.lst (p.map vN)) ∧ COk p ∧
  ∀ (H' : Hp) (g : Addr), Same H H' → GoesAt H' g (Pu.flow l r (Pu.sentBy q p)) → Q (.ref g) H'
theorem ok_run_pair {f : Addr} {fd : FuncData} (F : Fun K "run_pair" "run_pair" s_run_pair f fd) (T : TxtE P w K mg ad dd de) (D_run_panel : Dcl P w K mg base 4 "run_panel" ["panel", "card", "machine"] (sp_run_panel K)) (D_machine_sending : Dcl P w K mg base 1 "machine_sending" ["holes"] sp_machine_sending) : FnOk P w K mg base CX0 5 f fd ["punch", "source", "card"] (sp_run_pair de) := by
  refine F.ok sc_run_pair (fun vs H Q E h => ?_) (fun cdv A outer s H vs Q E hr h => ?_)
  · obtain ⟨pu, ra, ca, pa, qa, dx, l, r, p, q, rfl, _⟩ := h; rfl
  · obtain ⟨pu, ra, ca, pa, qa, dx, l, r, p, q, rfl, hpu, ⟨ord, hw, pm, tp, so, okl, ll⟩, hq, oq, hr', orr, hp, op, k⟩ := h
    have lq := oq.1
    have lp := op.1
    refine ⟨_, (pss_one (ps_ret (pe_call D_run_panel.ok (hr.mono (by decide)) (by rfl) D_run_panel.g D_run_panel.kp D_run_panel.b .nil pass0 (pa_cons (pe_fld (pv 0) rfl) (pa_cons (pv 1) (pa_cons (pe_call D_machine_sending.ok (hr.mono (by decide)) (by rfl) D_machine_sending.g D_machine_sending.kp D_machine_sending.b .nil pass0 (pa_cons (pe_op op_cat (pe_fld (pv 0) rfl) (pv 2)) pa_nil)) pa_nil)))))), ?_⟩
    refine ⟨_, rfl, pu, de.cRP, dx, _, _, rfl, hpu, T.i_RP.cl, T.n_rpanel, rpF_panel .., _, rfl, _, rfl, pu, de.cRP, dx, _, _, rfl, hpu, T.i_RP.cl, T.n_last, rpF_last .., _, rfl, qa, ca, _, _, rfl, rfl, hq, hp, ?_, fun r1 n1 => ?_⟩
    · rw [List.length_map, List.length_map, lq, lp]; decide
    have t1 := same_upd (o := .lst (q.map vN ++ p.map vN)) n1
    refine ⟨r1, q ++ p, rfl, by rw [upd_same, List.map_append], by rw [List.length_append, lq, lp]; decide, fun H2 ma s2 n2 h2 => ?_⟩
    have s12 := t1.trans s2
    have hw1 : WiresAt H2 pa ord := by
      obtain ⟨as, z1, z2⟩ := hw
      exact ⟨as, s12 _ _ z1, z2.same s12⟩
    have oko : ∀ y ∈ ord, y.ok = true := fun y hy => okl y (pm.mem_iff.mp hy)
    have e96 : 256 - (q ++ p).length = 96 := by rw [List.length_append, lq, lp]
    rw [e96] at h2
    refine ⟨pa, ra, ma, ord, r, q ++ p ++ List.replicate 96 0, rfl, hw1, by rw [pm.length_eq]; exact ll, oko, SqL.of (s12 _ _ hr'), orr.1, orr.2, SqL.of h2, by rw [List.length_append, List.length_append, lq, lp, List.length_replicate], fun h hh => ?_, fun H3 g s3 hg => ?_⟩
    · rw [List.mem_append, List.mem_append] at hh
      rcases hh with (hh | hh) | hh
      · exact oq.2 h hh
      · exact op.2 h hh
      · rw [(List.mem_replicate.mp hh).2]; decide
    have ef : goesL r (q ++ p ++ List.replicate 96 0) ord = Pu.flow l r (Pu.sentBy q p) := by
      funext a c
      rw [flow_is so pm tp okl, goesL_frm (x := r) (f1 := q ++ p ++ List.replicate 96 0) (f2 := Pu.sentBy q p) (sentBy_getD oq op) ord]
    rw [ef] at hg
    exact k H3 g (s12.trans s3) hg
abbrev s_place_that_differs : Stmt := topS 138
abbrev N_place_that_differs : List Str := ["goes", "k"]
theorem sc_place_that_differs : FnScope N_place_that_differs ["goes"] (defScope s_place_that_differs) := ⟨rfl, rfl, rfl, by decide +kernel, rfl, by decide +kernel, by decide +kernel⟩
def sp_differs : Sp := fun vs H Q _ => ∃ (g : Addr) (t : Pu.Flow), vs = [.ref g] ∧ GoesAt H g t ∧ ∀ H', Same H H' → Q (oN (Pu.differ (t 0))) H'
theorem ok_place_that_differs {f : Addr} {fd : FuncData} (F : Fun K "place_that_differs" "place_that_differs" s_place_that_differs f fd) (T : TxtE P w K mg ad dd de) (D_machine_gets : Dcl P w K mg base 1 "machine_gets" ["goes", "place"] sp_machine_gets) : FnOk P w K mg base CX0 2 f fd ["goes"] sp_differs := by
  refine F.ok sc_place_that_differs (fun vs H Q E h => ?_) (fun cdv A outer s H vs Q E hr h => ?_)
  · obtain ⟨g, t, rfl, _⟩ := h; rfl
  · obtain ⟨g, t, rfl, hg, q⟩ := h
    refine ⟨_, (pss_cons (ps_for PassesOwn.never rfl (pi_range1 rfl T.b_range (pa_cons (pe_op op_sub (pe_gint (by rfl) T.g_FIRST_COMPARED_WITH) (pe_gint (by rfl) T.g_FIRST_COMPARED)) pa_nil)) (pg_name (i := 1) sc_place_that_differs.nd rfl (Or.inl rfl))
      (pss_one (ps_if (pt_cmpR op_ne (pe_call D_machine_gets.ok (hr.mono (by decide)) (by rfl) D_machine_gets.g D_machine_gets.kp D_machine_gets.b .nil pass0 (pa_cons (pv 0) (pa_cons (pe_op op_add (pe_gint (by rfl) T.g_FIRST_COMPARED) (pv 1)) pa_nil))) (pe_call D_machine_gets.ok (hr.mono (by decide)) (by rfl) D_machine_gets.g D_machine_gets.kp D_machine_gets.b .nil pass0 (pa_cons (pv 0) (pa_cons (pe_op op_add (pe_gint (by rfl) T.g_FIRST_COMPARED_WITH) (pv 1)) pa_nil))) (nomark _))
      (pss_one (ps_ret (pv 1)))
      pss_nil)))
      (pss_one (ps_ret pe_non))), ?_⟩
    refine ⟨_, _, rfl, rfl, 80, rfl, by decide, by decide, ?_⟩
    refine for_range (lo := 0) (n := 80) (fun i σ H' => ∃ v1, σ = [some (.ref g), v1] ∧ Same H H' ∧ Pu.differ (t 0) = ((List.range 80).drop i).find? (difP (t 0))) ⟨none, rfl, Same.refl H, differ_is _⟩ ?_ ?_
    · rintro i σ H' hi ⟨v1, rfl, sm, inv⟩
      rw [range_drop hi, List.find?_cons] at inv
      refine ⟨_, rfl, _, rfl, _, _, rfl, rfl, g, 96 + i, t, by show [V.ref g, V.int (96 + (0 + (i : Int)))] = _; rw [show (96 + (0 + (i : Int))) = ((96 + i : Nat) : Int) by omega], hg.same sm, fun H1 s1 => ?_⟩
      have sm1 := sm.trans s1
      refine ⟨_, rfl, _, rfl, _, _, rfl, rfl, g, 176 + i, t, by show [V.ref g, V.int (176 + (0 + (i : Int)))] = _; rw [show (176 + (0 + (i : Int))) = ((176 + i : Nat) : Int) by omega], hg.same sm1, fun H2 s2 => ?_⟩
      have sm2 := sm1.trans s2
      refine ⟨rfl, _, rfl, ?_⟩
      by_cases c : t 0 (96 + i) = t 0 (176 + i)
      · refine iff_ ?_ ?_
        · rw [decide_eq_true (by rw [c])]; rfl
        · refine ⟨some (.int (0 + (i : Int))), rfl, sm2, ?_⟩
          have : difP (t 0) i = false := by unfold difP; rw [c]; exact bne_self_eq_false _
          rw [this] at inv
          exact inv
      · refine ift ?_ ⟨_, rfl, ?_⟩
        · rw [decide_eq_false (fun e => c (by have := V.int.inj e; omega))]; rfl
        · have : difP (t 0) i = true := bne_iff_ne.mpr c
          rw [this] at inv
          have qq := q H2 sm2
          rw [inv] at qq
          exact qint qq (by show (i : Int) = 0 + (i : Int); omega)
    · rintro σ H' ⟨v1, rfl, sm, inv⟩
      have qq := q H' sm
      rw [inv, List.drop_eq_nil_iff.mpr (by rw [List.length_range]; exact Nat.le_refl _)] at qq
      exact qq
abbrev s_stops_behind : Stmt := topS 139
abbrev N_stops_behind : List Str := ["goes"]
theorem sc_stops_behind : FnScope N_stops_behind ["goes"] (defScope s_stops_behind) := ⟨rfl, rfl, rfl, by decide +kernel, rfl, by decide +kernel, by decide +kernel⟩
def sp_stops : Sp := fun vs H Q _ => ∃ (g : Addr) (t : Pu.Flow), vs = [.ref g] ∧ GoesAt H g t ∧ ∀ H', Same H H' → Q (.bl (t 0 80 != 0)) H'
theorem ok_stops_behind {f : Addr} {fd : FuncData} (F : Fun K "stops_behind" "stops_behind" s_stops_behind f fd) (T : TxtE P w K mg ad dd de) (D_machine_gets : Dcl P w K mg base 1 "machine_gets" ["goes", "place"] sp_machine_gets) : FnOk P w K mg base CX0 2 f fd ["goes"] sp_stops := by
  refine F.ok sc_stops_behind (fun vs H Q E h => ?_) (fun cdv A outer s H vs Q E hr h => ?_)
  · obtain ⟨g, t, rfl, _⟩ := h; rfl
  · obtain ⟨g, t, rfl, hg, q⟩ := h
    refine ⟨_, (pss_one (ps_ret (pe_cmpR op_gt (pe_call D_machine_gets.ok (hr.mono (by decide)) (by rfl) D_machine_gets.g D_machine_gets.kp D_machine_gets.b .nil pass0 (pa_cons (pv 0) (pa_cons (pe_gint (by rfl) T.g_STOP) pa_nil))) pe_int (nomark _)))), ?_⟩
    refine ⟨_, rfl, g, 80, t, rfl, hg, fun H1 s1 => ⟨_, _, rfl, rfl, qbl (q H1 s1) ?_⟩⟩
    generalize t 0 80 = n
    by_cases c : n = 0
    · rw [c]; rfl
    · rw [decide_eq_true (by omega)]; exact bne_iff_ne.mpr c
abbrev s_punch_card : Stmt := topS 140
abbrev N_punch_card : List Str := ["punch", "card", "goes", "punched", "k"]
theorem sc_punch_card : FnScope N_punch_card ["punch", "card", "goes"] (defScope s_punch_card) := ⟨rfl, rfl, rfl, by decide +kernel, rfl, by decide +kernel, by decide +kernel⟩
def sp_punch_card (de : AdE) : Sp := fun vs H Q _ => ∃ (pu ca g pa qa dx : Addr) (p : Pu.Card) (t : Pu.Flow), vs = [.ref pu, .ref ca, .ref g] ∧ H pu = some (.ins de.cRP dx (rpF pa qa)) ∧ H ca = some (.lst (p.map vN)) ∧ COk p ∧ GoesAt H g t ∧
  ∀ (H1 : Hp) (r : Addr), Same H H1 → H r = none → H1 r = some (.lst ((Pu.becomes p (t 0)).map vN)) → Q (.ref r) (upd H1 pu (.ins de.cRP dx (rpF pa r)))
theorem ok_punch_card {f : Addr} {fd : FuncData} (F : Fun K "punch_card" "punch_card" s_punch_card f fd) (T : TxtE P w K mg ad dd de) (D_machine_gets : Dcl P w K mg base 1 "machine_gets" ["goes", "place"] sp_machine_gets) : FnOk P w K mg base CX0 2 f fd ["punch", "card", "goes"] (sp_punch_card de) := by
  refine F.ok sc_punch_card (fun vs H Q E h => ?_) (fun cdv A outer s H vs Q E hr h => ?_)
  · obtain ⟨pu, ca, g, pa, qa, dx, p, t, rfl, _⟩ := h; rfl
  · obtain ⟨pu, ca, g, pa, qa, dx, p, t, rfl, hpu, hp, op, hg, q⟩ := h
    have lp := op.1
    refine ⟨_, (pss_cons (ps_setLc (i := 3) (own := [("k", 4)]) (g := gName 4) (tt := tYes) (te := tOp (rI0 fun i j => V.int (Builtin.bitOr i j)) (tOp (rIxL K) (tVar 1) (tVar 4)) (tCall sp_machine_gets [] E0 (tCons (tVar 2) (tCons (tVar 4) tNil)))) (by rfl) sc_punch_card.nd rfl rfl (sw_true rfl rfl rfl (by decide +kernel)) (pi_range1 rfl T.b_range (pa_cons (pe_callB call_len_seq (by rfl) T.b_len PySem.boot_len (pa_cons (pv 1) pa_nil)) pa_nil)) (blkOk_by (own := [("k", 4)]) (N := N_punch_card) (sc := defScope s_punch_card) (by decide +kernel)) (fun _ _ _ _ _ => pg_name (i := 4) sc_punch_card.nd rfl (Or.inl rfl)) (fun _ _ _ _ _ => pts_nil) (fun _ _ _ _ _ => (pe_op op_or (pe_ix ix_list (pv 1) (pv 4) (fun _ _ => rfl)) (pe_call D_machine_gets.ok (hr.mono (by decide)) (by rfl) D_machine_gets.g D_machine_gets.kp D_machine_gets.b .nil pass0 (pa_cons (pv 2) (pa_cons (pv 4) pa_nil))))))
      (pss_cons (ps_fld (pv 0) (pv 3) rfl)
      (pss_one (ps_ret (pv 3))))), ?_⟩
    refine ⟨_, rfl, ca, _, rfl, .inl (SqL.of hp), 80, by rw [List.length_map, lp]; rfl, by decide, by decide, fun D nD => ?_⟩
    refine lc_range (lo := 0) (n := 80) (fun i H' => Same H H' ∧ H' D = some (.lst (((List.range i).map fun k => p.getD k 0 ||| t 0 k).map vN))) ⟨same_upd nD, upd_same⟩ ?_ ?_
    · rintro i H' hi ⟨sm, eD⟩
      refine ⟨rfl, ?_⟩
      refine ⟨_, rfl, _, rfl, ca, _, _, _, rfl, rfl, SqL.of (sm _ _ hp), at_nat (j := i) (by omega) (by omega), _, rfl, _, rfl, g, i, t, by rw [show (0 + (i : Int)) = (i : Int) by omega]; rfl, hg.same sm, fun H1 s1 => ?_⟩
      refine ⟨_, _, rfl, rfl, _, s1 _ _ eD, ?_, Same.mut (sm.trans s1) nD, ?_⟩
      · rw [List.length_map, List.length_map, List.length_range]; exact size_big (by omega)
      · rw [upd_same]
        show some (HO.lst (_ ++ [V.int (Builtin.bitOr ((p.getD i 0 : Nat) : Int) ((t 0 i : Nat) : Int))])) = _
        rw [bor_nat, List.range_succ, List.map_append, List.map_append]
        rfl
    · rintro H' ⟨sm, eD⟩
      refine ⟨_, rfl, _, rfl, pu, de.cRP, dx, _, rfl, sm _ _ hpu, T.i_RP.cl, T.n_last, (by show 2 < 1000; decide), ?_⟩
      rw [rpP_last]
      exact ⟨_, rfl, q H' D sm nD eD⟩
end
end CP
/-! HDesk6 -/
namespace CP
open PySem PySem.Spec PyProof.Rows L2
/-! ### the desk: the punch that's set up; t: where the answers are told -/
def dkF (v : V) : List (Str × V) := [("punch", v)]
theorem dkF_punch (v : V) : (dkF v).lookup ("punch" : Str) = some v := lk_here
theorem dkP_punch (v u : V) : putF "punch" u (dkF v) = dkF u := put_here
def PunchAt (de : AdE) (H : Hp) (t : Addr) (v : V) : Machines.State → Prop
  | .none_ => v = .non
  | .copying l q => ∃ pu dx pa qa, v = .ref pu ∧ H pu = some (.ins de.cRP dx (rpF pa qa)) ∧ PanelAt H pa l ∧ H qa = some (.lst (q.map vN)) ∧ COk q ∧ pa ≠ t ∧ qa ≠ t
  | .working l p kept => ∃ pu dx sa pa ka, v = .ref pu ∧ H pu = some (.ins de.cCP dx (cpF sa pa ka)) ∧ StepsAt de H sa p ∧ PanelAt H pa l ∧ H ka = some (.lst (kept.map V.int)) ∧ kept.length = 8 ∧ (∀ v ∈ kept, v.natAbs < 10000000000000000) ∧ p.length ≤ 64 ∧ (∀ t ∈ p, t.fine = true) ∧ sa ≠ t ∧ pa ≠ t ∧ ka ≠ t
/-- the first attribute's name -/
def hdN (fs : List (Str × V)) : Option Str := (fs.head?).map (·.1)
def FixN (fs : List (Str × V)) : Prop := hdN fs = some "panel" ∨ hdN fs = some "steps" ∨ hdN fs = some "op"
theorem PanelAt.of {H H' : Hp} {pa : Addr} {l : List Pu.Wire} (h : PanelAt H pa l) (hl : ∀ xs, H pa = some (.lst xs) → H' pa = some (.lst xs)) (ht : KTp H H') : PanelAt H' pa l := by
  obtain ⟨ord, ⟨as, e, wi⟩, r⟩ := h
  exact ⟨ord, ⟨as, hl _ e, wi.ktp ht⟩, r⟩
theorem StepsIn.of {de : AdE} {H H' : Hp} (hi : ∀ b C dx fs, H b = some (.ins C dx fs) → FixN fs → H' b = some (.ins C dx fs)) {as : List Addr} {d : List Pu.Step} (h : StepsIn de H as d) : StepsIn de H' as d := by
  induction h with
  | nil => exact .nil
  | cons e _ ih =>
    obtain ⟨dx, e⟩ := e
    exact .cons ⟨dx, hi _ _ _ _ e (.inr (.inr rfl))⟩ ih
theorem PunchAt.of {de : AdE} {H H' : Hp} {t : Addr} {v : V} {s : Machines.State} (h : PunchAt de H t v s) (hi : ∀ b C dx fs, H b = some (.ins C dx fs) → FixN fs → H' b = some (.ins C dx fs)) (hl : ∀ b xs, b ≠ t → H b = some (.lst xs) → H' b = some (.lst xs)) (ht : KTp H H') : PunchAt de H' t v s := by
  cases s with
  | none_ => exact h
  | copying l q =>
    obtain ⟨pu, dx, pa, qa, e, h1, h2, h3, h4, h5, h6⟩ := h
    exact ⟨pu, dx, pa, qa, e, hi _ _ _ _ h1 (.inl rfl), h2.of (fun xs => hl pa xs h5) ht, hl _ _ h6 h3, h4, h5, h6⟩
  | working l p kept =>
    obtain ⟨pu, dx, sa, pa, ka, e, h1, ⟨as, ea, si⟩, h3, h4, h5, h6, h7, h8, n1, n2, n3⟩ := h
    exact ⟨pu, dx, sa, pa, ka, e, hi _ _ _ _ h1 (.inr (.inl rfl)), ⟨as, hl _ _ n1 ea, si.of hi⟩, h3.of (fun xs => hl pa xs n2) ht, hl _ _ n3 h4, h5, h6, h7, h8, n1, n2, n3⟩
theorem PunchAt.same {de : AdE} {H H' : Hp} {t : Addr} {v : V} {s : Machines.State} (h : PunchAt de H t v s) (e : Same H H') : PunchAt de H' t v s :=
  h.of (fun b C dx fs q _ => e _ _ q) (fun b xs _ q => e _ _ q) (ktp_same e)
/-- an instance changes that's no punch, no step -/
theorem PunchAt.sb {de : AdE} {H H' : Hp} {p t : Addr} {v : V} {s : Machines.State} {C dx : Addr} {fs : List (Str × V)} (h : PunchAt de H t v s) (e : SB p H H') (hp : H p = some (.ins C dx fs)) (nf : ¬ FixN fs) : PunchAt de H' t v s := by
  refine h.of (fun b C' dx' fs' q f => e _ _ q fun z => ?_) (fun b xs _ q => e _ _ q (ne_of q hp (fun z => by cases z))) (fun b xs q => e _ _ q (ne_of q hp (fun z => by cases z)))
  subst z
  rw [hp] at q
  have := Option.some.inj q
  injection this with _ _ e3
  rw [e3] at nf
  exact nf f
theorem PunchAt.told {de : AdE} {H : Hp} {t : Addr} {v : V} {s : Machines.State} {ts ys : List V} (h : PunchAt de H t v s) (ht : H t = some (.lst ts)) : PunchAt de (upd H t (.lst ys)) t v s :=
  h.of (fun b C dx fs q _ => by rw [upd_ne (ne_of q ht (fun z => by cases z))]; exact q) (fun b xs n q => by rw [upd_ne n]; exact q) (fun b xs q => by rw [upd_ne (ne_of q ht (fun z => by cases z))]; exact q)
theorem fix_rd (la : Addr) (i : Nat) : ¬ FixN (rdF la i) := by
  intro h
  rcases h with h | h | h
  · exact (show ¬ (("calls" : Str) = "panel") by decide +kernel) (Option.some.inj h)
  · exact (show ¬ (("calls" : Str) = "steps") by decide +kernel) (Option.some.inj h)
  · exact (show ¬ (("calls" : Str) = "op") by decide +kernel) (Option.some.inj h)
theorem fix_dk (v : V) : ¬ FixN (dkF v) := by
  intro h
  rcases h with h | h | h
  · exact (show ¬ (("punch" : Str) = "panel") by decide +kernel) (Option.some.inj h)
  · exact (show ¬ (("punch" : Str) = "steps") by decide +kernel) (Option.some.inj h)
  · exact (show ¬ (("punch" : Str) = "op") by decide +kernel) (Option.some.inj h)
def DeskAt (de : AdE) (H : Hp) (t da : Addr) (s : Machines.State) : Prop := ∃ dx v, H da = some (.ins de.cDk dx (dkF v)) ∧ PunchAt de H t v s
theorem rd_ne_dk {dd : AdD} {de : AdE} {H : Hp} {p la da dx : Addr} {i : Nat} {v : V} (h : RdAt dd H p la i) (k : H da = some (.ins de.cDk dx (dkF v))) : da ≠ p := by
  obtain ⟨dy, e⟩ := h
  intro z
  subst z
  rw [e] at k
  have := Option.some.inj k
  injection this with _ _ e3
  have e4 : hdN (rdF la i) = hdN (dkF v) := by rw [e3]
  exact (show ¬ (("calls" : Str) = "punch") by decide +kernel) (Option.some.inj e4)
/-- all that a call finds and leaves -/
structure Cx6 (K : PySem.W.Frag) (dd : AdD) (de : AdE) (H : Hp) (p la da t : Addr) (cs : List Int) (i : Nat) (s : Machines.State) (ts : List V) : Prop where
  sq : SqL K H la (cs.map V.int)
  rd : RdAt dd H p la i
  dk : DeskAt de H t da s
  tl : H t = some (.lst ts)
  nl : la ≠ t ∨ ∀ H0 : Hp, SqL K H0 la (cs.map V.int)
section
variable {K : PySem.W.Frag} {dd : AdD} {de : AdE} {H H' : Hp} {p la da t : Addr} {cs : List Int} {i j : Nat} {s : Machines.State} {ts : List V}
theorem Cx6.same (c : Cx6 K dd de H p la da t cs i s ts) (e : Same H H') : Cx6 K dd de H' p la da t cs i s ts := by
  obtain ⟨dx, v, h1, h2⟩ := c.dk
  exact ⟨e.seq c.sq, c.rd.same e, ⟨dx, v, e _ _ h1, h2.same e⟩, e _ _ c.tl, c.nl⟩
theorem Cx6.sb (c : Cx6 K dd de H p la da t cs i s ts) (e : SB p H H') (r : RdAt dd H' p la j) : Cx6 K dd de H' p la da t cs j s ts := by
  obtain ⟨dx, v, h1, h2⟩ := c.dk
  obtain ⟨dy, hp⟩ := c.rd
  exact ⟨e.seq' hp c.sq, r, ⟨dx, v, e _ _ h1 (rd_ne_dk c.rd h1), h2.sb e hp (fix_rd la i)⟩, e _ _ c.tl (ne_of c.tl hp (fun z => by cases z)), c.nl⟩
theorem Cx6.ne (c : Cx6 K dd de H p la da t cs i s ts) {r : Addr} (h : H r = none) : r ≠ t := fun z => by rw [z, c.tl] at h; cases h
/-- the desk's punch becomes another -/
theorem Cx6.set (c : Cx6 K dd de H p la da t cs i s ts) {dx : Addr} {v u : V} {s' : Machines.State} (hd : H da = some (.ins de.cDk dx (dkF v))) (h : PunchAt de H t u s') : Cx6 K dd de (upd H da (.ins de.cDk dx (dkF u))) p la da t cs i s' ts := by
  have sb := SB.upd da H (.ins de.cDk dx (dkF u))
  obtain ⟨dy, hp⟩ := c.rd
  refine ⟨sb.seq' hd c.sq, ⟨dy, ?_⟩, ⟨dx, u, upd_same, h.sb sb hd (fix_dk v)⟩, ?_, c.nl⟩
  · rw [upd_ne (Ne.symm (rd_ne_dk c.rd hd))]; exact hp
  · rw [upd_ne (ne_of c.tl hd (fun z => by cases z))]; exact c.tl
/-- more is told -/
theorem Cx6.tell (c : Cx6 K dd de H p la da t cs i s ts) (ys : List V) : Cx6 K dd de (upd H t (.lst ys)) p la da t cs i s ys := by
  obtain ⟨dx, v, h1, h2⟩ := c.dk
  obtain ⟨dy, hp⟩ := c.rd
  refine ⟨?_, ⟨dy, by rw [upd_ne (ne_of hp c.tl (fun z => by cases z))]; exact hp⟩, ⟨dx, v, by rw [upd_ne (ne_of h1 c.tl (fun z => by cases z))]; exact h1, h2.told c.tl⟩, upd_same, c.nl⟩
  rcases c.nl with n | n
  · rcases c.sq with (z | ⟨o, z⟩) | z
    · exact .inl (.inl (by rw [upd_ne n]; exact z))
    · exact .inl (.inr ⟨o, by rw [upd_ne n]; exact z⟩)
    · exact .inr z
  · exact n _
end
/-- what a call gives back -/
def AnsC (K : PySem.W.Frag) (dd : AdD) (de : AdE) (Q : VK) (p la da t : Addr) (cs : List Int) (i : Nat) (ts : List V) (z : Machines.State × Machines.Answer) : Prop := ∀ H' r, Cx6 K dd de H' p la da t cs i z.1 ts → H' r = some (.lst ((MachinesNeutral.told z.2).map V.int)) → r ≠ t → Q (.ref r) H'
theorem AnsC.new {K : PySem.W.Frag} {dd : AdD} {de : AdE} {Q : VK} {p la da t : Addr} {cs : List Int} {i : Nat} {ts : List V} {z : Machines.State × Machines.Answer} {H : Hp} (q : AnsC K dd de Q p la da t cs i ts z) (c : Cx6 K dd de H p la da t cs i z.1 ts) : NewL H Q ((MachinesNeutral.told z.2).map V.int) := fun H' r s n h => q H' r (c.same s) h (c.ne n)
section
open Machines MachinesNeutral
theorem st_setcopy_err {s : State} {b : Pu.Bytes} {a : Answer} (h : panelOf b = .error a) : Machines.step s (.setcopy b) = (s, a) := by
  show (match panelOf b with | .error a => (s, a) | .ok l => _) = _
  rw [h]
theorem st_setcopy_ok {s : State} {b : Pu.Bytes} {l : List Pu.Wire} (h : panelOf b = .ok l) : Machines.step s (.setcopy b) = (.copying l Pu.blankCard, num 0) := by
  show (match panelOf b with | .error a => (s, a) | .ok l => _) = _
  rw [h]
end
section
variable {P : Program} {w : World} {K : PySem.W.Frag} {mg : Str → Option Value} {base : Heap} {ad : Ad} {dd : AdD} {de : AdE}
abbrev s_Desk___init__ : Stmt := inClass (topS 173) 0
abbrev N_Desk___init__ : List Str := ["self"]
theorem sc_Desk___init__ : FnScope N_Desk___init__ ["self"] (defScope s_Desk___init__) := ⟨rfl, rfl, rfl, by decide +kernel, rfl, by decide +kernel, by decide +kernel⟩
def sp_desk_init (de : AdE) : Sp := fun vs H Q _ => ∃ (p dx : Addr), vs = [.ref p] ∧ H p = some (.ins de.cDk dx []) ∧ ∀ H' : Hp, H' p = some (.ins de.cDk dx (dkF .non)) → SB p H H' → Q .non H'
theorem ok_desk_init {f : Addr} {fd : FuncData} (F : Fun K "__init__" "Desk.__init__" s_Desk___init__ f fd) (T : TxtE P w K mg ad dd de) : FnOk P w K mg base CX0 1 f fd ["self"] (sp_desk_init de) := by
  refine F.ok sc_Desk___init__ (fun vs H Q E h => ?_) (fun cdv A outer s H vs Q E hr h => ?_)
  · obtain ⟨p, dx, rfl, _⟩ := h; rfl
  · obtain ⟨p, dx, rfl, hp, q⟩ := h
    refine ⟨_, (pss_one (ps_fld (pv 0) pe_non rfl)), ?_⟩
    refine ⟨_, rfl, p, de.cDk, dx, _, rfl, hp, T.cl_Desk, T.n_punch, (by show 0 < 1000; decide), ?_⟩
    have e1 : putF "punch" .non ([] : List (Str × V)) = dkF .non := rfl
    rw [e1]
    exact q _ upd_same (SB.upd p H _)
abbrev s_answer_setcopy : Stmt := topS 179
abbrev N_answer_setcopy : List Str := ["reader", "desk", "text", "refusal"]
theorem sc_answer_setcopy : FnScope N_answer_setcopy ["reader", "desk"] (defScope s_answer_setcopy) := ⟨rfl, rfl, rfl, by decide +kernel, rfl, by decide +kernel, by decide +kernel⟩
def sp_setcopy (K : PySem.W.Frag) (dd : AdD) (de : AdE) : Sp := fun vs H Q _ => ∃ (p la da t : Addr) (i : Nat) (cs rest x : List Int) (s : Machines.State) (ts : List V), vs = [.ref p, .ref da] ∧ Cx6 K dd de H p la da t cs i s ts ∧ cs.drop i = (x.length : Int) :: x ++ rest ∧ x.length ≤ 100000 ∧ ByteRow x ∧
  AnsC K dd de Q p la da t cs (i + 1 + x.length) ts (Machines.step s (.setcopy (MachinesNeutral.text x)))
theorem ok_answer_setcopy {f : Addr} {fd : FuncData} (F : Fun K "answer_setcopy" "answer_setcopy" s_answer_setcopy f fd) (T : TxtE P w K mg ad dd de) (D_CallReader_next_row : MDcl P w K mg base 1 dd.cR "next_row" ["self"] (sp_next_row K dd)) (D_panel_refusal : Dcl P w K mg base 7 "panel_refusal" ["text"] (sp_panel_refusal K)) (D_read_panel : Dcl P w K mg base 7 "read_panel" ["text"] (sp_read_panel K)) (D_ReproducingPunch : CDcl P w K mg base 2 de.cRP "ReproducingPunch" ["self", "panel"] (sp_rp_init de)) : FnOk P w K mg base CX0 8 f fd ["reader", "desk"] (sp_setcopy K dd de) := by
  refine F.ok sc_answer_setcopy (fun vs H Q E h => ?_) (fun cdv A outer s H vs Q E hr h => ?_)
  · obtain ⟨p, la, da, t, i, cs, rest, x, s, ts, rfl, _⟩ := h; rfl
  · obtain ⟨p, la, da, t, i, cs, rest, x, s, ts, rfl, C, hz, lx, bx, q⟩ := h
    obtain ⟨dx, hp⟩ := C.rd
    refine ⟨_, (pss_cons (ps_set (i := 2) sc_answer_setcopy.nd rfl (Or.inl rfl) (pe_meth0 (pv 0) T.cl_CallReader D_CallReader_next_row.m D_CallReader_next_row.ok (hr.mono (by decide)) D_CallReader_next_row.b .nil pass0))
      (pss_cons (ps_set (i := 3) sc_answer_setcopy.nd rfl (Or.inl rfl) (pe_call D_panel_refusal.ok (hr.mono (by decide)) (by rfl) D_panel_refusal.g D_panel_refusal.kp D_panel_refusal.b .nil pass0 (pa_cons (pv 2) pa_nil)))
      (pss_cons (ps_if (pt_cmpR op_gt (pe_callB call_len_seq (by rfl) T.b_len PySem.boot_len (pa_cons (pv 3) pa_nil)) pe_int (nomark _))
      (pss_one (ps_ret (pv 3)))
      pss_nil)
      (pss_cons (ps_fld (pv 1) (pe_make D_ReproducingPunch.make D_ReproducingPunch.ok (hr.mono (by decide)) (by rfl) D_ReproducingPunch.g D_ReproducingPunch.b .nil pass0 (pa_cons (pe_call D_read_panel.ok (hr.mono (by decide)) (by rfl) D_read_panel.g D_read_panel.kp D_read_panel.b .nil pass0 (pa_cons (pv 2) pa_nil)) pa_nil)) rfl)
      (pss_one (ps_ret (pe_lst (pa_cons pe_int pa_nil)))))))), ?_⟩
    refine ⟨_, rfl, p, dx, _, rfl, hp, nn_row, p, la, i, cs, x, _, rfl, ⟨dx, hp⟩, C.sq, hz, fun H1 ra b1 rd1 n1 h1 => ?_⟩
    have C1 := C.sb b1 rd1
    rw [row_bytes bx] at h1
    have lb : (MachinesNeutral.text x).length ≤ 100000 := by unfold MachinesNeutral.text; rw [List.length_map]; exact lx
    refine ⟨_, rfl, ra, _, rfl, SqL.of h1, lb, fun H2 rr s2 n2 h2 => ?_⟩
    have C2 := C1.same s2
    refine ⟨_, rfl, rr, _, rfl, .inl (SqL.of h2), _, _, rfl, rfl, _, rfl, ?_⟩
    cases hpo : Machines.panelOf (MachinesNeutral.text x) with
    | error a =>
      rw [hpo] at h2
      rw [st_setcopy_err hpo] at q
      refine ift (decide_eq_true (by show (0 : Int) < ((a.more.map V.int).length + 1 : Nat); omega)) ?_
      exact ⟨_, rfl, q H2 rr C2 h2 (C1.ne n2)⟩
    | ok l =>
      rw [st_setcopy_ok hpo] at q
      refine iff_ rfl ?_
      refine ⟨_, rfl, ra, _, l, rfl, SqL.of (s2 _ _ h1), lb, hpo, fun H3 pp s3 n3 h3 => ?_⟩
      have C3 := C2.same s3
      intro y dy ny ndy ney
      refine ⟨y, pp, dy, rfl, upd_same, fun H4 qa h4 nq hq sb4 => ⟨rfl, ?_⟩⟩
      have s4 : Same H3 H4 := Same.made ny ndy sb4
      have C4 := C3.same s4
      have nqt : qa ≠ t := by
        intro e
        rw [e] at nq
        have : (upd (upd H3 dy (.own y)) y (.ins de.cRP dy [])) t = some (.lst ts) := by
          rw [upd_ne (ne_of_none C3.tl ny), upd_ne (ne_of_none C3.tl ndy)]; exact C3.tl
        rw [this] at nq; cases nq
      obtain ⟨dd', v, hda, hv⟩ := C4.dk
      refine ⟨_, rfl, da, de.cDk, dd', _, rfl, hda, T.cl_Desk, T.n_punch, (by show 1 < 1000; decide), ?_⟩
      rw [dkP_punch]
      have C5 := C4.set (u := .ref y) (s' := .copying l Pu.blankCard) hda ⟨y, dy, pp, qa, rfl, h4, h3.same s4, hq, blank_ok, C2.ne n3, nqt⟩
      refine ⟨(by show 1 ≤ sizeLine; decide), fun r nr => ?_⟩
      exact q.new C5 _ r (same_upd nr) nr upd_same
abbrev s_answer_counters : Stmt := topS 183
abbrev N_answer_counters : List Str := ["desk"]
theorem sc_answer_counters : FnScope N_answer_counters ["desk"] (defScope s_answer_counters) := ⟨rfl, rfl, rfl, by decide +kernel, rfl, by decide +kernel, by decide +kernel⟩
def sp_counters (K : PySem.W.Frag) (dd : AdD) (de : AdE) : Sp := fun vs H Q _ => ∃ (p la da t : Addr) (i : Nat) (cs : List Int) (s : Machines.State) (ts : List V), vs = [.ref da] ∧ Cx6 K dd de H p la da t cs i s ts ∧ AnsC K dd de Q p la da t cs i ts (Machines.step s .counters)
theorem ok_answer_counters {f : Addr} {fd : FuncData} (F : Fun K "answer_counters" "answer_counters" s_answer_counters f fd) (T : TxtE P w K mg ad dd de) : FnOk P w K mg base CX0 1 f fd ["desk"] (sp_counters K dd de) := by
  refine F.ok sc_answer_counters (fun vs H Q E h => ?_) (fun cdv A outer s H vs Q E hr h => ?_)
  · obtain ⟨p, la, da, t, i, cs, s, ts, rfl, _⟩ := h; rfl
  · obtain ⟨p, la, da, t, i, cs, s, ts, rfl, C, q⟩ := h
    obtain ⟨dx, v, hda, hv⟩ := C.dk
    refine ⟨_, (pss_cons (ps_if (pt_not (pt_val (pe_callB call_isi (by rfl) T.b_isinstance (by decide +kernel) (pa_cons (pe_fld (pv 0) rfl) (pa_cons (pe_gref (by rfl) T.g_CalculatingPunch) pa_nil)))))
      (pss_one (ps_ret (pe_lst (pa_cons (pe_gint (by rfl) T.g_NOT_SET_UP) pa_nil))))
      pss_nil)
      (pss_one (ps_ret (pe_op op_cat (pe_lst (pa_cons pe_int pa_nil)) (pe_fld (pe_fld (pv 0) rfl) rfl))))), ?_⟩
    refine ⟨_, rfl, da, de.cDk, dx, _, _, rfl, hda, T.cl_Desk, T.n_punch, dkF_punch v, ?_⟩
    cases s with
    | none_ =>
      obtain rfl : v = .non := hv
      refine ⟨_, _, _, _, false, rfl, .own _, .base .non, T.k_NC, _, rfl, ift rfl ?_⟩
      refine ⟨(by show 1 ≤ sizeLine; decide), fun r nr => ?_⟩
      exact q.new C _ r (same_upd nr) nr upd_same
    | copying l qc =>
      obtain ⟨pu, dy, pa, qa, rfl, h1, hr⟩ := hv
      refine ⟨_, _, _, _, false, rfl, .own _, T.i_RP.ty h1, T.k_RC, _, rfl, ift rfl ?_⟩
      refine ⟨(by show 1 ≤ sizeLine; decide), fun r nr => ?_⟩
      exact q.new C _ r (same_upd nr) nr upd_same
    | working l ps kept =>
      obtain ⟨pu, dy, sa, pa, ka, rfl, h1, h2, h3, h4, h5, hr⟩ := hv
      refine ⟨_, _, _, _, true, rfl, .own _, T.i_CP.ty h1, T.k_CC, _, rfl, iff_ rfl ?_⟩
      refine ⟨(by show 1 ≤ sizeLine; decide), fun r1 n1 => ?_⟩
      have t1 := same_upd (o := .lst [V.int 0]) n1
      refine ⟨_, rfl, da, de.cDk, dx, _, _, rfl, t1 _ _ hda, T.cl_Desk, T.n_punch, dkF_punch _, pu, de.cCP, dy, _, _, rfl, t1 _ _ h1, T.i_CP.cl, T.n_kept, cpF_kept .., r1, ka, _, _, rfl, rfl, upd_same, t1 _ _ h4, ?_, fun r nr => ?_⟩
      · rw [List.length_map, h5]; decide
      · exact q.new C _ r (t1.trans (same_upd nr)) (t1.free nr) upd_same
end
end CP
/-! HDesk7 -/
namespace CP
open PySem PySem.Spec PyProof.Rows L2
/-- a card that's read, or none -/
def CardV (H : Hp) (v : V) (o : Option Pu.Card) : Prop := (o = none ∧ v = .non) ∨ ∃ a x, o = some x ∧ v = .ref a ∧ H a = some (.lst (x.map vN)) ∧ COk x
theorem CardV.same {H H' : Hp} {v : V} {o : Option Pu.Card} (h : CardV H v o) (s : Same H H') : CardV H' v o := by
  rcases h with h | ⟨a, x, h1, h2, h3, h4⟩
  · exact .inl h
  · exact .inr ⟨a, x, h1, h2, s _ _ h3, h4⟩
theorem CardV.sb {H H' : Hp} {p C dx : Addr} {fs : List (Str × V)} {v : V} {o : Option Pu.Card} (h : CardV H v o) (s : SB p H H') (hp : H p = some (.ins C dx fs)) : CardV H' v o := by
  rcases h with h | ⟨a, x, h1, h2, h3, h4⟩
  · exact .inl h
  · exact .inr ⟨a, x, h1, h2, s _ _ h3 (ne_of h3 hp (fun z => by cases z)), h4⟩
theorem rc_any {K : PySem.W.Frag} {H : Hp} {Q : VK} {E : XK} {a : Addr} {ns : List Int} (ha : H a = some (.lst (ns.map V.int))) (hl : ns.length ≤ 100000) (k : ∀ H' v, Same H H' → CardV H' v (Machines.cardOf_ ns) → Q v H') : sp_read_card K [.ref a] H Q E :=
  ⟨a, ns, rfl, SqL.of ha, hl, fun e H' s => k H' .non s (.inl ⟨e, rfl⟩), fun x e H' r s n h => k H' (.ref r) s (.inr ⟨r, x, e, rfl, h, card_ok e⟩)⟩
theorem Cx6.punch {K : PySem.W.Frag} {dd : AdD} {de : AdE} {H : Hp} {p la da t pu C dy dz : Addr} {cs : List Int} {i : Nat} {s s' : Machines.State} {ts : List V} {fs fs' : List (Str × V)} (c : Cx6 K dd de H p la da t cs i s ts) (hd : H da = some (.ins de.cDk dz (dkF (.ref pu)))) (hp : H pu = some (.ins C dy fs)) (f : FixN fs) (h : PunchAt de (upd H pu (.ins C dy fs')) t (.ref pu) s') : Cx6 K dd de (upd H pu (.ins C dy fs')) p la da t cs i s' ts := by
  have sb := SB.upd pu H (.ins C dy fs')
  obtain ⟨dx, hr⟩ := c.rd
  have n1 : p ≠ pu := by
    intro z
    rw [← z, hr] at hp
    have := Option.some.inj hp
    injection this with _ _ e3
    rw [← e3] at f
    exact fix_rd la i f
  have n2 : da ≠ pu := by
    intro z
    rw [← z, hd] at hp
    have := Option.some.inj hp
    injection this with _ _ e3
    rw [← e3] at f
    exact fix_dk _ f
  refine ⟨sb.seq' hp c.sq, ⟨dx, by rw [upd_ne n1]; exact hr⟩, ⟨dz, _, by rw [upd_ne n2]; exact hd, h⟩, ?_, c.nl⟩
  rw [upd_ne (ne_of c.tl hp (fun z => by cases z))]; exact c.tl
section
open Machines MachinesNeutral
theorem st_copy_no {s : State} {r p : List Int} (h : ∀ l q, s ≠ .copying l q) : Machines.step s (.copy r p) = (s, num (-3)) := by
  cases s with
  | none_ => rfl
  | copying l q => exact absurd rfl (h l q)
  | working l p k => rfl
theorem st_copy_card {l : List Pu.Wire} {q : Pu.Card} {r p : List Int} (h : cardOf_ r = none ∨ cardOf_ p = none) : Machines.step (.copying l q) (.copy r p) = (.copying l q, NOCARD) := by
  show (match cardOf_ r, cardOf_ p with | some r, some p => _ | _, _ => _) = _
  rcases h with h | h
  · rw [h]
  · rw [h]
    cases cardOf_ r <;> rfl
theorem st_copy_dif {l : List Pu.Wire} {q x y : Pu.Card} {r p : List Int} {k : Nat} (h1 : cardOf_ r = some x) (h2 : cardOf_ p = some y) (h : Pu.differ (Pu.flow l x (Pu.sentBy q y) 0) = some k) : Machines.step (.copying l q) (.copy r p) = (.copying l q, nums (-5) [(k : Int)]) := by
  show (match cardOf_ r, cardOf_ p with | some r, some p => (match Pu.reproduced l q r p with | .error k => (State.copying l q, nums (-5) [(k : Int)]) | .ok (y, halt_) => _) | _, _ => _) = _
  rw [h1, h2]
  show (match Pu.reproduced l q x y with | .error k => (State.copying l q, nums (-5) [(k : Int)]) | .ok (y, halt_) => _) = _
  have : Pu.reproduced l q x y = .error k := by
    unfold Pu.reproduced
    simp only [h]
  rw [this]
theorem st_copy_ok {l : List Pu.Wire} {q x y : Pu.Card} {r p : List Int} (h1 : cardOf_ r = some x) (h2 : cardOf_ p = some y) (h : Pu.differ (Pu.flow l x (Pu.sentBy q y) 0) = none) : Machines.step (.copying l q) (.copy r p) = (.copying l (Pu.becomes y (Pu.flow l x (Pu.sentBy q y) 0)), nums 0 ((if (Pu.flow l x (Pu.sentBy q y) 0 80 != 0) = true then 1 else 0) :: cardNums (Pu.becomes y (Pu.flow l x (Pu.sentBy q y) 0)))) := by
  show (match cardOf_ r, cardOf_ p with | some r, some p => (match Pu.reproduced l q r p with | .error k => (State.copying l q, nums (-5) [(k : Int)]) | .ok (y, halt_) => (State.copying l y, nums 0 ((if halt_ = true then 1 else 0) :: cardNums y))) | _, _ => _) = _
  rw [h1, h2]
  show (match Pu.reproduced l q x y with | .error k => (State.copying l q, nums (-5) [(k : Int)]) | .ok (y, halt_) => (State.copying l y, nums 0 ((if halt_ = true then 1 else 0) :: cardNums y))) = _
  have : Pu.reproduced l q x y = .ok (Pu.becomes y (Pu.flow l x (Pu.sentBy q y) 0), Pu.flow l x (Pu.sentBy q y) 0 80 != 0) := by
    unfold Pu.reproduced
    simp only [h]
  rw [this]
end
theorem ints_vN (l : List Nat) : (Machines.ints l).map V.int = l.map vN := by
  unfold Machines.ints
  rw [List.map_map]; rfl
theorem flow_lt {l : List Pu.Wire} {x frm : List Nat} {H : Hp} {pa : Addr} (h : PanelAt H pa l) (ox : ∀ k, x.getD k 0 < 4096) (hf : ∀ k, frm.getD k 0 < 4096) (a c : Nat) : Pu.flow l x frm a c < 4096 := by
  obtain ⟨ord, _, pm, tp, so, okl, _⟩ := h
  rw [flow_is so pm tp okl]
  exact goesL_lt ox hf (fun y hy => okl y (pm.mem_iff.mp hy)) a c
theorem sentBy_lt {q p : Pu.Card} (oq : COk q) (op : COk p) (k : Nat) : (Pu.sentBy q p).getD k 0 < 4096 := by
  rw [← sentBy_getD oq op]
  exact getD_lt (fun h hh => by
    rw [List.mem_append, List.mem_append] at hh
    rcases hh with (hh | hh) | hh
    · exact oq.2 h hh
    · exact op.2 h hh
    · rw [(List.mem_replicate.mp hh).2]; decide) k
section
variable {P : Program} {w : World} {K : PySem.W.Frag} {mg : Str → Option Value} {base : Heap} {ad : Ad} {dd : AdD} {de : AdE}
abbrev s_answer_copy : Stmt := topS 180
abbrev N_answer_copy : List Str := ["reader", "desk", "source", "card", "goes", "place", "punched"]
theorem sc_answer_copy : FnScope N_answer_copy ["reader", "desk"] (defScope s_answer_copy) := ⟨rfl, rfl, rfl, by decide +kernel, rfl, by decide +kernel, by decide +kernel⟩
def sp_copy (K : PySem.W.Frag) (dd : AdD) (de : AdE) : Sp := fun vs H Q _ => ∃ (p la da t : Addr) (i : Nat) (cs rest x y : List Int) (s : Machines.State) (ts : List V), vs = [.ref p, .ref da] ∧ Cx6 K dd de H p la da t cs i s ts ∧ cs.drop i = (x.length : Int) :: x ++ ((y.length : Int) :: y ++ rest) ∧ x.length ≤ 100000 ∧ y.length ≤ 100000 ∧
  AnsC K dd de Q p la da t cs (i + 1 + x.length + 1 + y.length) ts (Machines.step s (.copy x y))
theorem ok_answer_copy {f : Addr} {fd : FuncData} (F : Fun K "answer_copy" "answer_copy" s_answer_copy f fd) (T : TxtE P w K mg ad dd de) (D_CallReader_next_row : MDcl P w K mg base 1 dd.cR "next_row" ["self"] (sp_next_row K dd)) (D_read_card : Dcl P w K mg base 2 "read_card" ["numbers"] (sp_read_card K)) (D_run_pair : Dcl P w K mg base 5 "run_pair" ["punch", "source", "card"] (sp_run_pair de)) (D_place_that_differs : Dcl P w K mg base 2 "place_that_differs" ["goes"] sp_differs) (D_punch_card : Dcl P w K mg base 2 "punch_card" ["punch", "card", "goes"] (sp_punch_card de)) (D_stops_behind : Dcl P w K mg base 2 "stops_behind" ["goes"] sp_stops) (D_tell_card : Dcl P w K mg base 1 "tell_card" ["card"] (sp_tell_card K)) : FnOk P w K mg base CX0 6 f fd ["reader", "desk"] (sp_copy K dd de) := by
  refine F.ok sc_answer_copy (fun vs H Q E h => ?_) (fun cdv A outer s H vs Q E hr h => ?_)
  · obtain ⟨p, la, da, t, i, cs, rest, x, y, s, ts, rfl, _⟩ := h; rfl
  · obtain ⟨p, la, da, t, i, cs, rest, x, y, s, ts, rfl, C, hz, lx, ly, q⟩ := h
    obtain ⟨dx, hp⟩ := C.rd
    refine ⟨_, (pss_cons (ps_set (i := 2) sc_answer_copy.nd rfl (Or.inl rfl) (pe_call D_read_card.ok (hr.mono (by decide)) (by rfl) D_read_card.g D_read_card.kp D_read_card.b .nil pass0 (pa_cons (pe_meth0 (pv 0) T.cl_CallReader D_CallReader_next_row.m D_CallReader_next_row.ok (hr.mono (by decide)) D_CallReader_next_row.b .nil pass0) pa_nil)))
      (pss_cons (ps_set (i := 3) sc_answer_copy.nd rfl (Or.inl rfl) (pe_call D_read_card.ok (hr.mono (by decide)) (by rfl) D_read_card.g D_read_card.kp D_read_card.b .nil pass0 (pa_cons (pe_meth0 (pv 0) T.cl_CallReader D_CallReader_next_row.m D_CallReader_next_row.ok (hr.mono (by decide)) D_CallReader_next_row.b .nil pass0) pa_nil)))
      (pss_cons (ps_if (pt_not (pt_val (pe_callB call_isi (by rfl) T.b_isinstance (by decide +kernel) (pa_cons (pe_fld (pv 1) rfl) (pa_cons (pe_gref (by rfl) T.g_ReproducingPunch) pa_nil)))))
      (pss_one (ps_ret (pe_lst (pa_cons (pe_gint (by rfl) T.g_NOT_SET_UP) pa_nil))))
      pss_nil)
      (pss_cons (ps_if (PW.pt (pw_or (pt_cmpR op_isN (pv 2) pe_non (nomark _)) (pw_or1 (pt_cmpR op_isN (pv 3) pe_non (nomark _)))))
      (pss_one (ps_ret (pe_lst (pa_cons (pe_gint (by rfl) T.g_NO_CARD) pa_nil))))
      pss_nil)
      (pss_cons (ps_set (i := 4) sc_answer_copy.nd rfl (Or.inl rfl) (pe_call D_run_pair.ok (hr.mono (by decide)) (by rfl) D_run_pair.g D_run_pair.kp D_run_pair.b .nil pass0 (pa_cons (pe_fld (pv 1) rfl) (pa_cons (pv 2) (pa_cons (pv 3) pa_nil)))))
      (pss_cons (ps_set (i := 5) sc_answer_copy.nd rfl (Or.inl rfl) (pe_call D_place_that_differs.ok (hr.mono (by decide)) (by rfl) D_place_that_differs.g D_place_that_differs.kp D_place_that_differs.b .nil pass0 (pa_cons (pv 4) pa_nil)))
      (pss_cons (ps_if (pt_cmpR op_notN (pv 5) pe_non (nomark _))
      (pss_one (ps_ret (pe_lst (pa_cons (pe_gint (by rfl) T.g_CARDS_DIFFER) (pa_cons (pv 5) pa_nil)))))
      pss_nil)
      (pss_cons (ps_set (i := 6) sc_answer_copy.nd rfl (Or.inl rfl) (pe_call D_punch_card.ok (hr.mono (by decide)) (by rfl) D_punch_card.g D_punch_card.kp D_punch_card.b .nil pass0 (pa_cons (pe_fld (pv 1) rfl) (pa_cons (pv 3) (pa_cons (pv 4) pa_nil)))))
      (pss_one (ps_ret (pe_op op_cat (pe_lst (pa_cons pe_int (pa_cons (pe_ifExp (pt_val (pe_call D_stops_behind.ok (hr.mono (by decide)) (by rfl) D_stops_behind.g D_stops_behind.kp D_stops_behind.b .nil pass0 (pa_cons (pv 4) pa_nil))) pe_int pe_int) pa_nil))) (pe_call D_tell_card.ok (hr.mono (by decide)) (by rfl) D_tell_card.g D_tell_card.kp D_tell_card.b .nil pass0 (pa_cons (pv 6) pa_nil))))))))))))), ?_⟩
    refine ⟨_, rfl, p, dx, _, rfl, hp, nn_row, p, la, i, cs, x, _, rfl, ⟨dx, hp⟩, C.sq, hz, fun H1 ra b1 rd1 n1 h1 => ?_⟩
    have hz1 := rest_row hz
    have C1 := C.sb b1 rd1
    dsimp only [tNil, List.cons_append, List.nil_append]
    refine rc_any h1 lx fun H2 v2 s2 k2 => ?_
    have C2 := C1.same s2
    obtain ⟨dx2, hp2⟩ := C2.rd
    refine ⟨_, rfl, p, dx2, _, rfl, hp2, nn_row, p, la, _, cs, y, rest, rfl, ⟨dx2, hp2⟩, C2.sq, hz1, fun H3 rb b3 rd3 n3 h3 => ?_⟩
    have C3 := C2.sb b3 rd3
    have k3 := k2.sb b3 hp2
    dsimp only [tNil, List.cons_append, List.nil_append]
    refine rc_any h3 ly fun H4 v3 s4 k4 => ?_
    have C4 := C3.same s4
    have k2' := k3.same s4
    obtain ⟨dz, v, hda, hv⟩ := C4.dk
    refine ⟨_, rfl, da, de.cDk, dz, _, _, rfl, hda, T.cl_Desk, T.n_punch, dkF_punch v, ?_⟩
    cases s with
    | none_ =>
      obtain rfl : v = .non := hv
      rw [st_copy_no (by intro l q z; cases z)] at q
      refine ⟨_, _, _, _, false, rfl, .own _, .base .non, T.k_NR, _, rfl, ift rfl ?_⟩
      refine ⟨(by show 1 ≤ sizeLine; decide), fun r nr => ?_⟩
      exact q.new C4 _ r (same_upd nr) nr upd_same
    | working l ps kept =>
      obtain ⟨pu, dy, sa, pa, ka, rfl, g1, hr⟩ := hv
      rw [st_copy_no (by intro l q z; cases z)] at q
      refine ⟨_, _, _, _, false, rfl, .own _, T.i_CP.ty g1, T.k_CR, _, rfl, ift rfl ?_⟩
      refine ⟨(by show 1 ≤ sizeLine; decide), fun r nr => ?_⟩
      exact q.new C4 _ r (same_upd nr) nr upd_same
    | copying l qc =>
      obtain ⟨pu, dy, pa, qa, rfl, g1, g2, g3, g4, g5, g6⟩ := hv
      refine ⟨_, _, _, _, true, rfl, .own _, T.i_RP.ty g1, T.k_RR, _, rfl, iff_ rfl ?_⟩
      rcases k2' with ⟨e2, rfl⟩ | ⟨a2, xc, e2, rfl, hx, ox⟩
      · rw [st_copy_card (.inl e2)] at q
        refine ⟨_, rfl, rfl, _, rfl, ift rfl (ift rfl ?_)⟩
        refine ⟨(by show 1 ≤ sizeLine; decide), fun r nr => ?_⟩
        exact q.new C4 _ r (same_upd nr) nr upd_same
      refine ⟨_, rfl, rfl, _, rfl, iff_ rfl ?_⟩
      rcases k4 with ⟨e4, rfl⟩ | ⟨a4, yc, e4, rfl, hy, oy⟩
      · rw [st_copy_card (.inr e4)] at q
        refine ⟨_, rfl, rfl, _, rfl, ift rfl ?_⟩
        refine ⟨(by show 1 ≤ sizeLine; decide), fun r nr => ?_⟩
        exact q.new C4 _ r (same_upd nr) nr upd_same
      refine ⟨_, rfl, rfl, _, rfl, iff_ rfl ?_⟩
      refine ⟨_, rfl, da, de.cDk, dz, _, _, rfl, hda, T.cl_Desk, T.n_punch, dkF_punch _, _, rfl, _, rfl, pu, a2, a4, pa, qa, dy, l, xc, yc, qc, rfl, g1, g2, g3, g4, hx, ox, hy, oy, fun H5 g s5 hg => ?_⟩
      refine ⟨_, rfl, g, _, rfl, hg, fun H6 s6 => ?_⟩
      have s46 := s5.trans s6
      have C6 := C4.same s46
      cases hd : Pu.differ (Pu.flow l xc (Pu.sentBy qc yc) 0) with
      | some k =>
        rw [st_copy_dif e2 e4 hd] at q
        refine ⟨_, rfl, rfl, _, rfl, ift rfl ?_⟩
        refine ⟨_, rfl, (by show 2 ≤ sizeLine; decide), fun r nr => ?_⟩
        exact q.new C6 _ r (same_upd nr) nr upd_same
      | none =>
        rw [st_copy_ok e2 e4 hd] at q
        refine ⟨_, rfl, rfl, _, rfl, iff_ rfl ?_⟩
        have g1' := s46 _ _ g1
        refine ⟨_, rfl, da, de.cDk, dz, _, _, rfl, s46 _ _ hda, T.cl_Desk, T.n_punch, dkF_punch _, _, rfl, _, rfl, pu, a4, g, pa, qa, dy, yc, _, rfl, g1', s46 _ _ hy, oy, hg.same s6, fun H7 r7 s7 n7 h7 => ?_⟩
        have fl := flow_lt g2 (getD_lt ox.2) (sentBy_lt g4 oy)
        have ob := becomes_ok oy (fun k => fl 0 k)
        generalize hB : Pu.becomes yc (Pu.flow l xc (Pu.sentBy qc yc) 0) = bc at *
        have s47 := s46.trans s7
        have C7 := C4.same s47
        have g1'' := s47 _ _ g1
        have hda7 := s47 _ _ hda
        have nrt := (C4.same s46).ne n7
        have nrp : r7 ≠ pu := ne_of h7 g1'' (fun z => by cases z)
        have h8 : (upd H7 pu (.ins de.cRP dy (rpF pa r7))) r7 = some (.lst (bc.map vN)) := by rw [upd_ne nrp]; exact h7
        have hg7 := (hg.same s6).same s7
        have hg8 : GoesAt (upd H7 pu (.ins de.cRP dy (rpF pa r7))) g (Pu.flow l xc (Pu.sentBy qc yc)) := by
          obtain ⟨kvs, z1, z2, z3⟩ := hg7
          exact ⟨kvs, by rw [upd_ne (ne_of z1 g1'' (fun z => by cases z))]; exact z1, z2, z3⟩
        have p8 := (g2.same s47).of (H' := upd H7 pu (.ins de.cRP dy (rpF pa r7))) (fun xs z => by rw [upd_ne (ne_of z g1'' (fun z => by cases z))]; exact z) (fun b xs z => by rw [upd_ne (ne_of z g1'' (fun z => by cases z))]; exact z)
        have C8 := C7.punch (fs' := rpF pa r7) (s' := .copying l bc) hda7 g1'' (.inl rfl) ⟨pu, dy, pa, r7, rfl, upd_same, p8, h8, ob, g5, nrt⟩
        have q1 := q.new C8
        refine ⟨_, rfl, g, _, rfl, hg8, fun H9 s9 => ⟨_, rfl, ?_⟩⟩
        cases hs : (Pu.flow l xc (Pu.sentBy qc yc) 0 80 != 0) with
        | true =>
          have eh : MachinesNeutral.told (Machines.nums 0 ((if (true : Bool) = true then 1 else 0) :: Machines.cardNums bc)) = 0 :: 1 :: Machines.ints (Pu.told bc) := rfl
          refine ift rfl ?_
          refine ⟨(by show 2 ≤ sizeLine; decide), fun r1 m1 => ?_⟩
          have u1 := same_upd (o := .lst [V.int 0, V.int 1]) m1
          refine ⟨_, rfl, r7, bc, rfl, SqL.of (u1 _ _ (s9 _ _ h8)), ob.1, fun Ha r2 sa m2 h2 => ?_⟩
          refine ⟨r1, r2, _, _, rfl, rfl, sa _ _ upd_same, h2, ?_, fun r nr => ?_⟩
          · rw [List.length_map]
            have := told_len bc
            exact Nat.le_of_lt (size_big (by show 2 + (Pu.told bc).length ≤ _; omega))
          have sZ := s9.trans (u1.trans sa)
          rw [hs, eh] at q1
          refine q1 _ r (sZ.trans (same_upd nr)) (sZ.free nr) ?_
          rw [upd_same, List.map_cons, List.map_cons, ints_vN]
          rfl
        | false =>
          have eh : MachinesNeutral.told (Machines.nums 0 ((if (false : Bool) = true then 1 else 0) :: Machines.cardNums bc)) = 0 :: 0 :: Machines.ints (Pu.told bc) := rfl
          refine iff_ rfl ?_
          refine ⟨(by show 2 ≤ sizeLine; decide), fun r1 m1 => ?_⟩
          have u1 := same_upd (o := .lst [V.int 0, V.int 0]) m1
          refine ⟨_, rfl, r7, bc, rfl, SqL.of (u1 _ _ (s9 _ _ h8)), ob.1, fun Ha r2 sa m2 h2 => ?_⟩
          refine ⟨r1, r2, _, _, rfl, rfl, sa _ _ upd_same, h2, ?_, fun r nr => ?_⟩
          · rw [List.length_map]
            have := told_len bc
            exact Nat.le_of_lt (size_big (by show 2 + (Pu.told bc).length ≤ _; omega))
          have sZ := s9.trans (u1.trans sa)
          rw [hs, eh] at q1
          refine q1 _ r (sZ.trans (same_upd nr)) (sZ.free nr) ?_
          rw [upd_same, List.map_cons, List.map_cons, ints_vN]
          rfl
end
end CP
/-! HDesk8 -/
namespace CP
open PySem PySem.Spec PyProof.Rows L2
/-- a program that's read, or none -/
def ProgV (de : AdE) (H : Hp) (t : Addr) (v : V) (o : Option (List Pu.Step)) : Prop := (o = none ∧ v = .non) ∨ ∃ a x, o = some x ∧ v = .ref a ∧ StepsAt de H a x ∧ a ≠ t
theorem ProgV.same {de : AdE} {H H' : Hp} {t : Addr} {v : V} {o : Option (List Pu.Step)} (h : ProgV de H t v o) (s : Same H H') : ProgV de H' t v o := by
  rcases h with h | ⟨a, x, h1, h2, h3, h4⟩
  · exact .inl h
  · exact .inr ⟨a, x, h1, h2, h3.same s, h4⟩
theorem StepsAt.sb {de : AdE} {H H' : Hp} {p C dx a : Addr} {fs : List (Str × V)} {x : List Pu.Step} (h : StepsAt de H a x) (s : SB p H H') (hp : H p = some (.ins C dx fs)) (nf : ¬ FixN fs) : StepsAt de H' a x := by
  obtain ⟨as, e, si⟩ := h
  refine ⟨as, s _ _ e (ne_of e hp (fun z => by cases z)), si.of fun b C' dx' fs' q f => s _ _ q fun z => ?_⟩
  subst z
  rw [hp] at q
  have := Option.some.inj q
  injection this with _ _ e3
  rw [e3] at nf
  exact nf f
theorem ProgV.sb {de : AdE} {H H' : Hp} {p C dx t : Addr} {fs : List (Str × V)} {v : V} {o : Option (List Pu.Step)} (h : ProgV de H t v o) (s : SB p H H') (hp : H p = some (.ins C dx fs)) (nf : ¬ FixN fs) : ProgV de H' t v o := by
  rcases h with h | ⟨a, x, h1, h2, h3, h4⟩
  · exact .inl h
  · exact .inr ⟨a, x, h1, h2, h3.sb s hp nf, h4⟩
theorem rp_any {K : PySem.W.Frag} {de : AdE} {H : Hp} {Q : VK} {E : XK} {a t : Addr} {ns : List Int} {ts : List V} (ha : H a = some (.lst (ns.map V.int))) (hl : ns.length ≤ 100000) (ht : H t = some (.lst ts)) (k : ∀ H' v, Same H H' → ProgV de H' t v (Pu.programOf ns) → Q v H') : sp_read_program K de [.ref a] H Q E :=
  ⟨a, ns, rfl, SqL.of ha, hl, fun e H' s => k H' .non s (.inl ⟨e, rfl⟩), fun x e H' r s n h => k H' (.ref r) s (.inr ⟨r, x, e, rfl, h, fun z => by rw [z, ht] at n; cases n⟩)⟩
theorem StepsIn.updCP {de : AdE} {H : Hp} {pu dy sa pa ka : Addr} {o : HO} (g : H pu = some (.ins de.cCP dy (cpF sa pa ka))) {as : List Addr} {d : List Pu.Step} (h : StepsIn de H as d) : StepsIn de (L2.upd H pu o) as d := by
  induction h with
  | nil => exact .nil
  | @cons _ x1 _ _ e _ ih =>
    obtain ⟨dq, e⟩ := e
    refine .cons ⟨dq, ?_⟩ ih
    rw [upd_ne ?_]
    · exact e
    intro z
    rw [z, g] at e
    have := Option.some.inj e
    injection this with _ _ e3
    have e4 : hdN (cpF sa pa ka) = hdN (stT x1) := by rw [e3]
    exact (show ¬ (("steps" : Str) = "op") by decide +kernel) (Option.some.inj e4)
section
open Machines MachinesNeutral
theorem st_setwork_no {s : State} {g : List Int} {b : Pu.Bytes} (h : Pu.programOf g = none) : Machines.step s (.setwork g b) = (s, num (-2)) := by
  show (match Pu.programOf g with | none => (s, num (-2)) | some p => _) = _
  rw [h]
theorem st_setwork_err {s : State} {g : List Int} {b : Pu.Bytes} {p : List Pu.Step} {a : Answer} (h : Pu.programOf g = some p) (h2 : panelOf b = .error a) : Machines.step s (.setwork g b) = (s, a) := by
  show (match Pu.programOf g with | none => (s, num (-2)) | some p => (match panelOf b with | .error a => (s, a) | .ok l => (State.working l p Pu.noneKept, num 0))) = _
  rw [h]
  show (match panelOf b with | .error a => (s, a) | .ok l => _) = _
  rw [h2]
theorem st_setwork_ok {s : State} {g : List Int} {b : Pu.Bytes} {p : List Pu.Step} {l : List Pu.Wire} (h : Pu.programOf g = some p) (h2 : panelOf b = .ok l) : Machines.step s (.setwork g b) = (.working l p Pu.noneKept, num 0) := by
  show (match Pu.programOf g with | none => (s, num (-2)) | some p => (match panelOf b with | .error a => (s, a) | .ok l => (State.working l p Pu.noneKept, num 0))) = _
  rw [h]
  show (match panelOf b with | .error a => (s, a) | .ok l => _) = _
  rw [h2]
theorem st_work_no {s : State} {x : List Int} (h : ∀ l p k, s ≠ .working l p k) : Machines.step s (.work x) = (s, num (-3)) := by
  cases s with
  | none_ => rfl
  | copying l q => rfl
  | working l p k => exact absurd rfl (h l p k)
theorem st_work_card {l : List Pu.Wire} {p : List Pu.Step} {z x : List Int} (h : cardOf_ x = none) : Machines.step (.working l p z) (.work x) = (.working l p z, NOCARD) := by
  show (match cardOf_ x with | none => (State.working l p z, NOCARD) | some x => _) = _
  rw [h]
def runW (l : List Pu.Wire) (p : List Pu.Step) (z : List Int) (c : Pu.Card) := Pu.runSteps (Pu.flow l c Pu.noSending 0) 0 0 p c (Pu.begun z)
theorem st_work_err {l : List Pu.Wire} {p : List Pu.Step} {z x : List Int} {c : Pu.Card} {e i : Nat} (h : cardOf_ x = some c) (h2 : runW l p z c = .error (e, i)) : Machines.step (.working l p z) (.work x) = (.working l p z, nums (-5) (Machines.ints [e, i])) := by
  show (match cardOf_ x with | none => (State.working l p z, NOCARD) | some x => (match Pu.calculated l p z x with | .error (w, i) => (State.working l p z, nums (-5) (Machines.ints [w, i])) | .ok (y, e) => (State.working l p e, nums 0 (cardNums y)))) = _
  rw [h]
  show (match Pu.calculated l p z c with | .error (w, i) => (State.working l p z, nums (-5) (Machines.ints [w, i])) | .ok (y, e) => (State.working l p e, nums 0 (cardNums y))) = _
  have : Pu.calculated l p z c = .error (e, i) := by
    unfold Pu.calculated
    unfold runW at h2
    rw [h2]; rfl
  rw [this]
theorem st_work_ok {l : List Pu.Wire} {p : List Pu.Step} {z x : List Int} {c : Pu.Card} {y : Pu.Card × Pu.Counters} (h : cardOf_ x = some c) (h2 : runW l p z c = .ok y) : Machines.step (.working l p z) (.work x) = (.working l p (y.2.drop 8), nums 0 (cardNums y.1)) := by
  show (match cardOf_ x with | none => (State.working l p z, NOCARD) | some x => (match Pu.calculated l p z x with | .error (w, i) => (State.working l p z, nums (-5) (Machines.ints [w, i])) | .ok (y, e) => (State.working l p e, nums 0 (cardNums y)))) = _
  rw [h]
  show (match Pu.calculated l p z c with | .error (w, i) => (State.working l p z, nums (-5) (Machines.ints [w, i])) | .ok (y, e) => (State.working l p e, nums 0 (cardNums y))) = _
  have : Pu.calculated l p z c = .ok (y.1, y.2.drop 8) := by
    unfold Pu.calculated
    unfold runW at h2
    rw [h2]; rfl
  rw [this]
end
section
variable {P : Program} {w : World} {K : PySem.W.Frag} {mg : Str → Option Value} {base : Heap} {ad : Ad} {dd : AdD} {de : AdE}
abbrev s_answer_setwork : Stmt := topS 181
abbrev N_answer_setwork : List Str := ["reader", "desk", "steps", "text", "refusal"]
theorem sc_answer_setwork : FnScope N_answer_setwork ["reader", "desk"] (defScope s_answer_setwork) := ⟨rfl, rfl, rfl, by decide +kernel, rfl, by decide +kernel, by decide +kernel⟩
def sp_setwork (K : PySem.W.Frag) (dd : AdD) (de : AdE) : Sp := fun vs H Q _ => ∃ (p la da t : Addr) (i : Nat) (cs rest g x : List Int) (s : Machines.State) (ts : List V), vs = [.ref p, .ref da] ∧ Cx6 K dd de H p la da t cs i s ts ∧ cs.drop i = (g.length : Int) :: g ++ ((x.length : Int) :: x ++ rest) ∧ g.length ≤ 100000 ∧ x.length ≤ 100000 ∧ ByteRow x ∧
  AnsC K dd de Q p la da t cs (i + 1 + g.length + 1 + x.length) ts (Machines.step s (.setwork g (MachinesNeutral.text x)))
theorem ok_answer_setwork {f : Addr} {fd : FuncData} (F : Fun K "answer_setwork" "answer_setwork" s_answer_setwork f fd) (T : TxtE P w K mg ad dd de) (D_CallReader_next_row : MDcl P w K mg base 1 dd.cR "next_row" ["self"] (sp_next_row K dd)) (D_read_program : Dcl P w K mg base 5 "read_program" ["numbers"] (sp_read_program K de)) (D_panel_refusal : Dcl P w K mg base 7 "panel_refusal" ["text"] (sp_panel_refusal K)) (D_read_panel : Dcl P w K mg base 7 "read_panel" ["text"] (sp_read_panel K)) (D_CalculatingPunch : CDcl P w K mg base 1 de.cCP "CalculatingPunch" ["self", "steps", "panel"] (sp_cp_init de)) : FnOk P w K mg base CX0 8 f fd ["reader", "desk"] (sp_setwork K dd de) := by
  refine F.ok sc_answer_setwork (fun vs H Q E h => ?_) (fun cdv A outer s H vs Q E hr h => ?_)
  · obtain ⟨p, la, da, t, i, cs, rest, g, x, s, ts, rfl, _⟩ := h; rfl
  · obtain ⟨p, la, da, t, i, cs, rest, g, x, s, ts, rfl, C, hz, lg, lx, bx, q⟩ := h
    obtain ⟨dx, hp⟩ := C.rd
    refine ⟨_, (pss_cons (ps_set (i := 2) sc_answer_setwork.nd rfl (Or.inl rfl) (pe_call D_read_program.ok (hr.mono (by decide)) (by rfl) D_read_program.g D_read_program.kp D_read_program.b .nil pass0 (pa_cons (pe_meth0 (pv 0) T.cl_CallReader D_CallReader_next_row.m D_CallReader_next_row.ok (hr.mono (by decide)) D_CallReader_next_row.b .nil pass0) pa_nil)))
      (pss_cons (ps_set (i := 3) sc_answer_setwork.nd rfl (Or.inl rfl) (pe_meth0 (pv 0) T.cl_CallReader D_CallReader_next_row.m D_CallReader_next_row.ok (hr.mono (by decide)) D_CallReader_next_row.b .nil pass0))
      (pss_cons (ps_if (pt_cmpR op_isN (pv 2) pe_non (nomark _))
      (pss_one (ps_ret (pe_lst (pa_cons (pe_gint (by rfl) T.g_NO_PROGRAM) pa_nil))))
      pss_nil)
      (pss_cons (ps_set (i := 4) sc_answer_setwork.nd rfl (Or.inl rfl) (pe_call D_panel_refusal.ok (hr.mono (by decide)) (by rfl) D_panel_refusal.g D_panel_refusal.kp D_panel_refusal.b .nil pass0 (pa_cons (pv 3) pa_nil)))
      (pss_cons (ps_if (pt_cmpR op_gt (pe_callB call_len_seq (by rfl) T.b_len PySem.boot_len (pa_cons (pv 4) pa_nil)) pe_int (nomark _))
      (pss_one (ps_ret (pv 4)))
      pss_nil)
      (pss_cons (ps_fld (pv 1) (pe_make D_CalculatingPunch.make D_CalculatingPunch.ok (hr.mono (by decide)) (by rfl) D_CalculatingPunch.g D_CalculatingPunch.b .nil pass0 (pa_cons (pv 2) (pa_cons (pe_call D_read_panel.ok (hr.mono (by decide)) (by rfl) D_read_panel.g D_read_panel.kp D_read_panel.b .nil pass0 (pa_cons (pv 3) pa_nil)) pa_nil))) rfl)
      (pss_one (ps_ret (pe_lst (pa_cons pe_int pa_nil)))))))))), ?_⟩
    refine ⟨_, rfl, p, dx, _, rfl, hp, nn_row, p, la, i, cs, g, _, rfl, ⟨dx, hp⟩, C.sq, hz, fun H1 ra b1 rd1 n1 h1 => ?_⟩
    have hz1 := rest_row hz
    have C1 := C.sb b1 rd1
    dsimp only [tNil, List.cons_append, List.nil_append]
    refine rp_any h1 lg C1.tl fun H2 v2 s2 k2 => ?_
    have C2 := C1.same s2
    obtain ⟨dx2, hp2⟩ := C2.rd
    refine ⟨_, rfl, p, dx2, _, rfl, hp2, nn_row, p, la, _, cs, x, rest, rfl, ⟨dx2, hp2⟩, C2.sq, hz1, fun H3 rb b3 rd3 n3 h3 => ?_⟩
    have C3 := C2.sb b3 rd3
    have k3 := k2.sb b3 hp2 (fix_rd _ _)
    rw [row_bytes bx] at h3
    have lb : (MachinesNeutral.text x).length ≤ 100000 := by unfold MachinesNeutral.text; rw [List.length_map]; exact lx
    rcases k3 with ⟨e2, rfl⟩ | ⟨a2, ps, e2, rfl, hs, nst⟩
    · rw [st_setwork_no e2] at q
      refine ⟨_, rfl, rfl, _, rfl, ift rfl ?_⟩
      refine ⟨(by show 1 ≤ sizeLine; decide), fun r nr => ?_⟩
      exact q.new C3 _ r (same_upd nr) nr upd_same
    refine ⟨_, rfl, rfl, _, rfl, iff_ rfl ?_⟩
    refine ⟨_, rfl, rb, _, rfl, SqL.of h3, lb, fun H4 rr s4 n4 h4 => ?_⟩
    have C4 := C3.same s4
    refine ⟨_, rfl, rr, _, rfl, .inl (SqL.of h4), _, _, rfl, rfl, _, rfl, ?_⟩
    cases hpo : Machines.panelOf (MachinesNeutral.text x) with
    | error a =>
      rw [hpo] at h4
      rw [st_setwork_err e2 hpo] at q
      refine ift (decide_eq_true (by show (0 : Int) < ((a.more.map V.int).length + 1 : Nat); omega)) ?_
      exact ⟨_, rfl, q H4 rr C4 h4 (C3.ne n4)⟩
    | ok l =>
      rw [st_setwork_ok e2 hpo] at q
      refine iff_ rfl ?_
      refine ⟨_, rfl, _, rfl, rb, _, l, rfl, SqL.of (s4 _ _ h3), lb, hpo, fun H5 pp s5 n5 h5 => ?_⟩
      have C5 := C4.same s5
      intro y dy ny ndy ney
      refine ⟨y, a2, pp, dy, rfl, upd_same, fun H6 ka h6 nk hk sb6 => ⟨rfl, ?_⟩⟩
      have s6 : Same H5 H6 := Same.made ny ndy sb6
      have C6 := C5.same s6
      have nkt : ka ≠ t := by
        intro e
        rw [e] at nk
        have : (upd (upd H5 dy (.own y)) y (.ins de.cCP dy [])) t = some (.lst ts) := by
          rw [upd_ne (ne_of_none C5.tl ny), upd_ne (ne_of_none C5.tl ndy)]; exact C5.tl
        rw [this] at nk; cases nk
      obtain ⟨po1, po2⟩ := program_ok e2
      obtain ⟨dd', v, hda, hv⟩ := C6.dk
      refine ⟨_, rfl, da, de.cDk, dd', _, rfl, hda, T.cl_Desk, T.n_punch, (by show 1 < 1000; decide), ?_⟩
      rw [dkP_punch]
      have C7 := C6.set (u := .ref y) (s' := .working l ps Pu.noneKept) hda ⟨y, dy, a2, pp, ka, rfl, h6, ((hs.same s4).same s5).same s6, h5.same s6, hk, rfl, (by decide), po1, po2, nst, C4.ne n5, nkt⟩
      refine ⟨(by show 1 ≤ sizeLine; decide), fun r nr => ?_⟩
      exact q.new C7 _ r (same_upd nr) nr upd_same
abbrev s_answer_work : Stmt := topS 182
abbrev N_answer_work : List Str := ["reader", "desk", "card", "run", "wrong"]
theorem sc_answer_work : FnScope N_answer_work ["reader", "desk"] (defScope s_answer_work) := ⟨rfl, rfl, rfl, by decide +kernel, rfl, by decide +kernel, by decide +kernel⟩
def sp_work (K : PySem.W.Frag) (dd : AdD) (de : AdE) : Sp := fun vs H Q _ => ∃ (p la da t : Addr) (i : Nat) (cs rest x : List Int) (s : Machines.State) (ts : List V), vs = [.ref p, .ref da] ∧ Cx6 K dd de H p la da t cs i s ts ∧ cs.drop i = (x.length : Int) :: x ++ rest ∧ x.length ≤ 100000 ∧
  AnsC K dd de Q p la da t cs (i + 1 + x.length) ts (Machines.step s (.work x))
theorem ok_answer_work {f : Addr} {fd : FuncData} (F : Fun K "answer_work" "answer_work" s_answer_work f fd) (T : TxtE P w K mg ad dd de) (D_CallReader_next_row : MDcl P w K mg base 1 dd.cR "next_row" ["self"] (sp_next_row K dd)) (D_read_card : Dcl P w K mg base 2 "read_card" ["numbers"] (sp_read_card K)) (D_begin_card : Dcl P w K mg base 5 "begin_card" ["punch", "card"] (sp_begin_card de)) (D_run_steps : Dcl P w K mg base 5 "run_steps" ["steps", "run"] (sp_run_steps de)) (D_keep_counters : Dcl P w K mg base 1 "keep_counters" ["punch", "run"] (sp_keep de)) (D_tell_card : Dcl P w K mg base 1 "tell_card" ["card"] (sp_tell_card K)) : FnOk P w K mg base CX0 6 f fd ["reader", "desk"] (sp_work K dd de) := by
  refine F.ok sc_answer_work (fun vs H Q E h => ?_) (fun cdv A outer s H vs Q E hr h => ?_)
  · obtain ⟨p, la, da, t, i, cs, rest, x, s, ts, rfl, _⟩ := h; rfl
  · obtain ⟨p, la, da, t, i, cs, rest, x, s, ts, rfl, C, hz, lx, q⟩ := h
    obtain ⟨dx, hp⟩ := C.rd
    refine ⟨_, (pss_cons (ps_set (i := 2) sc_answer_work.nd rfl (Or.inl rfl) (pe_call D_read_card.ok (hr.mono (by decide)) (by rfl) D_read_card.g D_read_card.kp D_read_card.b .nil pass0 (pa_cons (pe_meth0 (pv 0) T.cl_CallReader D_CallReader_next_row.m D_CallReader_next_row.ok (hr.mono (by decide)) D_CallReader_next_row.b .nil pass0) pa_nil)))
      (pss_cons (ps_if (pt_not (pt_val (pe_callB call_isi (by rfl) T.b_isinstance (by decide +kernel) (pa_cons (pe_fld (pv 1) rfl) (pa_cons (pe_gref (by rfl) T.g_CalculatingPunch) pa_nil)))))
      (pss_one (ps_ret (pe_lst (pa_cons (pe_gint (by rfl) T.g_NOT_SET_UP) pa_nil))))
      pss_nil)
      (pss_cons (ps_if (pt_cmpR op_isN (pv 2) pe_non (nomark _))
      (pss_one (ps_ret (pe_lst (pa_cons (pe_gint (by rfl) T.g_NO_CARD) pa_nil))))
      pss_nil)
      (pss_cons (ps_set (i := 3) sc_answer_work.nd rfl (Or.inl rfl) (pe_call D_begin_card.ok (hr.mono (by decide)) (by rfl) D_begin_card.g D_begin_card.kp D_begin_card.b .nil pass0 (pa_cons (pe_fld (pv 1) rfl) (pa_cons (pv 2) pa_nil))))
      (pss_cons (ps_set (i := 4) sc_answer_work.nd rfl (Or.inl rfl) (pe_call D_run_steps.ok (hr.mono (by decide)) (by rfl) D_run_steps.g D_run_steps.kp D_run_steps.b .nil pass0 (pa_cons (pe_fld (pe_fld (pv 1) rfl) rfl) (pa_cons (pv 3) pa_nil))))
      (pss_cons (ps_if (pt_cmpR op_gt (pe_callB call_len_seq (by rfl) T.b_len PySem.boot_len (pa_cons (pv 4) pa_nil)) pe_int (nomark _))
      (pss_one (ps_ret (pe_op op_cat (pe_lst (pa_cons (pe_gint (by rfl) T.g_WRONG_STEP) pa_nil)) (pv 4))))
      pss_nil)
      (pss_cons (ps_expr (pe_call D_keep_counters.ok (hr.mono (by decide)) (by rfl) D_keep_counters.g D_keep_counters.kp D_keep_counters.b .nil pass0 (pa_cons (pe_fld (pv 1) rfl) (pa_cons (pv 3) pa_nil))))
      (pss_one (ps_ret (pe_op op_cat (pe_lst (pa_cons pe_int pa_nil)) (pe_call D_tell_card.ok (hr.mono (by decide)) (by rfl) D_tell_card.g D_tell_card.kp D_tell_card.b .nil pass0 (pa_cons (pe_fld (pv 3) rfl) pa_nil)))))))))))), ?_⟩
    refine ⟨_, rfl, p, dx, _, rfl, hp, nn_row, p, la, i, cs, x, _, rfl, ⟨dx, hp⟩, C.sq, hz, fun H1 ra b1 rd1 n1 h1 => ?_⟩
    have C1 := C.sb b1 rd1
    dsimp only [tNil, List.cons_append, List.nil_append]
    refine rc_any h1 lx fun H2 v2 s2 k2 => ?_
    have C2 := C1.same s2
    obtain ⟨dz, v, hda, hv⟩ := C2.dk
    refine ⟨_, rfl, da, de.cDk, dz, _, _, rfl, hda, T.cl_Desk, T.n_punch, dkF_punch v, ?_⟩
    cases s with
    | none_ =>
      obtain rfl : v = .non := hv
      rw [st_work_no (by intro l q k z; cases z)] at q
      refine ⟨_, _, _, _, false, rfl, .own _, .base .non, T.k_NC, _, rfl, ift rfl ?_⟩
      refine ⟨(by show 1 ≤ sizeLine; decide), fun r nr => ?_⟩
      exact q.new C2 _ r (same_upd nr) nr upd_same
    | copying l qc =>
      obtain ⟨pu, dy, pa, qa, rfl, g1, hr⟩ := hv
      rw [st_work_no (by intro l q k z; cases z)] at q
      refine ⟨_, _, _, _, false, rfl, .own _, T.i_RP.ty g1, T.k_RC, _, rfl, ift rfl ?_⟩
      refine ⟨(by show 1 ≤ sizeLine; decide), fun r nr => ?_⟩
      exact q.new C2 _ r (same_upd nr) nr upd_same
    | working l ps kept =>
      obtain ⟨pu, dy, sa, pa, ka, rfl, g1, g2, g3, g4, g5, g6, g7, g8, m1, m2, m3⟩ := hv
      refine ⟨_, _, _, _, true, rfl, .own _, T.i_CP.ty g1, T.k_CC, _, rfl, iff_ rfl ?_⟩
      rcases k2 with ⟨e2, rfl⟩ | ⟨a2, xc, e2, rfl, hx, ox⟩
      · rw [st_work_card e2] at q
        refine ⟨_, rfl, rfl, _, rfl, ift rfl ?_⟩
        refine ⟨(by show 1 ≤ sizeLine; decide), fun r nr => ?_⟩
        exact q.new C2 _ r (same_upd nr) nr upd_same
      refine ⟨_, rfl, rfl, _, rfl, iff_ rfl ?_⟩
      refine ⟨_, rfl, da, de.cDk, dz, _, _, rfl, hda, T.cl_Desk, T.n_punch, dkF_punch _, _, rfl, pu, a2, sa, pa, ka, dy, l, xc, kept, rfl, g1, g3, hx, ox, g4, begun_ok g5 g6, g5, fun H3 ru ca za g s3 nru nca nza R3 => ?_⟩
      have C3 := C2.same s3
      have g1' := s3 _ _ g1
      have hda3 := s3 _ _ hda
      have g2' := g2.same s3
      have gS := g2
      obtain ⟨as2, ea2, _⟩ := g2
      have nsc : sa ≠ ca := ne_of_none ea2 nca
      have nsz : sa ≠ za := ne_of_none ea2 nza
      refine ⟨_, rfl, da, de.cDk, dz, _, _, rfl, hda3, T.cl_Desk, T.n_punch, dkF_punch _, pu, de.cCP, dy, _, _, rfl, g1', T.i_CP.cl, T.n_steps, cpF_steps .., _, rfl, sa, ru, ca, za, g, ps, xc, _, _, rfl, g2', g8, g7, nsc, nsz, R3, fun e i he H4 r4 s4 n4 h4 => ?_, fun y hy H4 r4 s4 n4 h4 R4 => ?_⟩
      · have s24 : Same H2 H4 := fun b o hb => s4 _ _ (s3 _ _ hb) (ne_of_none hb nca) (ne_of_none hb nza)
        have C4 := C2.same s24
        rw [st_work_err e2 he] at q
        refine ⟨_, rfl, r4, _, rfl, .inl (SqL.of h4), _, _, rfl, rfl, _, rfl, ift rfl ?_⟩
        refine ⟨(by show 1 ≤ sizeLine; decide), fun r5 n5 => ?_⟩
        have t5 := same_upd (o := .lst [V.int (-5)]) n5
        refine ⟨_, rfl, r5, r4, _, _, rfl, rfl, upd_same, t5 _ _ h4, (by show 1 + 2 ≤ sizeLine; decide), fun r nr => ?_⟩
        exact q.new C4 _ r (t5.trans (same_upd nr)) (t5.free nr) upd_same
      · have s24 : Same H2 H4 := fun b o hb => s4 _ _ (s3 _ _ hb) (ne_of_none hb nca) (ne_of_none hb nza)
        have C4 := C2.same s24
        rw [st_work_ok e2 hy] at q
        refine ⟨_, rfl, r4, _, rfl, .inl (SqL.of h4), _, _, rfl, rfl, _, rfl, iff_ rfl ?_⟩
        have g1'' := s24 _ _ g1
        have hda4 := s24 _ _ hda
        refine ⟨_, rfl, da, de.cDk, dz, _, _, rfl, hda4, T.cl_Desk, T.n_punch, dkF_punch _, _, rfl, pu, ru, sa, pa, ka, dy, ca, za, g, y.1, y.2, _, rfl, g1'', R4, fun r5 n5 => ?_⟩
        have t5 := same_upd (o := .lst ((y.2.drop 8).map V.int)) n5
        have C5 := C4.same t5
        have g15 := t5 _ _ g1''
        have hda5 := t5 _ _ hda4
        have s25 := s24.trans t5
        have n5t : r5 ≠ t := C4.ne n5
        have nep : ∀ {b : Addr} {xs : List V} {H' : Hp}, H' b = some (.lst xs) → H' pu = some (.ins de.cCP dy (cpF sa pa ka)) → b ≠ pu := fun h1 h2 => ne_of h1 h2 (fun z => by cases z)
        have R5 := R4.same t5
        obtain ⟨dr, hru⟩ := R5.ins
        have nru' : ru ≠ pu := by
          intro z
          rw [z, g1] at nru; cases nru
        have hru6 : (upd (upd H4 r5 (.lst ((y.2.drop 8).map V.int))) pu (.ins de.cCP dy (cpF sa pa r5))) ru = some (.ins de.cCR dr (rnF ca za g)) := by rw [upd_ne nru']; exact hru
        have hca6 : (upd (upd H4 r5 (.lst ((y.2.drop 8).map V.int))) pu (.ins de.cCP dy (cpF sa pa r5))) ca = some (.lst (y.1.map vN)) := by rw [upd_ne (nep R5.card g15)]; exact R5.card
        have st6 : StepsAt de (upd (upd H4 r5 (.lst ((y.2.drop 8).map V.int))) pu (.ins de.cCP dy (cpF sa pa r5))) sa ps := by
          obtain ⟨as, ea, si⟩ := gS.same s25
          exact ⟨as, by rw [upd_ne (nep ea g15)]; exact ea, si.updCP g15⟩
        have p6 := (g3.same s25).of (H' := upd (upd H4 r5 (.lst ((y.2.drop 8).map V.int))) pu (.ins de.cCP dy (cpF sa pa r5))) (fun xs z => by rw [upd_ne (nep z g15)]; exact z) (fun b xs z => by rw [upd_ne (ne_of z g15 (fun z => by cases z))]; exact z)
        have C6 := C5.punch (fs' := cpF sa pa r5) (s' := .working l ps (y.2.drop 8)) hda5 g15 (.inr (.inl rfl)) ⟨pu, dy, sa, pa, r5, rfl, upd_same, st6, p6, by rw [upd_ne (nep upd_same g15)]; exact upd_same, by rw [List.length_drop, R4.oz.len], fun v hv => R4.oz.lt v (List.mem_of_mem_drop hv), g7, g8, m1, m2, n5t⟩
        refine ⟨(by show 1 ≤ sizeLine; decide), fun r6 n6 => ?_⟩
        have t6 := same_upd (o := .lst [V.int 0]) n6
        refine ⟨_, rfl, ru, de.cCR, dr, _, _, rfl, t6 _ _ hru6, T.cl_CardRun, T.n_card, rnF_card .., ca, y.1, rfl, SqL.of (t6 _ _ hca6), R4.ox.1, fun H7 r7 s7 n7 h7 => ?_⟩
        refine ⟨r6, r7, _, _, rfl, rfl, s7 _ _ upd_same, h7, ?_, fun r nr => ?_⟩
        · rw [List.length_map]
          have := told_len y.1
          exact Nat.le_of_lt (size_big (by show 1 + (Pu.told y.1).length ≤ _; omega))
        · have sZ := t6.trans s7
          refine q.new C6 _ r (sZ.trans (same_upd nr)) (sZ.free nr) ?_
          rw [upd_same]
          show some (HO.lst (V.int 0 :: (Pu.told y.1).map vN)) = some (HO.lst (V.int 0 :: (Machines.ints (Pu.told y.1)).map V.int))
          rw [ints_vN]
end
end CP
/-! HDesk9 -/
namespace CP
open PySem PySem.Spec PyProof.Rows L2
/-! ### calls as they're handed in -/
theorem fl1 (c l : Int) (s d rest : List Int) : flat1 [[1, c, l], s, d] ++ rest = 1 :: c :: l :: ((s.length : Int) :: s ++ ((d.length : Int) :: d ++ rest)) := by simp [flat1]
theorem fl2 (c n : Int) (d rest : List Int) : flat1 [[2, c, n], d] ++ rest = 2 :: c :: n :: ((d.length : Int) :: d ++ rest) := by simp [flat1]
theorem fl3 (c e n h : Int) (a b rest : List Int) : flat1 [[3, c, e, n, h], a, b] ++ rest = 3 :: c :: e :: n :: h :: ((a.length : Int) :: a ++ ((b.length : Int) :: b ++ rest)) := by simp [flat1]
theorem fl4 (x d rest : List Int) : flat1 [[4], x, d] ++ rest = 4 :: ((x.length : Int) :: x ++ ((d.length : Int) :: d ++ rest)) := by simp [flat1]
theorem fl5 (x rest : List Int) : flat1 [[5], x] ++ rest = 5 :: ((x.length : Int) :: x ++ rest) := by simp [flat1]
theorem fl6 (x d rest : List Int) : flat1 [[6], x, d] ++ rest = 6 :: ((x.length : Int) :: x ++ ((d.length : Int) :: d ++ rest)) := by simp [flat1]
theorem fl7 (x d rest : List Int) : flat1 [[7], x, d] ++ rest = 7 :: ((x.length : Int) :: x ++ ((d.length : Int) :: d ++ rest)) := by simp [flat1]
theorem fl8 (x rest : List Int) : flat1 [[8], x] ++ rest = 8 :: ((x.length : Int) :: x ++ rest) := by simp [flat1]
theorem fl9 (rest : List Int) : flat1 [[9]] ++ rest = 9 :: rest := by simp [flat1]
theorem ln1 (c l : Int) (s d : List Int) : (flat1 [[1, c, l], s, d]).length = 1 + (1 + 1 + 1 + s.length + 1 + d.length) := by simp [flat1]; omega
theorem ln2 (c n : Int) (d : List Int) : (flat1 [[2, c, n], d]).length = 1 + (1 + 1 + 1 + d.length) := by simp [flat1]; omega
theorem ln3 (c e n h : Int) (a b : List Int) : (flat1 [[3, c, e, n, h], a, b]).length = 1 + (1 + 1 + 1 + 1 + 1 + a.length + 1 + b.length) := by simp [flat1]; omega
theorem ln4 (x d : List Int) : (flat1 [[4], x, d]).length = 1 + (1 + x.length + 1 + d.length) := by simp [flat1]; omega
theorem ln5 (x : List Int) : (flat1 [[5], x]).length = 1 + (1 + x.length) := by simp [flat1]; omega
theorem ln6 (x d : List Int) : (flat1 [[6], x, d]).length = 1 + (1 + x.length + 1 + d.length) := by simp [flat1]; omega
theorem ln7 (x d : List Int) : (flat1 [[7], x, d]).length = 1 + (1 + x.length + 1 + d.length) := by simp [flat1]; omega
theorem ln8 (x : List Int) : (flat1 [[8], x]).length = 1 + (1 + x.length) := by simp [flat1]; omega
theorem ln9 : (flat1 [[9]]).length = 1 := by simp [flat1]
def rowB (lo hi : Int) (most : Nat) (r : List Int) : Prop := r.length ≤ most ∧ ∀ z ∈ r, lo ≤ z ∧ z ≤ hi
theorem lists_cons {lo hi : Int} {most : Nat} {b : List (Int × Int × Nat × Nat)} {r : List Int} {rs : List (List Int)} (h : PyInside.lists ((lo, hi, 0, most) :: b) (r :: rs) = true) : rowB lo hi most r ∧ PyInside.lists b rs = true := by
  have h : (decide (0 ≤ r.length) && decide (r.length ≤ most) && r.all (PyInside.within lo hi) && PyInside.lists b rs) = true := h
  rw [Bool.and_eq_true, Bool.and_eq_true, Bool.and_eq_true] at h
  refine ⟨⟨of_decide_eq_true h.1.1.2, fun z hz => ?_⟩, h.2⟩
  have := List.all_eq_true.mp h.1.2 z hz
  unfold PyInside.within at this
  rw [Bool.and_eq_true] at this
  exact ⟨of_decide_eq_true this.1, of_decide_eq_true this.2⟩
theorem inb_rows {c : List (List Int)} {p : Int} {xs : List Int} {rows : List (List Int)} (h : InB ((p :: xs) :: rows)) : PyInside.lists (PyWrpunc.bound p).2 rows = true := by
  have h : (PyInside.each (PyWrpunc.bound p).1 xs && PyInside.lists (PyWrpunc.bound p).2 rows) = true := h
  rw [Bool.and_eq_true] at h
  exact h.2
theorem len_le {lo hi : Int} {m : Nat} {r : List Int} (h : rowB lo hi m r) (hm : m ≤ 100000) : r.length ≤ 100000 := Nat.le_trans h.1 hm
section
variable {P : Program} {w : World} {K : PySem.W.Frag} {mg : Str → Option Value} {base : Heap} {ad : Ad} {dd : AdD} {de : AdE}
/-- what's asked of a call's answer -/
def AnsN (K : PySem.W.Frag) (dd : AdD) (de : AdE) (Q : VK) (p la da t : Addr) (cs : List Int) (i : Nat) (ts : List V) (z : Machines.State × List Int) : Prop := ∀ H' r, Cx6 K dd de H' p la da t cs i z.1 ts → H' r = some (.lst (z.2.map V.int)) → r ≠ t → Q (.ref r) H'
abbrev s_answer_punch_call : Stmt := topS 184
abbrev N_answer_punch_call : List Str := ["number", "reader", "desk"]
theorem sc_answer_punch_call : FnScope N_answer_punch_call ["number", "reader", "desk"] (defScope s_answer_punch_call) := ⟨rfl, rfl, rfl, by decide +kernel, rfl, by decide +kernel, by decide +kernel⟩
def sp_punch_call (K : PySem.W.Frag) (dd : AdD) (de : AdE) : Sp := fun vs H Q _ => ∃ (p la da t : Addr) (i : Nat) (cs rest : List Int) (n : Int) (c : List (List Int)) (s : Machines.State) (ts : List V), vs = [.int n, .ref p, .ref da] ∧ Cx6 K dd de H p la da t cs (i + 1) s ts ∧ IsCall c ∧ InB c ∧ n :: cs.drop (i + 1) = flat1 c ++ rest ∧ 5 ≤ n ∧
  AnsN K dd de Q p la da t cs (i + (flat1 c).length) ts (MachinesNeutral.step s c)
theorem ok_answer_punch_call {f : Addr} {fd : FuncData} (F : Fun K "answer_punch_call" "answer_punch_call" s_answer_punch_call f fd) (T : TxtE P w K mg ad dd de) (D_answer_setcopy : Dcl P w K mg base 8 "answer_setcopy" ["reader", "desk"] (sp_setcopy K dd de)) (D_answer_copy : Dcl P w K mg base 6 "answer_copy" ["reader", "desk"] (sp_copy K dd de)) (D_answer_setwork : Dcl P w K mg base 8 "answer_setwork" ["reader", "desk"] (sp_setwork K dd de)) (D_answer_work : Dcl P w K mg base 6 "answer_work" ["reader", "desk"] (sp_work K dd de)) (D_answer_counters : Dcl P w K mg base 1 "answer_counters" ["desk"] (sp_counters K dd de)) : FnOk P w K mg base CX0 9 f fd ["number", "reader", "desk"] (sp_punch_call K dd de) := by
  refine F.ok sc_answer_punch_call (fun vs H Q E h => ?_) (fun cdv A outer s H vs Q E hr h => ?_)
  · obtain ⟨p, la, da, t, i, cs, rest, n, c, s, ts, rfl, _⟩ := h; rfl
  · obtain ⟨p, la, da, t, i, cs, rest, n, c, s, ts, rfl, C, ic, ib, hz, h5, q⟩ := h
    refine ⟨_, (pss_cons (ps_if (pt_cmpR op_eq (pv 0) (pe_gint (by rfl) T.g_SETCOPY) (nomark _))
      (pss_one (ps_ret (pe_call D_answer_setcopy.ok (hr.mono (by decide)) (by rfl) D_answer_setcopy.g D_answer_setcopy.kp D_answer_setcopy.b .nil pass0 (pa_cons (pv 1) (pa_cons (pv 2) pa_nil)))))
      pss_nil)
      (pss_cons (ps_if (pt_cmpR op_eq (pv 0) (pe_gint (by rfl) T.g_COPY) (nomark _))
      (pss_one (ps_ret (pe_call D_answer_copy.ok (hr.mono (by decide)) (by rfl) D_answer_copy.g D_answer_copy.kp D_answer_copy.b .nil pass0 (pa_cons (pv 1) (pa_cons (pv 2) pa_nil)))))
      pss_nil)
      (pss_cons (ps_if (pt_cmpR op_eq (pv 0) (pe_gint (by rfl) T.g_SETWORK) (nomark _))
      (pss_one (ps_ret (pe_call D_answer_setwork.ok (hr.mono (by decide)) (by rfl) D_answer_setwork.g D_answer_setwork.kp D_answer_setwork.b .nil pass0 (pa_cons (pv 1) (pa_cons (pv 2) pa_nil)))))
      pss_nil)
      (pss_cons (ps_if (pt_cmpR op_eq (pv 0) (pe_gint (by rfl) T.g_WORK) (nomark _))
      (pss_one (ps_ret (pe_call D_answer_work.ok (hr.mono (by decide)) (by rfl) D_answer_work.g D_answer_work.kp D_answer_work.b .nil pass0 (pa_cons (pv 1) (pa_cons (pv 2) pa_nil)))))
      pss_nil)
      (pss_cons (ps_if (pt_cmpR op_eq (pv 0) (pe_gint (by rfl) T.g_COUNTERS) (nomark _))
      (pss_one (ps_ret (pe_call D_answer_counters.ok (hr.mono (by decide)) (by rfl) D_answer_counters.g D_answer_counters.kp D_answer_counters.b .nil pass0 (pa_cons (pv 2) pa_nil))))
      pss_nil)
      (pss_one ps_never)))))), ?_⟩
    cases ic with
    | pass c l o d => rw [fl1] at hz; have := (List.cons.inj hz).1; omega
    | follow c n d => rw [fl2] at hz; have := (List.cons.inj hz).1; omega
    | collate c e n h a b => rw [fl3] at hz; have := (List.cons.inj hz).1; omega
    | select x d => rw [fl4] at hz; have := (List.cons.inj hz).1; omega
    | setcopy x =>
      rw [fl5] at hz
      obtain ⟨e, hz'⟩ := List.cons.inj hz
      subst e
      have b1 := (lists_cons (inb_rows (c := []) ib)).1
      refine ⟨_, rfl, rfl, _, rfl, ift rfl ?_⟩
      refine ⟨_, rfl, _, rfl, p, la, da, t, i + 1, cs, rest, x, s, ts, rfl, C, hz', len_le b1 (by decide), b1.2, ?_⟩
      intro H' r C' hr nr
      rw [ln5, show i + (1 + (1 + x.length)) = i + 1 + 1 + x.length by omega] at q
      exact q H' r C' hr nr
    | copy x y =>
      rw [fl6] at hz
      obtain ⟨e, hz'⟩ := List.cons.inj hz
      subst e
      obtain ⟨b1, b2⟩ := lists_cons (inb_rows (c := []) ib)
      have b2 := (lists_cons b2).1
      refine ⟨_, rfl, rfl, _, rfl, iff_ rfl ⟨_, rfl, rfl, _, rfl, ift rfl ?_⟩⟩
      refine ⟨_, rfl, _, rfl, p, la, da, t, i + 1, cs, rest, x, y, s, ts, rfl, C, hz', len_le b1 (by decide), len_le b2 (by decide), ?_⟩
      intro H' r C' hr nr
      rw [ln6, show i + (1 + (1 + x.length + 1 + y.length)) = i + 1 + 1 + x.length + 1 + y.length by omega] at q
      exact q H' r C' hr nr
    | setwork x y =>
      rw [fl7] at hz
      obtain ⟨e, hz'⟩ := List.cons.inj hz
      subst e
      obtain ⟨b1, b2⟩ := lists_cons (inb_rows (c := []) ib)
      have b2 := (lists_cons b2).1
      refine ⟨_, rfl, rfl, _, rfl, iff_ rfl ⟨_, rfl, rfl, _, rfl, iff_ rfl ⟨_, rfl, rfl, _, rfl, ift rfl ?_⟩⟩⟩
      refine ⟨_, rfl, _, rfl, p, la, da, t, i + 1, cs, rest, x, y, s, ts, rfl, C, hz', len_le b1 (by decide), len_le b2 (by decide), b2.2, ?_⟩
      intro H' r C' hr nr
      rw [ln7, show i + (1 + (1 + x.length + 1 + y.length)) = i + 1 + 1 + x.length + 1 + y.length by omega] at q
      exact q H' r C' hr nr
    | work x =>
      rw [fl8] at hz
      obtain ⟨e, hz'⟩ := List.cons.inj hz
      subst e
      have b1 := (lists_cons (inb_rows (c := []) ib)).1
      refine ⟨_, rfl, rfl, _, rfl, iff_ rfl ⟨_, rfl, rfl, _, rfl, iff_ rfl ⟨_, rfl, rfl, _, rfl, iff_ rfl ⟨_, rfl, rfl, _, rfl, ift rfl ?_⟩⟩⟩⟩
      refine ⟨_, rfl, _, rfl, p, la, da, t, i + 1, cs, rest, x, s, ts, rfl, C, hz', len_le b1 (by decide), ?_⟩
      intro H' r C' hr nr
      rw [ln8, show i + (1 + (1 + x.length)) = i + 1 + 1 + x.length by omega] at q
      exact q H' r C' hr nr
    | counters =>
      rw [fl9] at hz
      obtain ⟨e, hz'⟩ := List.cons.inj hz
      subst e
      refine ⟨_, rfl, rfl, _, rfl, iff_ rfl ⟨_, rfl, rfl, _, rfl, iff_ rfl ⟨_, rfl, rfl, _, rfl, iff_ rfl ⟨_, rfl, rfl, _, rfl, iff_ rfl ⟨_, rfl, rfl, _, rfl, ift rfl ?_⟩⟩⟩⟩⟩
      refine ⟨_, rfl, p, la, da, t, i + 1, cs, s, ts, rfl, C, ?_⟩
      intro H' r C' hr nr
      rw [ln9] at q
      exact q H' r C' hr nr
abbrev s_answer_call : Stmt := topS 185
abbrev N_answer_call : List Str := ["reader", "desk", "number"]
theorem sc_answer_call : FnScope N_answer_call ["reader", "desk"] (defScope s_answer_call) := ⟨rfl, rfl, rfl, by decide +kernel, rfl, by decide +kernel, by decide +kernel⟩
def sp_answer_call (K : PySem.W.Frag) (dd : AdD) (de : AdE) : Sp := fun vs H Q _ => ∃ (p la da t : Addr) (i : Nat) (cs rest : List Int) (c : List (List Int)) (s : Machines.State) (ts : List V), vs = [.ref p, .ref da] ∧ Cx6 K dd de H p la da t cs i s ts ∧ IsCall c ∧ InB c ∧ cs.drop i = flat1 c ++ rest ∧
  AnsN K dd de Q p la da t cs (i + (flat1 c).length) ts (MachinesNeutral.step s c)
theorem ok_answer_call {f : Addr} {fd : FuncData} (F : Fun K "answer_call" "answer_call" s_answer_call f fd) (T : TxtE P w K mg ad dd de) (D_CallReader_next_number : MDcl P w K mg base 1 dd.cR "next_number" ["self"] (sp_next_number K dd)) (D_answer_the_pass : Dcl P w K mg base 4 "answer_the_pass" ["reader"] (sp_the_pass K dd)) (D_answer_follow : Dcl P w K mg base 4 "answer_follow" ["reader"] (sp_follow K dd)) (D_answer_collate : Dcl P w K mg base 5 "answer_collate" ["reader"] (sp_ans_collate K dd)) (D_answer_select : Dcl P w K mg base 8 "answer_select" ["reader"] (sp_ans_select K dd)) (D_answer_punch_call : Dcl P w K mg base 9 "answer_punch_call" ["number", "reader", "desk"] (sp_punch_call K dd de)) : FnOk P w K mg base CX0 10 f fd ["reader", "desk"] (sp_answer_call K dd de) := by
  refine F.ok sc_answer_call (fun vs H Q E h => ?_) (fun cdv A outer s H vs Q E hr h => ?_)
  · obtain ⟨p, la, da, t, i, cs, rest, c, s, ts, rfl, _⟩ := h; rfl
  · obtain ⟨p, la, da, t, i, cs, rest, c, s, ts, rfl, C, ic, ib, hz, q⟩ := h
    obtain ⟨dx, hp⟩ := C.rd
    refine ⟨_, (pss_cons (ps_set (i := 2) sc_answer_call.nd rfl (Or.inl rfl) (pe_meth0 (pv 0) T.cl_CallReader D_CallReader_next_number.m D_CallReader_next_number.ok (hr.mono (by decide)) D_CallReader_next_number.b .nil pass0))
      (pss_cons (ps_if (pt_cmpR op_eq (pv 2) (pe_gint (by rfl) T.g_THE_PASS) (nomark _))
      (pss_one (ps_ret (pe_call D_answer_the_pass.ok (hr.mono (by decide)) (by rfl) D_answer_the_pass.g D_answer_the_pass.kp D_answer_the_pass.b .nil pass0 (pa_cons (pv 0) pa_nil))))
      pss_nil)
      (pss_cons (ps_if (pt_cmpR op_eq (pv 2) (pe_gint (by rfl) T.g_FOLLOW) (nomark _))
      (pss_one (ps_ret (pe_call D_answer_follow.ok (hr.mono (by decide)) (by rfl) D_answer_follow.g D_answer_follow.kp D_answer_follow.b .nil pass0 (pa_cons (pv 0) pa_nil))))
      pss_nil)
      (pss_cons (ps_if (pt_cmpR op_eq (pv 2) (pe_gint (by rfl) T.g_COLLATE) (nomark _))
      (pss_one (ps_ret (pe_call D_answer_collate.ok (hr.mono (by decide)) (by rfl) D_answer_collate.g D_answer_collate.kp D_answer_collate.b .nil pass0 (pa_cons (pv 0) pa_nil))))
      pss_nil)
      (pss_cons (ps_if (pt_cmpR op_eq (pv 2) (pe_gint (by rfl) T.g_SELECT) (nomark _))
      (pss_one (ps_ret (pe_call D_answer_select.ok (hr.mono (by decide)) (by rfl) D_answer_select.g D_answer_select.kp D_answer_select.b .nil pass0 (pa_cons (pv 0) pa_nil))))
      pss_nil)
      (pss_one (ps_ret (pe_call D_answer_punch_call.ok (hr.mono (by decide)) (by rfl) D_answer_punch_call.g D_answer_punch_call.kp D_answer_punch_call.b .nil pass0 (pa_cons (pv 2) (pa_cons (pv 0) (pa_cons (pv 1) pa_nil))))))))))), ?_⟩
    have deck : ∀ {H1 : Hp} {j : Nat} {ans : List Int}, Cx6 K dd de H1 p la da t cs (i + 1) s ts → (i + (flat1 c).length = j) → MachinesNeutral.step s c = (s, ans) → AnsR dd H1 Q p la j ans := by
      intro H1 j ans C1 ej ea H' r sb rd nr hr
      rw [ej, ea] at q
      exact q H' r (C1.sb sb rd) hr (C1.ne nr)
    cases ic with
    | pass c l o d =>
      rw [fl1] at hz
      obtain ⟨z1, hz1⟩ := rest_num hz
      obtain ⟨b1, b2⟩ := lists_cons (inb_rows (c := []) ib)
      have b2 := (lists_cons b2).1
      refine ⟨_, rfl, p, dx, _, rfl, hp, nn_num, p, la, i, cs, 1, rfl, ⟨dx, hp⟩, C.sq, z1, fun H1 sb1 rd1 => ?_⟩
      have C1 := C.sb sb1 rd1
      refine ⟨_, rfl, rfl, _, rfl, ift rfl ?_⟩
      exact ⟨_, rfl, p, la, i + 1, cs, rest, c, l, o, d, rfl, C1.rd, C1.sq, hz1, len_le b1 (by decide), len_le b2 (by decide), deck C1 (by rw [ln1]; omega) rfl⟩
    | follow c n d =>
      rw [fl2] at hz
      obtain ⟨z1, hz1⟩ := rest_num hz
      have b1 := (lists_cons (inb_rows (c := []) ib)).1
      refine ⟨_, rfl, p, dx, _, rfl, hp, nn_num, p, la, i, cs, 2, rfl, ⟨dx, hp⟩, C.sq, z1, fun H1 sb1 rd1 => ?_⟩
      have C1 := C.sb sb1 rd1
      refine ⟨_, rfl, rfl, _, rfl, iff_ rfl ⟨_, rfl, rfl, _, rfl, ift rfl ?_⟩⟩
      exact ⟨_, rfl, p, la, i + 1, cs, rest, c, n, d, rfl, C1.rd, C1.sq, hz1, len_le b1 (by decide), deck C1 (by rw [ln2]; omega) rfl⟩
    | collate c e n h a b =>
      rw [fl3] at hz
      obtain ⟨z1, hz1⟩ := rest_num hz
      obtain ⟨b1, b2⟩ := lists_cons (inb_rows (c := []) ib)
      have b2 := (lists_cons b2).1
      refine ⟨_, rfl, p, dx, _, rfl, hp, nn_num, p, la, i, cs, 3, rfl, ⟨dx, hp⟩, C.sq, z1, fun H1 sb1 rd1 => ?_⟩
      have C1 := C.sb sb1 rd1
      refine ⟨_, rfl, rfl, _, rfl, iff_ rfl ⟨_, rfl, rfl, _, rfl, iff_ rfl ⟨_, rfl, rfl, _, rfl, ift rfl ?_⟩⟩⟩
      exact ⟨_, rfl, p, la, i + 1, cs, rest, c, e, n, h, a, b, rfl, C1.rd, C1.sq, hz1, len_le b1 (by decide), len_le b2 (by decide), deck C1 (by rw [ln3]; omega) rfl⟩
    | select x d =>
      rw [fl4] at hz
      obtain ⟨z1, hz1⟩ := rest_num hz
      obtain ⟨b1, b2⟩ := lists_cons (inb_rows (c := []) ib)
      have b2 := (lists_cons b2).1
      refine ⟨_, rfl, p, dx, _, rfl, hp, nn_num, p, la, i, cs, 4, rfl, ⟨dx, hp⟩, C.sq, z1, fun H1 sb1 rd1 => ?_⟩
      have C1 := C.sb sb1 rd1
      refine ⟨_, rfl, rfl, _, rfl, iff_ rfl ⟨_, rfl, rfl, _, rfl, iff_ rfl ⟨_, rfl, rfl, _, rfl, iff_ rfl ⟨_, rfl, rfl, _, rfl, ift rfl ?_⟩⟩⟩⟩
      exact ⟨_, rfl, p, la, i + 1, cs, rest, x, d, rfl, C1.rd, C1.sq, hz1, len_le b1 (by decide), b1.2, len_le b2 (by decide), deck C1 (by rw [ln4]; omega) rfl⟩
    | setcopy x =>
      have hz0 := hz
      rw [fl5] at hz
      obtain ⟨z1, hz1⟩ := rest_num hz
      refine ⟨_, rfl, p, dx, _, rfl, hp, nn_num, p, la, i, cs, 5, rfl, ⟨dx, hp⟩, C.sq, z1, fun H1 sb1 rd1 => ?_⟩
      have C1 := C.sb sb1 rd1
      refine ⟨_, rfl, rfl, _, rfl, iff_ rfl ⟨_, rfl, rfl, _, rfl, iff_ rfl ⟨_, rfl, rfl, _, rfl, iff_ rfl ⟨_, rfl, rfl, _, rfl, iff_ rfl ?_⟩⟩⟩⟩
      exact ⟨_, rfl, _, rfl, _, rfl, p, la, da, t, i, cs, rest, 5, [[5], x], s, ts, rfl, C1, .setcopy x, ib, by rw [hz1, ← hz, hz0], by decide, q⟩
    | copy x y =>
      have hz0 := hz
      rw [fl6] at hz
      obtain ⟨z1, hz1⟩ := rest_num hz
      refine ⟨_, rfl, p, dx, _, rfl, hp, nn_num, p, la, i, cs, 6, rfl, ⟨dx, hp⟩, C.sq, z1, fun H1 sb1 rd1 => ?_⟩
      have C1 := C.sb sb1 rd1
      refine ⟨_, rfl, rfl, _, rfl, iff_ rfl ⟨_, rfl, rfl, _, rfl, iff_ rfl ⟨_, rfl, rfl, _, rfl, iff_ rfl ⟨_, rfl, rfl, _, rfl, iff_ rfl ?_⟩⟩⟩⟩
      exact ⟨_, rfl, _, rfl, _, rfl, p, la, da, t, i, cs, rest, 6, [[6], x, y], s, ts, rfl, C1, .copy x y, ib, by rw [hz1, ← hz, hz0], by decide, q⟩
    | setwork x y =>
      have hz0 := hz
      rw [fl7] at hz
      obtain ⟨z1, hz1⟩ := rest_num hz
      refine ⟨_, rfl, p, dx, _, rfl, hp, nn_num, p, la, i, cs, 7, rfl, ⟨dx, hp⟩, C.sq, z1, fun H1 sb1 rd1 => ?_⟩
      have C1 := C.sb sb1 rd1
      refine ⟨_, rfl, rfl, _, rfl, iff_ rfl ⟨_, rfl, rfl, _, rfl, iff_ rfl ⟨_, rfl, rfl, _, rfl, iff_ rfl ⟨_, rfl, rfl, _, rfl, iff_ rfl ?_⟩⟩⟩⟩
      exact ⟨_, rfl, _, rfl, _, rfl, p, la, da, t, i, cs, rest, 7, [[7], x, y], s, ts, rfl, C1, .setwork x y, ib, by rw [hz1, ← hz, hz0], by decide, q⟩
    | work x =>
      have hz0 := hz
      rw [fl8] at hz
      obtain ⟨z1, hz1⟩ := rest_num hz
      refine ⟨_, rfl, p, dx, _, rfl, hp, nn_num, p, la, i, cs, 8, rfl, ⟨dx, hp⟩, C.sq, z1, fun H1 sb1 rd1 => ?_⟩
      have C1 := C.sb sb1 rd1
      refine ⟨_, rfl, rfl, _, rfl, iff_ rfl ⟨_, rfl, rfl, _, rfl, iff_ rfl ⟨_, rfl, rfl, _, rfl, iff_ rfl ⟨_, rfl, rfl, _, rfl, iff_ rfl ?_⟩⟩⟩⟩
      exact ⟨_, rfl, _, rfl, _, rfl, p, la, da, t, i, cs, rest, 8, [[8], x], s, ts, rfl, C1, .work x, ib, by rw [hz1, ← hz, hz0], by decide, q⟩
    | counters =>
      have hz0 := hz
      rw [fl9] at hz
      obtain ⟨z1, hz1⟩ := rest_num hz
      refine ⟨_, rfl, p, dx, _, rfl, hp, nn_num, p, la, i, cs, 9, rfl, ⟨dx, hp⟩, C.sq, z1, fun H1 sb1 rd1 => ?_⟩
      have C1 := C.sb sb1 rd1
      refine ⟨_, rfl, rfl, _, rfl, iff_ rfl ⟨_, rfl, rfl, _, rfl, iff_ rfl ⟨_, rfl, rfl, _, rfl, iff_ rfl ⟨_, rfl, rfl, _, rfl, iff_ rfl ?_⟩⟩⟩⟩
      exact ⟨_, rfl, _, rfl, _, rfl, p, la, da, t, i, cs, rest, 9, [[9]], s, ts, rfl, C1, .counters, ib, by rw [hz1, ← hz, hz0], by decide, q⟩
end
end CP
/-! HDesk10 -/
namespace CP
open PySem PySem.Spec PyProof.Rows L2
theorem nn_end {la : Addr} {i : Nat} : (rdF la i).lookup ("at_end" : Str) = none := rdF_no la i (by decide +kernel) (by decide +kernel)
/-- how far it's read -/
def plc (H : Hp) (p : Addr) : Nat := match H p with
  | some (.ins _ _ fs) => (match fs.lookup ("place" : Str) with
    | some (.int z) => z.toNat
    | _ => 0)
  | _ => 0
theorem plc_is {dd : AdD} {H : Hp} {p la : Addr} {i : Nat} (h : RdAt dd H p la i) : plc H p = i := by
  obtain ⟨dx, e⟩ := h
  unfold plc
  rw [e]
  show (match (rdF la i).lookup ("place" : Str) with | some (.int z) => z.toNat | _ => 0) = i
  rw [rdF_place]
  exact Int.toNat_natCast i
theorem call_pos {c : List (List Int)} (h : IsCall c) : 1 ≤ (flat1 c).length := by
  cases h <;> simp [flat1]
theorem told_cons (step : Machines.State → List (List Int) → Machines.State × List Int) (s : Machines.State) (c : List (List Int)) (r : List (List (List Int))) : PyFlat.told (PyFlat.played step s (c :: r)) = ((step s c).2.length : Int) :: ((step s c).2 ++ PyFlat.told (PyFlat.played step (step s c).1 r)) := by
  show (PyFlat.played step s (c :: r)).flatMap _ = _
  rw [show PyFlat.played step s (c :: r) = (step s c).2 :: PyFlat.played step (step s c).1 r from rfl, List.flatMap_cons]
  rfl
section
variable {P : Program} {w : World} {K : PySem.W.Frag} {mg : Str → Option Value} {base : Heap} {ad : Ad} {dd : AdD} {de : AdE}
abbrev s_answers : Stmt := topS 186
abbrev N_answers : List Str := ["calls", "reader", "desk", "told", "answer"]
theorem sc_answers : FnScope N_answers ["calls"] (defScope s_answers) := ⟨rfl, rfl, rfl, by decide +kernel, rfl, by decide +kernel, by decide +kernel⟩
def sp_answers (K : PySem.W.Frag) : Sp := fun vs H Q _ => ∃ (la : Addr) (cs : List Int), vs = [.ref la] ∧ SqL K H la (cs.map V.int) ∧ PyWrpunc.answers_asked cs = true ∧ ∀ H' r, H' r = some (.lst ((PyWrpunc.answers cs).map V.int)) → Q (.ref r) H'
theorem ok_answers {f : Addr} {fd : FuncData} (F : Fun K "answers" "answers" s_answers f fd) (T : TxtE P w K mg ad dd de) (D_CallReader : CDcl P w K mg base 1 dd.cR "CallReader" ["self", "calls"] (sp_rd_init dd)) (D_Desk : CDcl P w K mg base 1 de.cDk "Desk" ["self"] (sp_desk_init de)) (D_CallReader_at_end : MDcl P w K mg base 1 dd.cR "at_end" ["self"] (sp_at_end K dd)) (D_answer_call : Dcl P w K mg base 10 "answer_call" ["reader", "desk"] (sp_answer_call K dd de)) : FnOk P w K mg base CX0 11 f fd ["calls"] (sp_answers K) := by
  refine F.ok sc_answers (fun vs H Q E h => ?_) (fun cdv A outer s H vs Q E hr h => ?_)
  · obtain ⟨la, cs, rfl, _⟩ := h; rfl
  · obtain ⟨la, cs, rfl, hl, hask, q⟩ := h
    obtain ⟨calls, ecs, hcs, hn, hans, hlen⟩ := asked_is hask
    refine ⟨_, (pss_cons (ps_set (i := 1) sc_answers.nd rfl (Or.inl rfl) (pe_make D_CallReader.make D_CallReader.ok (hr.mono (by decide)) (by rfl) D_CallReader.g D_CallReader.b .nil pass0 (pa_cons (pv 0) pa_nil)))
      (pss_cons (ps_set (i := 2) sc_answers.nd rfl (Or.inl rfl) (pe_make0 D_Desk.make D_Desk.ok (hr.mono (by decide)) (by rfl) D_Desk.g D_Desk.b .nil pass0))
      (pss_cons (ps_set (i := 3) sc_answers.nd rfl (Or.inl rfl) (pe_lst pa_nil))
      (pss_cons (ps_while PassesOwn.never (pt_not (pt_val (pe_meth0 (pv 1) T.cl_CallReader D_CallReader_at_end.m D_CallReader_at_end.ok (hr.mono (by decide)) D_CallReader_at_end.b .nil pass0)))
      (pss_cons (ps_set (i := 4) sc_answers.nd rfl (Or.inl rfl) (pe_call D_answer_call.ok (hr.mono (by decide)) (by rfl) D_answer_call.g D_answer_call.kp D_answer_call.b .nil pass0 (pa_cons (pv 1) (pa_cons (pv 2) pa_nil))))
      (pss_cons (ps_expr (pe_bm PySem.F.plainAttrs_list PySem.F.slot_list_append PySem.F.type_list_append mt_append (pv 3) (pa_cons (pe_callB call_len_seq (by rfl) T.b_len PySem.boot_len (pa_cons (pv 4) pa_nil)) pa_nil)))
      (pss_one (ps_expr (pe_bm PySem.F.plainAttrs_list PySem.F.slot_list_extend PySem.F.type_list_extend mt_extend (pv 3) (pa_cons (pv 4) pa_nil)))))))
      (pss_one (ps_ret (pv 3))))))), ?_⟩
    refine ⟨_, rfl, ?_⟩
    intro p dx np ndx nex
    refine ⟨p, la, dx, rfl, upd_same, fun H1 rd1 sb1 => ⟨rfl, ?_⟩⟩
    have s1 : Same H H1 := Same.made np ndx sb1
    intro da dy nda ndy ney
    refine ⟨da, dy, rfl, upd_same, fun H2 h2 sb2 => ⟨rfl, ?_⟩⟩
    have s2 : Same H1 H2 := Same.made nda ndy sb2
    refine ⟨Nat.zero_le _, fun t nt => ?_⟩
    have t3 := same_upd (o := .lst []) nt
    have hl2 := (s1.trans s2).seq hl
    have C0 : Cx6 K dd de (upd H2 t (.lst [])) p la da t cs 0 .none_ [] := by
      refine ⟨t3.seq hl2, (rd1.same s2).same t3, ⟨dy, .non, t3 _ _ h2, rfl⟩, upd_same, ?_⟩
      rcases hl2 with (z | ⟨o, z⟩) | z
      · exact .inl (ne_of_none z nt)
      · exact .inl (ne_of_none z nt)
      · exact .inr fun H0 => .inr z
    refine while_by (fun σ H' => ∃ (i : Nat) (v4 : Option V) (s : Machines.State) (pre : List Int) (rest : List (List (List Int))), σ = [some (.ref la), some (.ref p), some (.ref da), some (.ref t), v4] ∧ Cx6 K dd de H' p la da t cs i s (pre.map V.int) ∧ i ≤ cs.length ∧ cs.drop i = rest.flatMap flat1 ∧ (∀ c ∈ rest, IsCall c ∧ InB c) ∧ PyWrpunc.answers cs = pre ++ PyFlat.told (PyFlat.played MachinesNeutral.step s rest)) (fun σ H' => cs.length - plc H' p) ?_ ?_ ?_
    · exact ⟨0, none, .none_, [], calls, rfl, C0, Nat.zero_le _, by rw [List.drop_zero]; exact ecs, hcs, hans⟩
    · rintro σ H' ⟨i, v4, s, pre, rest, rfl, C, hi, hz, hr', inv⟩
      obtain ⟨dxr, hp⟩ := C.rd
      refine ⟨_, rfl, p, dxr, _, rfl, hp, nn_end, p, la, i, cs, rfl, ⟨dxr, hp⟩, C.sq, _, rfl, ?_⟩
      cases rest with
      | nil =>
        have : i = cs.length := by
          have := congrArg List.length hz
          rw [List.length_drop] at this
          simp at this
          omega
        refine iff_ (by rw [decide_eq_true this]; rfl) ?_
        refine ⟨_, rfl, q H' t ?_⟩
        rw [C.tl, inv]
        show _ = some (HO.lst ((pre ++ []).map V.int))
        rw [List.append_nil]
      | cons c r =>
        obtain ⟨ic, ib⟩ := hr' c List.mem_cons_self
        have hc1 := call_pos ic
        rw [List.flatMap_cons] at hz
        have hlz := congrArg List.length hz
        rw [List.length_drop, List.length_append] at hlz
        refine ift (by rw [decide_eq_false (by omega)]; rfl) ?_
        refine ⟨_, rfl, _, rfl, p, la, da, t, i, cs, _, c, s, _, rfl, C, ic, ib, hz, fun H1 ra C1 hra nra => ?_⟩
        rw [told_cons] at inv
        generalize hS : MachinesNeutral.step s c = z at *
        obtain ⟨s', ans⟩ := z
        dsimp only at inv C1 hra
        have lt : (PyWrpunc.answers cs).length = pre.length + (1 + (ans.length + (PyFlat.told (PyFlat.played MachinesNeutral.step s' r)).length)) := by
          rw [inv, List.length_append, List.length_cons, List.length_append]; omega
        refine ⟨_, rfl, .inl ⟨rfl, _, SqL.of C1.tl⟩, _, rfl, ra, _, rfl, .inl (SqL.of hra), t, _, _, rfl, rfl, C1.tl, ?_, ?_⟩
        · rw [List.length_map]; exact size_big (by omega)
        have C2 := C1.tell (pre.map V.int ++ [V.int (((ans.map V.int).length : Nat) : Int)])
        have hra2 : (upd H1 t (.lst (pre.map V.int ++ [V.int (((ans.map V.int).length : Nat) : Int)]))) ra = some (.lst (ans.map V.int)) := by rw [upd_ne nra]; exact hra
        refine ⟨_, rfl, .inl ⟨rfl, _, SqL.of C2.tl⟩, _, rfl, t, ra, _, _, rfl, rfl, C2.tl, hra2, ?_, ?_⟩
        · rw [List.length_append, List.length_map, List.length_map]
          exact Nat.le_of_lt (size_big (by show pre.length + 1 + ans.length ≤ _; omega))
        have C3 := C2.tell (pre.map V.int ++ [V.int (((ans.map V.int).length : Nat) : Int)] ++ ans.map V.int)
        have ets : pre.map V.int ++ [V.int (((ans.map V.int).length : Nat) : Int)] ++ ans.map V.int = (pre ++ ((ans.length : Int) :: ans)).map V.int := by
          rw [List.map_append, List.map_cons, List.length_map, List.append_assoc]; rfl
        rw [ets] at C3
        refine ⟨⟨i + (flat1 c).length, _, s', pre ++ ((ans.length : Int) :: ans), r, rfl, ?_, by omega, ?_, fun c' h' => hr' c' (List.mem_cons_of_mem _ h'), ?_⟩, ?_⟩
        · rw [ets]; exact C3
        · rw [← List.drop_drop, hz, List.drop_left]
        · rw [inv, List.append_assoc]; rfl
        · have e1 := plc_is C3.rd
          have e2 := plc_is C.rd
          rw [ets, e1, e2]
          omega
    · rintro σ H1 Q1 Q2 hq ⟨u1, e1, u2, u3, u4, e2, e3, e4, u5, u6, u7, u8, e5, e6, e7, u9, e8, z⟩
      exact ⟨u1, e1, u2, u3, u4, e2, e3, e4, u5, u6, u7, u8, e5, e6, e7, u9, e8, hq _ _ z⟩
end
end CP
/-! HEnd1 -/
namespace CP
open PySem PySem.Spec PyProof.Rows L2
/-! ### the end: what the top has written -/
/-- entries of a written dict, one behind another -/
inductive EntOk (w : World) : List DictEntry → List (L2.Key × V) → Prop
  | nil : EntOk w [] []
  | cons {e : DictEntry} {k : L2.Key} {v : V} {es : List DictEntry} {kvs : List (L2.Key × V)} : keyIs k e.key = true → e.hash = keyH w k → L2.RelV v e.val → EntOk w es kvs → EntOk w (e :: es) ((k, v) :: kvs)
theorem EntOk.pairs {P : Program} {w : World} {es : List DictEntry} {kvs : List (L2.Key × V)} (h : EntOk w es kvs) : ∃ vs, KV kvs vs ∧ Pairs (mixKind P w) es vs ∧ vs.map (·.1) = kvs.map (·.1) ∧ ∀ e ∈ es, ∃ k, keyIs k e.key = true ∧ e.hash = keyH w k := by
  induction h with
  | nil => exact ⟨[], .nil, .nil, rfl, fun e he => absurd he List.not_mem_nil⟩
  | @cons e k v es kvs h1 h2 h3 _ ih =>
    obtain ⟨vs, i1, i2, i3, i4⟩ := ih
    refine ⟨(k, e.val) :: vs, .cons ⟨rfl, h3⟩ i1, .cons h1 rfl i2, by rw [List.map_cons, List.map_cons, i3], fun x hx => ?_⟩
    rcases List.mem_cons.mp hx with z | z
    · rw [z]; exact ⟨k, h1, h2⟩
    · exact i4 x z
theorem kd_mk {P : Program} {w : World} {K : PySem.W.Frag} {a : Addr} {es : List DictEntry} {n : Nat} {kvs : List (L2.Key × V)} (hl : K.lookup a = some { cls := .type "dict", data := .dict es.toArray n }) (hs : (a == sysModules) = false) (hz : kvs.length ≤ sizeLine) (he : EntOk w es kvs) (nd : (kvs.map (·.1)).Nodup) : KD P w K a kvs := by
  obtain ⟨vs, h1, h2, h3, h4⟩ := he.pairs (P := P)
  refine ⟨hs, hz, vs, h1, fun h X => ⟨_, _, n, X a _ hl, ⟨rfl, rfl, rfl⟩, rfl, fun e he => ?_, h2, by rw [h3]; exact nd⟩⟩
  exact h4 e (by simpa using he)
theorem hs_str {w : World} {x : Str} : PyData.keyHash w.params x = keyH w (.inr x) := rfl
end CP
namespace CP
open PySem PySem.Spec PyProof.Rows L2
theorem ktup_mk {K : PySem.W.Frag} {t : Addr} {its : List Value} {n : Nat} {xs : List V} (l : K.lookup t = some { cls := .type "tuple", data := .seq its.toArray n }) (z : its.length ≤ sizeLine) (v : Vals xs its) : KTup K t xs :=
  .inr ⟨_, its.toArray, n, l, rfl, rfl, by simpa using z, by simpa using v⟩
theorem rel_ref {a : Addr} : L2.RelV (.ref a) (.ref a) := rfl
inductive TupsOk (K : PySem.W.Frag) : List Addr → List (List Nat) → Prop
  | nil : TupsOk K [] []
  | cons {t : Addr} {n : List Nat} {ts : List Addr} {ns : List (List Nat)} : KTup K t (n.map vN) → TupsOk K ts ns → TupsOk K (t :: ts) (n :: ns)
theorem TupsOk.get {K : PySem.W.Frag} : ∀ {ts : List Addr} {ns : List (List Nat)}, TupsOk K ts ns → ∀ (i : Nat) (t : Addr), ts[i]? = some t → KTup K t ((ns.getD i []).map vN)
  | _, _, .nil, i, t, h => by simp at h
  | _, _, .cons k _, 0, t, h => by
    have := Option.some.inj h
    subst this
    exact k
  | _, _, .cons _ r, i + 1, t, h => r.get i t h
def refsOf (es : List DictEntry) : List Addr := es.map fun e => match e.val with
  | .ref a => a
  | _ => 0
theorem hub_keysK : ∀ {ws : List Str} {ts : List Addr}, ts.length = ws.length → (hubKvs ws ts).map (·.1) = ws.map (fun x => (Sum.inr x : L2.Key))
  | [], [], _ => rfl
  | x :: ws, t :: ts, h => by
    have := hub_keysK (ws := ws) (ts := ts) (by simpa using h)
    unfold hubKvs at this ⊢
    rw [List.zipWith_cons_cons, List.map_cons, List.map_cons, this]
  | [], _ :: _, h => by simp at h
  | _ :: _, [], h => by simp at h
theorem hub_mk {P : Program} {w : World} {K : PySem.W.Frag} {a : Addr} {es : List DictEntry} {n : Nat} {ws : List Str} {ns : List (List Nat)} (hl : K.lookup a = some { cls := .type "dict", data := .dict es.toArray n }) (hs : (a == sysModules) = false) (hz : (hubKvs ws (refsOf es)).length ≤ sizeLine) (he : EntOk w es (hubKvs ws (refsOf es))) (nd : (ws.map (fun x => (Sum.inr x : L2.Key))).Nodup) (lt : (refsOf es).length = ws.length) (ht : TupsOk K (refsOf es) ns) : HubTab P w K a ws ns :=
  ⟨refsOf es, lt, kd_mk hl hs hz he (by rw [hub_keysK lt]; exact nd), ht.get⟩
end CP
/-! HHook2 -/
namespace CP
open PySem PySem.Spec PyProof.Rows L2
def HasDef (K : PySem.W.Frag) (x : Str) (st : Stmt) (f : Addr) (fd : FuncData) : Prop := PySem.W.nsIn K mainGlobals x = some (some (.ref f)) ∧ PySem.W.keepIn K (.ref f) = true ∧ Fun K x x st f fd
def HasMeth (K : PySem.W.Frag) (C : Addr) (m q : Str) (st : Stmt) (f : Addr) (fd : FuncData) : Prop := PySem.W.findIn K (.ref C) m = some (some (.ref f)) ∧ PySem.W.isFn K (.ref f) = true ∧ PySem.W.keepIn K (.ref f) = true ∧ Fun K m q st f fd
def HasCls (K : PySem.W.Frag) (x : Str) (C : Addr) : Prop := PySem.W.nsIn K mainGlobals x = some (some (.ref C)) ∧ Cls K C ∧ PySem.W.makesIn K C = true ∧ PySem.W.keepIn K (.ref C) = true
theorem binds_to {K : PySem.W.Frag} {x qual : Str} {st : Stmt} {f : Addr} {fd : FuncData} {ps : List Str} (F : Fun K x qual st f fd)
    (b : ∀ (k1 k2 k3 : Value) (k4 : Option Addr) (k5 k6 : Value) (us : List Value), us.length = ps.length → bindArgs (PySem.W.fnOf x qual (defArgs st) (defBody st) (defScope st) .none k1 k2 k3 k4 k5 k6) ⟨us, []⟩ = pure (ps.zip us)) (s : Shared) (us : List Value) (hu : us.length = ps.length) : BindsTo s fd ⟨us, []⟩ (ps.zip us) := by
  obtain ⟨_, _, k1, k2, k3, k4, k5, k6, _, e, _⟩ := F.ex
  subst e
  exact .of_eq (b k1 k2 k3 k4 k5 k6 us hu)
section
variable {K : PySem.W.Frag} {h : Heap} {mg : Str → Option Value}
theorem fx_free (X : K.In h) (G : h.Ns mainGlobals mg) {x : Str} (c : (Fx.free x).ok K = true) : mg x = none := He.free_ok X G c
theorem fx_int (X : K.In h) (G : h.Ns mainGlobals mg) {x : Str} {i : Int} (c : (Fx.int x i).ok K = true) : ∃ t, mg x = some (.int i t) := He.int_ok X G c
theorem fx_glo (X : K.In h) (G : h.Ns mainGlobals mg) {x : Str} (c : (Fx.glo x).ok K = true) : mg x = some (.ref (He.ga K x)) := He.glo_ok X G c
theorem fx_cls {x : Str} (c : (Fx.cls x).ok K = true) : Cls K (He.ga K x) := He.cls_ok c
theorem fx_hasc {x : Str} (c : (Fx.hasc x).ok K = true) : HasCls K x (He.ga K x) := by
  obtain ⟨c1, c⟩ := He.ba c
  obtain ⟨c2, c⟩ := He.ba c
  obtain ⟨c3, c4⟩ := He.ba c
  exact ⟨He.eqO_ok c1, He.cls_ok c2, c3, c4⟩
theorem fx_noat {x f : Str} (c : (Fx.noat x f).ok K = true) : NoAttr K (He.ga K x) f := He.noat_ok c
theorem fx_isi {x : Str} (c : (Fx.isi x).ok K = true) : IsiOk K (He.ga K x) := by
  obtain ⟨c1, c⟩ := He.ba c
  obtain ⟨c2, c⟩ := He.ba c
  obtain ⟨c3, c⟩ := He.ba c
  obtain ⟨c4, c5⟩ := He.ba c
  exact ⟨He.cls_ok c1, He.eqO_ok c2, He.eqO_ok c3, of_decide_eq_true c4, of_decide_eq_true c5⟩
theorem fx_kitN {y : Str} (c : (Fx.kitN y).ok K = true) : PySem.W.kitOne K (.type "NoneType") (.ref (He.ga K y)) = some false := of_decide_eq_true c
theorem fx_kit {x y : Str} {b : Bool} (c : (Fx.kit x y b).ok K = true) : PySem.W.kitOne K (.ref (He.ga K x)) (.ref (He.ga K y)) = some b := of_decide_eq_true c
theorem fx_tup {x : Str} {vs : List Str} (c : (Fx.tup x vs).ok K = true) : KTup K (He.ga K x) (vs.map V.str) := by
  have z := He.tupB_ok c (fun _ => none)
  rw [List.map_map] at z
  exact z
theorem fx_def {x : Str} {st : Stmt} (c : (Fx.dfn x).ok K = true) (e : He.fnObs K (x, none) = (⟨(x, none), x, x, defArgs st, defBody st, defScope st⟩ : He.FnD).val) : ∃ f fd, HasDef K x st f fd := by
  obtain ⟨c1, c⟩ := He.ba c
  obtain ⟨c2, c3⟩ := He.ba c
  obtain ⟨oc, od, osl, kV, doc, pm, an, cdv, ct, l, k⟩ := He.fn_ok (d := ⟨(x, none), x, x, defArgs st, defBody st, defScope st⟩) e c3
  exact ⟨_, _, He.eqO_ok c1, c2, fun_mk l k c2⟩
theorem fx_mth {x m q : Str} {st : Stmt} (c : (Fx.mth x m q).ok K = true) (e : He.fnObs K (x, some m) = (⟨(x, some m), m, q, defArgs st, defBody st, defScope st⟩ : He.FnD).val) : ∃ f fd, HasMeth K (He.ga K x) m q st f fd := by
  obtain ⟨c1, c2⟩ := He.ba c
  have M := He.meth_ok c1
  obtain ⟨oc, od, osl, kV, doc, pm, an, cdv, ct, l, k⟩ := He.fn_ok (d := ⟨(x, some m), m, q, defArgs st, defBody st, defScope st⟩) e c2
  exact ⟨_, _, M.at_, M.fn, M.kp, fun_mk l k M.kp⟩
end
/-! ### dicts -/
theorem keyK_ok {u : Value} {k : L2.Key} (h : keyK u = some k) : keyIs k u = true := by
  cases u with
  | int i t => cases h; exact keyIs_int i t
  | str x t => cases h; exact keyIs_str x t
  | _ => cases h
theorem valK_ok {u : Value} {v : V} (h : valK u = v) (n : v ≠ .non) : L2.RelV v u := by
  cases u with
  | int i t => subst h; exact ⟨t, rfl⟩
  | str x t => subst h; exact ⟨t, rfl⟩
  | _ => exact absurd h.symm n
theorem ents_of {w : World} : ∀ {es : List DictEntry} {kvs : List (L2.Key × V)}, (∀ p ∈ kvs, p.2 ≠ V.non) → (es.map fun e => (keyK e.key, e.hash, valK e.val)) = (kvs.map fun p => (some p.1, keyH w p.1, p.2)) → EntOk w es kvs
  | [], [], _, _ => .nil
  | [], _ :: _, _, h => by cases h
  | _ :: _, [], _, h => by cases h
  | e :: es, (k, v) :: kvs, n, h => by
    rw [List.map_cons, List.map_cons] at h
    obtain ⟨h1, h2⟩ := List.cons.inj h
    obtain ⟨a, b⟩ := Prod.mk.inj h1
    obtain ⟨b, c⟩ := Prod.mk.inj b
    exact .cons (keyK_ok a) b (valK_ok c (n (k, v) List.mem_cons_self)) (ents_of (fun p hp => n p (List.mem_cons_of_mem _ hp)) h2)
theorem dict_look {K : PySem.W.Frag} {a : Addr} {β : Type} {f : DictEntry → β} {l : List β} (h : (match K.lookup a with
    | some ⟨.type c, none, .dict es _, sl⟩ => (match decide (c = "dict") && (sl.isEmpty && !(a == sysModules)) with
      | true => some (es.toList.map f)
      | false => none)
    | _ => none) = some l) : ∃ (es : List DictEntry) (n : Nat), K.lookup a = some { cls := .type "dict", data := .dict es.toArray n } ∧ (a == sysModules) = false ∧ es.map f = l := by
  cases q : K.lookup a with
  | none => rw [q] at h; cases h
  | some o =>
    obtain ⟨oc, od, dt, osl⟩ := o
    rw [q] at h
    cases oc with
    | type c =>
      cases od with
      | none =>
        cases dt with
        | dict es n =>
          have h1 : (match decide (c = "dict") && (osl.isEmpty && !(a == sysModules)) with
            | true => some (es.toList.map f)
            | false => none) = some l := h
          cases g : decide (c = "dict") && (osl.isEmpty && !(a == sysModules)) with
          | false => rw [g] at h1; cases h1
          | true =>
            rw [g] at h1
            obtain ⟨g1, g2⟩ := He.ba g
            obtain ⟨g2, g3⟩ := He.ba g2
            have e1 : c = "dict" := of_decide_eq_true g1
            have e2 : osl = #[] := by
              cases osl with
              | mk l0 =>
                cases l0 with
                | nil => rfl
                | cons y ys => simp at g2
            subst e1 e2
            refine ⟨es.toList, n, rfl, by simpa using g3, Option.some.inj h1⟩
        | _ => cases h
      | some b => cases dt <;> cases h
    | _ => cases od <;> cases dt <;> cases h
theorem fx_kd {P : Program} {w : World} {K : PySem.W.Frag} {x : Str} {kvs : List (L2.Key × V)} (h : dObs K x = dVal w kvs) (n : ∀ p ∈ kvs, p.2 ≠ V.non) (z : kvs.length ≤ sizeLine) (nd : (kvs.map (·.1)).Nodup) : KD P w K (He.ga K x) kvs := by
  obtain ⟨es, m, l, s, e⟩ := dict_look (f := fun e : DictEntry => (keyK e.key, e.hash, valK e.val)) h
  exact kd_mk l s z (ents_of n e) nd
/-! ### dicts of hubs -/
theorem natsK_of : ∀ {its : List Value} {n : List Nat}, its.map natK = n.map some → Vals (n.map vN) its
  | [], [], _ => .nil
  | [], _ :: _, h => by cases h
  | _ :: _, [], h => by cases h
  | u :: its, n :: ns, h => by
    rw [List.map_cons, List.map_cons] at h
    obtain ⟨h1, h2⟩ := List.cons.inj h
    refine .cons ?_ (natsK_of h2)
    cases u with
    | int i t =>
      have h1 : (if 0 ≤ i then some i.toNat else none) = some n := h1
      by_cases c : 0 ≤ i
      · rw [if_pos c] at h1
        have := Option.some.inj h1
        refine ⟨t, ?_⟩
        show Value.int i t = Value.int (n : Int) t
        rw [← this, Int.toNat_of_nonneg c]
      · rw [if_neg c] at h1; cases h1
    | _ => cases h1
theorem tupK_ok {K : PySem.W.Frag} {u : Value} {n : List Nat} (h : tupK K u = some (n.map some)) (z : n.length ≤ sizeLine) : ∃ t, u = .ref t ∧ KTup K t (n.map vN) := by
  cases u with
  | ref t =>
    have h : (match K.lookup t with
      | some ⟨.type c, none, .seq its _, sl⟩ => (match decide (c = "tuple") && sl.isEmpty with
        | true => some (its.toList.map natK)
        | false => none)
      | _ => none) = some (n.map some) := h
    refine ⟨t, rfl, ?_⟩
    cases q : K.lookup t with
    | none => rw [q] at h; cases h
    | some o =>
      obtain ⟨oc, od, dt, osl⟩ := o
      rw [q] at h
      cases oc with
      | type c =>
        cases od with
        | none =>
          cases dt with
          | seq its m =>
            have h1 : (match decide (c = "tuple") && osl.isEmpty with
              | true => some (its.toList.map natK)
              | false => none) = some (n.map some) := h
            cases g : decide (c = "tuple") && osl.isEmpty with
            | false => rw [g] at h1; cases h1
            | true =>
              rw [g] at h1
              obtain ⟨g1, g2⟩ := He.ba g
              have e1 : c = "tuple" := of_decide_eq_true g1
              have e2 : osl = #[] := by
                cases osl with
                | mk l0 =>
                  cases l0 with
                  | nil => rfl
                  | cons y ys => simp at g2
              subst e1 e2
              have e3 := Option.some.inj h1
              have l3 := congrArg List.length e3
              rw [List.length_map, List.length_map] at l3
              refine ktup_mk (its := its.toList) (n := m) q (by omega) (natsK_of e3)
          | _ => cases h
        | some b => cases dt <;> cases h
      | _ => cases od <;> cases dt <;> cases h
  | _ => cases h
theorem hub_of {K : PySem.W.Frag} {w : World} : ∀ {es : List DictEntry} {ws : List Str} {ns : List (List Nat)}, ws.length = ns.length → (∀ n ∈ ns, n.length ≤ sizeLine) → (es.map fun e => (keyK e.key, e.hash, tupK K e.val)) = List.zipWith (fun (x : Str) (n : List Nat) => (some (Sum.inr x : L2.Key), keyH w (.inr x), some (n.map some))) ws ns → EntOk w es (hubKvs ws (refsOf es)) ∧ (refsOf es).length = ws.length ∧ TupsOk K (refsOf es) ns
  | [], [], [], _, _, _ => ⟨.nil, rfl, .nil⟩
  | [], _ :: _, _ :: _, _, _, h => by cases h
  | _ :: _, [], _, _, _, h => by cases h
  | _, [], _ :: _, l, _, _ => by cases l
  | _, _ :: _, [], l, _, _ => by cases l
  | e :: es, x :: ws, n :: ns, l, z, h => by
    rw [List.map_cons, List.zipWith_cons_cons] at h
    obtain ⟨h1, h2⟩ := List.cons.inj h
    obtain ⟨a, b⟩ := Prod.mk.inj h1
    obtain ⟨b, c⟩ := Prod.mk.inj b
    obtain ⟨t, et, kt⟩ := tupK_ok c (z n List.mem_cons_self)
    obtain ⟨i1, i2, i3⟩ := hub_of (by simpa using l) (fun m hm => z m (List.mem_cons_of_mem _ hm)) h2
    have er : refsOf (e :: es) = t :: refsOf es := by
      unfold refsOf
      rw [List.map_cons, et]
    rw [er]
    refine ⟨?_, by rw [List.length_cons, List.length_cons, i2], .cons kt i3⟩
    show EntOk w (e :: es) ((Sum.inr x, V.ref t) :: hubKvs ws (refsOf es))
    refine .cons (keyK_ok a) b ?_ i1
    rw [et]
    exact rel_ref
theorem fx_hub {P : Program} {w : World} {K : PySem.W.Frag} {x : Str} {ws : List Str} {ns : List (List Nat)} (h : hObs K x = hVal w ws ns) (l : ws.length = ns.length) (z : ∀ n ∈ ns, n.length ≤ sizeLine) (zl : ws.length ≤ sizeLine) (nd : (ws.map (fun x => (Sum.inr x : L2.Key))).Nodup) : HubTab P w K (He.ga K x) ws ns := by
  obtain ⟨es, m, lk, s, e⟩ := dict_look (f := fun e : DictEntry => (keyK e.key, e.hash, tupK K e.val)) h
  obtain ⟨i1, i2, i3⟩ := hub_of l z e
  refine hub_mk lk s ?_ i1 nd i2 i3
  unfold hubKvs
  rw [List.length_zipWith]
  exact Nat.le_trans (Nat.min_le_left _ _) zl
section
variable {L : Look} {w : World} {K : PySem.W.Frag}
theorem okFx_get {ll : List (List Fx)} (c : okFx ll K = true) {i j : Nat} {l : List Fx} {f : Fx} (hl : ll[i]? = some l) (hf : l[j]? = some f) : f.ok K = true :=
  List.all_eq_true.mp (List.all_eq_true.mp c l (List.mem_of_getElem? hl)) f (List.mem_of_getElem? hf)
theorem Look.says.fx (c : L.says w K) (i j : Nat) {l : List Fx} {f : Fx} (hl : L.fxs[i]? = some l := by rfl) (hf : l[j]? = some f := by rfl) : f.ok K = true := okFx_get (congrArg (fun z : AlC => z.1) c) hl hf
theorem Look.says.fy (c : L.says w K) (i j : Nat) {l : List Fx} {f : Fx} (hl : L.fys[i]? = some l := by rfl) (hf : l[j]? = some f := by rfl) : f.ok K = true := okFx_get (congrArg (fun z : AlC => z.2.1) c) hl hf
theorem Look.says.fn (c : L.says w K) (i j : Nat) {l : List He.FnD} {d : He.FnD} (hl : L.fns[i]? = some l := by rfl) (hd : l[j]? = some d := by rfl) : He.fnObs K d.at_ = d.val := by
  have e : obF L K = vaF L := congrArg (fun z : AlC => z.2.2.1) c
  unfold obF vaF at e
  have e2 : (L.fns.map fun l => l.map fun d => He.fnObs K d.at_)[i]? = (L.fns.map fun l => l.map He.FnD.val)[i]? := by rw [e]
  rw [List.getElem?_map, List.getElem?_map, hl] at e2
  have e3 : (l.map fun d => He.fnObs K d.at_)[j]? = (l.map He.FnD.val)[j]? := by rw [show (l.map fun d => He.fnObs K d.at_) = l.map He.FnD.val from Option.some.inj e2]
  rw [List.getElem?_map, List.getElem?_map, hd] at e3
  exact Option.some.inj e3
theorem Look.says.dc (c : L.says w K) (i : Nat) {d : Str × List (L2.Key × V)} (h : L.dcs[i]? = some d := by rfl) : dObs K d.1 = dVal w d.2 := by
  have e : obD L K = vaD L w := congrArg (fun z : AlC => z.2.2.2.1) c
  unfold obD vaD at e
  have e2 : (L.dcs.map fun d => dObs K d.1)[i]? = (L.dcs.map fun d => dVal w d.2)[i]? := by rw [e]
  rw [List.getElem?_map, List.getElem?_map, h] at e2
  exact Option.some.inj e2
theorem Look.says.hb (c : L.says w K) (i : Nat) {d : Str × List Str × List (List Nat)} (h : L.hbs[i]? = some d := by rfl) : hObs K d.1 = hVal w d.2.1 d.2.2 := by
  have e : obH L K = vaH L w := congrArg (fun z : AlC => z.2.2.2.2) c
  unfold obH vaH at e
  have e2 : (L.hbs.map fun d => hObs K d.1)[i]? = (L.hbs.map fun d => hVal w d.2.1 d.2.2)[i]? := by rw [e]
  rw [List.getElem?_map, List.getElem?_map, h] at e2
  exact Option.some.inj e2
end
end CP
/-! HEnd2 -/
namespace CP
open PySem PySem.Spec PyProof.Rows L2
theorem all_mk {P : Program} {w : World} {K : PySem.W.Frag} {h : Heap} {mg : Str → Option Value} {fa z v se ta bs bt cS cR fh ms us cRP cCP cSt cCR cDk : Addr} (X : K.In h) (G : h.Ns mainGlobals mg) (hfa : mg "answers" = some (.ref fa)) (T : TxtE P w K mg ⟨z, v, se, ta, bs, bt, cS, cS, cS, cS⟩ ⟨cR⟩ ⟨fh, ms, us, cRP, cCP, cSt, cCR, cDk⟩)
    (c_CalculatingPunch : HasCls K "CalculatingPunch" cCP)
    (c_CallReader : HasCls K "CallReader" cR)
    (c_CardRun : HasCls K "CardRun" cCR)
    (c_Desk : HasCls K "Desk" cDk)
    (c_LineScan : HasCls K "LineScan" cS)
    (c_ReproducingPunch : HasCls K "ReproducingPunch" cRP)
    (c_Step : HasCls K "Step" cSt)
    (d_is_column : ∃ f fd, HasDef K "is_column" s_is_column f fd)
    (d_is_field : ∃ f fd, HasDef K "is_field" s_is_field f fd)
    (d_figure_hole : ∃ f fd, HasDef K "figure_hole" s_figure_hole f fd)
    (d_blank_card : ∃ f fd, HasDef K "blank_card" s_blank_card f fd)
    (d_code_holes : ∃ f fd, HasDef K "code_holes" s_code_holes f fd)
    (d_column_rank : ∃ f fd, HasDef K "column_rank" s_column_rank f fd)
    (d_comes_before : ∃ f fd, HasDef K "comes_before" s_comes_before f fd)
    (d_out_of_sequence : ∃ f fd, HasDef K "out_of_sequence" s_out_of_sequence f fd)
    (d_read_card : ∃ f fd, HasDef K "read_card" s_read_card f fd)
    (d_read_deck : ∃ f fd, HasDef K "read_deck" s_read_deck f fd)
    (d_tell_card : ∃ f fd, HasDef K "tell_card" s_tell_card f fd)
    (d_tell_deck : ∃ f fd, HasDef K "tell_deck" s_tell_deck f fd)
    (d_is_order : ∃ f fd, HasDef K "is_order" s_is_order f fd)
    (d_is_pass : ∃ f fd, HasDef K "is_pass" s_is_pass f fd)
    (d_pocket_of : ∃ f fd, HasDef K "pocket_of" s_pocket_of f fd)
    (d_drop_cards : ∃ f fd, HasDef K "drop_cards" s_drop_cards f fd)
    (d_stack : ∃ f fd, HasDef K "stack" s_stack f fd)
    (d_is_collation : ∃ f fd, HasDef K "is_collation" s_is_collation f fd)
    (d_fields_of : ∃ f fd, HasDef K "fields_of" s_fields_of f fd)
    (d_cards_like : ∃ f fd, HasDef K "cards_like" s_cards_like f fd)
    (d_cards_unlike : ∃ f fd, HasDef K "cards_unlike" s_cards_unlike f fd)
    (d_merge : ∃ f fd, HasDef K "merge" s_merge f fd)
    (d_collate : ∃ f fd, HasDef K "collate" s_collate f fd)
    (d_lines_of : ∃ f fd, HasDef K "lines_of" s_lines_of f fd)
    (d_shared_signs : ∃ f fd, HasDef K "shared_signs" s_shared_signs f fd)
    (d_is_figure : ∃ f fd, HasDef K "is_figure" s_is_figure f fd)
    (d_LineScan___init__ : ∃ f fd, HasMeth K cS "__init__" "LineScan.__init__" s_LineScan___init__ f fd)
    (d_LineScan_take_word : ∃ f fd, HasMeth K cS "take_word" "LineScan.take_word" s_LineScan_take_word f fd)
    (d_LineScan_figure_here : ∃ f fd, HasMeth K cS "figure_here" "LineScan.figure_here" s_LineScan_figure_here f fd)
    (d_LineScan_take_number : ∃ f fd, HasMeth K cS "take_number" "LineScan.take_number" s_LineScan_take_number f fd)
    (d_take_hub : ∃ f fd, HasDef K "take_hub" s_take_hub f fd)
    (d_take_wire : ∃ f fd, HasDef K "take_wire" s_take_wire f fd)
    (d_text_fault : ∃ f fd, HasDef K "text_fault" s_text_fault f fd)
    (d_wires_of : ∃ f fd, HasDef K "wires_of" s_wires_of f fd)
    (d_sending_box : ∃ f fd, HasDef K "sending_box" s_sending_box f fd)
    (d_taking_box : ∃ f fd, HasDef K "taking_box" s_taking_box f fd)
    (d_joins_boxes : ∃ f fd, HasDef K "joins_boxes" s_joins_boxes f fd)
    (d_machine_sending : ∃ f fd, HasDef K "machine_sending" s_machine_sending f fd)
    (d_silent_machine : ∃ f fd, HasDef K "silent_machine" s_silent_machine f fd)
    (d_machine_gets : ∃ f fd, HasDef K "machine_gets" s_machine_gets f fd)
    (d_sent_by_box : ∃ f fd, HasDef K "sent_by_box" s_sent_by_box f fd)
    (d_sent : ∃ f fd, HasDef K "sent" s_sent f fd)
    (d_run_panel : ∃ f fd, HasDef K "run_panel" s_run_panel f fd)
    (d_leads_to : ∃ f fd, HasDef K "leads_to" s_leads_to f fd)
    (d_wire_fault : ∃ f fd, HasDef K "wire_fault" s_wire_fault f fd)
    (d_panel_refusal : ∃ f fd, HasDef K "panel_refusal" s_panel_refusal f fd)
    (d_count_into_boxes : ∃ f fd, HasDef K "count_into_boxes" s_count_into_boxes f fd)
    (d_in_running_order : ∃ f fd, HasDef K "in_running_order" s_in_running_order f fd)
    (d_read_panel : ∃ f fd, HasDef K "read_panel" s_read_panel f fd)
    (d_is_selected : ∃ f fd, HasDef K "is_selected" s_is_selected f fd)
    (d_select_cards : ∃ f fd, HasDef K "select_cards" s_select_cards f fd)
    (d_CallReader___init__ : ∃ f fd, HasMeth K cR "__init__" "CallReader.__init__" s_CallReader___init__ f fd)
    (d_CallReader_at_end : ∃ f fd, HasMeth K cR "at_end" "CallReader.at_end" s_CallReader_at_end f fd)
    (d_CallReader_next_number : ∃ f fd, HasMeth K cR "next_number" "CallReader.next_number" s_CallReader_next_number f fd)
    (d_CallReader_next_row : ∃ f fd, HasMeth K cR "next_row" "CallReader.next_row" s_CallReader_next_row f fd)
    (d_tell_pockets : ∃ f fd, HasDef K "tell_pockets" s_tell_pockets f fd)
    (d_answer_the_pass : ∃ f fd, HasDef K "answer_the_pass" s_answer_the_pass f fd)
    (d_answer_follow : ∃ f fd, HasDef K "answer_follow" s_answer_follow f fd)
    (d_answer_collate : ∃ f fd, HasDef K "answer_collate" s_answer_collate f fd)
    (d_answer_select : ∃ f fd, HasDef K "answer_select" s_answer_select f fd)
    (d_number_of_figures : ∃ f fd, HasDef K "number_of_figures" s_number_of_figures f fd)
    (d_read_amount : ∃ f fd, HasDef K "read_amount" s_read_amount f fd)
    (d_figures_of : ∃ f fd, HasDef K "figures_of" s_figures_of f fd)
    (d_amount_fits : ∃ f fd, HasDef K "amount_fits" s_amount_fits f fd)
    (d_write_amount : ∃ f fd, HasDef K "write_amount" s_write_amount f fd)
    (d_Step___init__ : ∃ f fd, HasMeth K cSt "__init__" "Step.__init__" s_Step___init__ f fd)
    (d_asks_counter : ∃ f fd, HasDef K "asks_counter" s_asks_counter f fd)
    (d_asks_panel : ∃ f fd, HasDef K "asks_panel" s_asks_panel f fd)
    (d_number_fits : ∃ f fd, HasDef K "number_fits" s_number_fits f fd)
    (d_field_fits : ∃ f fd, HasDef K "field_fits" s_field_fits f fd)
    (d_x_fits : ∃ f fd, HasDef K "x_fits" s_x_fits f fd)
    (d_is_as_it_should_be : ∃ f fd, HasDef K "is_as_it_should_be" s_is_as_it_should_be f fd)
    (d_read_step : ∃ f fd, HasDef K "read_step" s_read_step f fd)
    (d_read_program : ∃ f fd, HasDef K "read_program" s_read_program f fd)
    (d_CardRun___init__ : ∃ f fd, HasMeth K cCR "__init__" "CardRun.__init__" s_CardRun___init__ f fd)
    (d_power_of_ten : ∃ f fd, HasDef K "power_of_ten" s_power_of_ten f fd)
    (d_quotient_of : ∃ f fd, HasDef K "quotient_of" s_quotient_of f fd)
    (d_rounded_quotient : ∃ f fd, HasDef K "rounded_quotient" s_rounded_quotient f fd)
    (d_put : ∃ f fd, HasDef K "put" s_put f fd)
    (d_read_field : ∃ f fd, HasDef K "read_field" s_read_field f fd)
    (d_divide : ∃ f fd, HasDef K "divide" s_divide f fd)
    (d_punch_field : ∃ f fd, HasDef K "punch_field" s_punch_field f fd)
    (d_reckoned : ∃ f fd, HasDef K "reckoned" s_reckoned f fd)
    (d_do_step : ∃ f fd, HasDef K "do_step" s_do_step f fd)
    (d_is_done : ∃ f fd, HasDef K "is_done" s_is_done f fd)
    (d_CalculatingPunch___init__ : ∃ f fd, HasMeth K cCP "__init__" "CalculatingPunch.__init__" s_CalculatingPunch___init__ f fd)
    (d_begin_card : ∃ f fd, HasDef K "begin_card" s_begin_card f fd)
    (d_keep_counters : ∃ f fd, HasDef K "keep_counters" s_keep_counters f fd)
    (d_run_steps : ∃ f fd, HasDef K "run_steps" s_run_steps f fd)
    (d_ReproducingPunch___init__ : ∃ f fd, HasMeth K cRP "__init__" "ReproducingPunch.__init__" s_ReproducingPunch___init__ f fd)
    (d_run_pair : ∃ f fd, HasDef K "run_pair" s_run_pair f fd)
    (d_place_that_differs : ∃ f fd, HasDef K "place_that_differs" s_place_that_differs f fd)
    (d_stops_behind : ∃ f fd, HasDef K "stops_behind" s_stops_behind f fd)
    (d_punch_card : ∃ f fd, HasDef K "punch_card" s_punch_card f fd)
    (d_Desk___init__ : ∃ f fd, HasMeth K cDk "__init__" "Desk.__init__" s_Desk___init__ f fd)
    (d_answer_setcopy : ∃ f fd, HasDef K "answer_setcopy" s_answer_setcopy f fd)
    (d_answer_counters : ∃ f fd, HasDef K "answer_counters" s_answer_counters f fd)
    (d_answer_copy : ∃ f fd, HasDef K "answer_copy" s_answer_copy f fd)
    (d_answer_setwork : ∃ f fd, HasDef K "answer_setwork" s_answer_setwork f fd)
    (d_answer_work : ∃ f fd, HasDef K "answer_work" s_answer_work f fd)
    (d_answer_punch_call : ∃ f fd, HasDef K "answer_punch_call" s_answer_punch_call f fd)
    (d_answer_call : ∃ f fd, HasDef K "answer_call" s_answer_call f fd)
    (d_answers : ∃ f fd, HasDef K "answers" s_answers f fd)
    : ∃ fd : FuncData, (∀ (s : Shared) (us : List Value), us.length = (["calls"] : List Str).length → BindsTo s fd ⟨us, []⟩ ((["calls"] : List Str).zip us)) ∧ ∀ base : Heap, K.In base → base.Ns mainGlobals mg → FnOk P w K mg base CX0 11 fa fd ["calls"] (sp_answers K) := by
  let ad : Ad := ⟨z, v, se, ta, bs, bt, cS, cS, cS, cS⟩
  let dd : AdD := ⟨cR⟩
  let de : AdE := ⟨fh, ms, us, cRP, cCP, cSt, cCR, cDk⟩
  obtain ⟨f_is_column, fd_is_column, d_is_column⟩ := d_is_column
  obtain ⟨f_is_field, fd_is_field, d_is_field⟩ := d_is_field
  obtain ⟨f_figure_hole, fd_figure_hole, d_figure_hole⟩ := d_figure_hole
  obtain ⟨f_blank_card, fd_blank_card, d_blank_card⟩ := d_blank_card
  obtain ⟨f_code_holes, fd_code_holes, d_code_holes⟩ := d_code_holes
  obtain ⟨f_column_rank, fd_column_rank, d_column_rank⟩ := d_column_rank
  obtain ⟨f_comes_before, fd_comes_before, d_comes_before⟩ := d_comes_before
  obtain ⟨f_out_of_sequence, fd_out_of_sequence, d_out_of_sequence⟩ := d_out_of_sequence
  obtain ⟨f_read_card, fd_read_card, d_read_card⟩ := d_read_card
  obtain ⟨f_read_deck, fd_read_deck, d_read_deck⟩ := d_read_deck
  obtain ⟨f_tell_card, fd_tell_card, d_tell_card⟩ := d_tell_card
  obtain ⟨f_tell_deck, fd_tell_deck, d_tell_deck⟩ := d_tell_deck
  obtain ⟨f_is_order, fd_is_order, d_is_order⟩ := d_is_order
  obtain ⟨f_is_pass, fd_is_pass, d_is_pass⟩ := d_is_pass
  obtain ⟨f_pocket_of, fd_pocket_of, d_pocket_of⟩ := d_pocket_of
  obtain ⟨f_drop_cards, fd_drop_cards, d_drop_cards⟩ := d_drop_cards
  obtain ⟨f_stack, fd_stack, d_stack⟩ := d_stack
  obtain ⟨f_is_collation, fd_is_collation, d_is_collation⟩ := d_is_collation
  obtain ⟨f_fields_of, fd_fields_of, d_fields_of⟩ := d_fields_of
  obtain ⟨f_cards_like, fd_cards_like, d_cards_like⟩ := d_cards_like
  obtain ⟨f_cards_unlike, fd_cards_unlike, d_cards_unlike⟩ := d_cards_unlike
  obtain ⟨f_merge, fd_merge, d_merge⟩ := d_merge
  obtain ⟨f_collate, fd_collate, d_collate⟩ := d_collate
  obtain ⟨f_lines_of, fd_lines_of, d_lines_of⟩ := d_lines_of
  obtain ⟨f_shared_signs, fd_shared_signs, d_shared_signs⟩ := d_shared_signs
  obtain ⟨f_is_figure, fd_is_figure, d_is_figure⟩ := d_is_figure
  obtain ⟨f_LineScan___init__, fd_LineScan___init__, d_LineScan___init__⟩ := d_LineScan___init__
  obtain ⟨f_LineScan_take_word, fd_LineScan_take_word, d_LineScan_take_word⟩ := d_LineScan_take_word
  obtain ⟨f_LineScan_figure_here, fd_LineScan_figure_here, d_LineScan_figure_here⟩ := d_LineScan_figure_here
  obtain ⟨f_LineScan_take_number, fd_LineScan_take_number, d_LineScan_take_number⟩ := d_LineScan_take_number
  obtain ⟨f_take_hub, fd_take_hub, d_take_hub⟩ := d_take_hub
  obtain ⟨f_take_wire, fd_take_wire, d_take_wire⟩ := d_take_wire
  obtain ⟨f_text_fault, fd_text_fault, d_text_fault⟩ := d_text_fault
  obtain ⟨f_wires_of, fd_wires_of, d_wires_of⟩ := d_wires_of
  obtain ⟨f_sending_box, fd_sending_box, d_sending_box⟩ := d_sending_box
  obtain ⟨f_taking_box, fd_taking_box, d_taking_box⟩ := d_taking_box
  obtain ⟨f_joins_boxes, fd_joins_boxes, d_joins_boxes⟩ := d_joins_boxes
  obtain ⟨f_machine_sending, fd_machine_sending, d_machine_sending⟩ := d_machine_sending
  obtain ⟨f_silent_machine, fd_silent_machine, d_silent_machine⟩ := d_silent_machine
  obtain ⟨f_machine_gets, fd_machine_gets, d_machine_gets⟩ := d_machine_gets
  obtain ⟨f_sent_by_box, fd_sent_by_box, d_sent_by_box⟩ := d_sent_by_box
  obtain ⟨f_sent, fd_sent, d_sent⟩ := d_sent
  obtain ⟨f_run_panel, fd_run_panel, d_run_panel⟩ := d_run_panel
  obtain ⟨f_leads_to, fd_leads_to, d_leads_to⟩ := d_leads_to
  obtain ⟨f_wire_fault, fd_wire_fault, d_wire_fault⟩ := d_wire_fault
  obtain ⟨f_panel_refusal, fd_panel_refusal, d_panel_refusal⟩ := d_panel_refusal
  obtain ⟨f_count_into_boxes, fd_count_into_boxes, d_count_into_boxes⟩ := d_count_into_boxes
  obtain ⟨f_in_running_order, fd_in_running_order, d_in_running_order⟩ := d_in_running_order
  obtain ⟨f_read_panel, fd_read_panel, d_read_panel⟩ := d_read_panel
  obtain ⟨f_is_selected, fd_is_selected, d_is_selected⟩ := d_is_selected
  obtain ⟨f_select_cards, fd_select_cards, d_select_cards⟩ := d_select_cards
  obtain ⟨f_CallReader___init__, fd_CallReader___init__, d_CallReader___init__⟩ := d_CallReader___init__
  obtain ⟨f_CallReader_at_end, fd_CallReader_at_end, d_CallReader_at_end⟩ := d_CallReader_at_end
  obtain ⟨f_CallReader_next_number, fd_CallReader_next_number, d_CallReader_next_number⟩ := d_CallReader_next_number
  obtain ⟨f_CallReader_next_row, fd_CallReader_next_row, d_CallReader_next_row⟩ := d_CallReader_next_row
  obtain ⟨f_tell_pockets, fd_tell_pockets, d_tell_pockets⟩ := d_tell_pockets
  obtain ⟨f_answer_the_pass, fd_answer_the_pass, d_answer_the_pass⟩ := d_answer_the_pass
  obtain ⟨f_answer_follow, fd_answer_follow, d_answer_follow⟩ := d_answer_follow
  obtain ⟨f_answer_collate, fd_answer_collate, d_answer_collate⟩ := d_answer_collate
  obtain ⟨f_answer_select, fd_answer_select, d_answer_select⟩ := d_answer_select
  obtain ⟨f_number_of_figures, fd_number_of_figures, d_number_of_figures⟩ := d_number_of_figures
  obtain ⟨f_read_amount, fd_read_amount, d_read_amount⟩ := d_read_amount
  obtain ⟨f_figures_of, fd_figures_of, d_figures_of⟩ := d_figures_of
  obtain ⟨f_amount_fits, fd_amount_fits, d_amount_fits⟩ := d_amount_fits
  obtain ⟨f_write_amount, fd_write_amount, d_write_amount⟩ := d_write_amount
  obtain ⟨f_Step___init__, fd_Step___init__, d_Step___init__⟩ := d_Step___init__
  obtain ⟨f_asks_counter, fd_asks_counter, d_asks_counter⟩ := d_asks_counter
  obtain ⟨f_asks_panel, fd_asks_panel, d_asks_panel⟩ := d_asks_panel
  obtain ⟨f_number_fits, fd_number_fits, d_number_fits⟩ := d_number_fits
  obtain ⟨f_field_fits, fd_field_fits, d_field_fits⟩ := d_field_fits
  obtain ⟨f_x_fits, fd_x_fits, d_x_fits⟩ := d_x_fits
  obtain ⟨f_is_as_it_should_be, fd_is_as_it_should_be, d_is_as_it_should_be⟩ := d_is_as_it_should_be
  obtain ⟨f_read_step, fd_read_step, d_read_step⟩ := d_read_step
  obtain ⟨f_read_program, fd_read_program, d_read_program⟩ := d_read_program
  obtain ⟨f_CardRun___init__, fd_CardRun___init__, d_CardRun___init__⟩ := d_CardRun___init__
  obtain ⟨f_power_of_ten, fd_power_of_ten, d_power_of_ten⟩ := d_power_of_ten
  obtain ⟨f_quotient_of, fd_quotient_of, d_quotient_of⟩ := d_quotient_of
  obtain ⟨f_rounded_quotient, fd_rounded_quotient, d_rounded_quotient⟩ := d_rounded_quotient
  obtain ⟨f_put, fd_put, d_put⟩ := d_put
  obtain ⟨f_read_field, fd_read_field, d_read_field⟩ := d_read_field
  obtain ⟨f_divide, fd_divide, d_divide⟩ := d_divide
  obtain ⟨f_punch_field, fd_punch_field, d_punch_field⟩ := d_punch_field
  obtain ⟨f_reckoned, fd_reckoned, d_reckoned⟩ := d_reckoned
  obtain ⟨f_do_step, fd_do_step, d_do_step⟩ := d_do_step
  obtain ⟨f_is_done, fd_is_done, d_is_done⟩ := d_is_done
  obtain ⟨f_CalculatingPunch___init__, fd_CalculatingPunch___init__, d_CalculatingPunch___init__⟩ := d_CalculatingPunch___init__
  obtain ⟨f_begin_card, fd_begin_card, d_begin_card⟩ := d_begin_card
  obtain ⟨f_keep_counters, fd_keep_counters, d_keep_counters⟩ := d_keep_counters
  obtain ⟨f_run_steps, fd_run_steps, d_run_steps⟩ := d_run_steps
  obtain ⟨f_ReproducingPunch___init__, fd_ReproducingPunch___init__, d_ReproducingPunch___init__⟩ := d_ReproducingPunch___init__
  obtain ⟨f_run_pair, fd_run_pair, d_run_pair⟩ := d_run_pair
  obtain ⟨f_place_that_differs, fd_place_that_differs, d_place_that_differs⟩ := d_place_that_differs
  obtain ⟨f_stops_behind, fd_stops_behind, d_stops_behind⟩ := d_stops_behind
  obtain ⟨f_punch_card, fd_punch_card, d_punch_card⟩ := d_punch_card
  obtain ⟨f_Desk___init__, fd_Desk___init__, d_Desk___init__⟩ := d_Desk___init__
  obtain ⟨f_answer_setcopy, fd_answer_setcopy, d_answer_setcopy⟩ := d_answer_setcopy
  obtain ⟨f_answer_counters, fd_answer_counters, d_answer_counters⟩ := d_answer_counters
  obtain ⟨f_answer_copy, fd_answer_copy, d_answer_copy⟩ := d_answer_copy
  obtain ⟨f_answer_setwork, fd_answer_setwork, d_answer_setwork⟩ := d_answer_setwork
  obtain ⟨f_answer_work, fd_answer_work, d_answer_work⟩ := d_answer_work
  obtain ⟨f_answer_punch_call, fd_answer_punch_call, d_answer_punch_call⟩ := d_answer_punch_call
  obtain ⟨f_answer_call, fd_answer_call, d_answer_call⟩ := d_answer_call
  obtain ⟨f_answers, fd_answers, d_answers⟩ := d_answers
  obtain rfl : f_answers = fa := by
    have e := hfa.symm.trans (PySem.W.mg_of X G d_answers.1)
    cases e
    rfl
  refine ⟨fd_answers, binds_to (ps := ["calls"]) d_answers.2.2 (fun _ _ _ _ _ _ us hl => match us, hl with | [_], _ => rfl), fun base _ _ => ?_⟩
  have D_is_column : Dcl P w K mg base 1 "is_column" ["c"] sp_is_column := ⟨f_is_column, fd_is_column, ok_is_column d_is_column.2.2 T.toTxtD.toTxt, PySem.W.mg_of X G d_is_column.1, d_is_column.2.1, Fun.binds (ps := ["c"]) d_is_column.2.2 (fun _ _ _ _ _ _ us hl => match us, hl with | [_], _ => rfl)⟩
  have D_is_field : Dcl P w K mg base 1 "is_field" ["c", "n"] sp_is_field := ⟨f_is_field, fd_is_field, ok_is_field d_is_field.2.2 T.toTxtD.toTxt, PySem.W.mg_of X G d_is_field.1, d_is_field.2.1, Fun.binds (ps := ["c", "n"]) d_is_field.2.2 (fun _ _ _ _ _ _ us hl => match us, hl with | [_, _], _ => rfl)⟩
  have D_figure_hole : Dcl P w K mg base 1 "figure_hole" ["figure"] sp_figure_hole := ⟨f_figure_hole, fd_figure_hole, ok_figure_hole d_figure_hole.2.2 , PySem.W.mg_of X G d_figure_hole.1, d_figure_hole.2.1, Fun.binds (ps := ["figure"]) d_figure_hole.2.2 (fun _ _ _ _ _ _ us hl => match us, hl with | [_], _ => rfl)⟩
  have D_blank_card : Dcl P w K mg base 1 "blank_card" [] sp_blank_card := ⟨f_blank_card, fd_blank_card, ok_blank_card d_blank_card.2.2 T.toTxtD.toTxt, PySem.W.mg_of X G d_blank_card.1, d_blank_card.2.1, Fun.binds (ps := []) d_blank_card.2.2 (fun _ _ _ _ _ _ us hl => match us, hl with | [], _ => rfl)⟩
  have D_code_holes : Dcl P w K mg base 2 "code_holes" ["number"] sp_code_holes := ⟨f_code_holes, fd_code_holes, ok_code_holes d_code_holes.2.2 D_figure_hole, PySem.W.mg_of X G d_code_holes.1, d_code_holes.2.1, Fun.binds (ps := ["number"]) d_code_holes.2.2 (fun _ _ _ _ _ _ us hl => match us, hl with | [_], _ => rfl)⟩
  have D_column_rank : Dcl P w K mg base 1 "column_rank" ["holes"] sp_column_rank := ⟨f_column_rank, fd_column_rank, ok_column_rank d_column_rank.2.2 T.toTxtD.toTxt, PySem.W.mg_of X G d_column_rank.1, d_column_rank.2.1, Fun.binds (ps := ["holes"]) d_column_rank.2.2 (fun _ _ _ _ _ _ us hl => match us, hl with | [_], _ => rfl)⟩
  have D_comes_before : Dcl P w K mg base 2 "comes_before" ["card", "c", "other", "e", "n"] (sp_comes_before K) := ⟨f_comes_before, fd_comes_before, ok_comes_before d_comes_before.2.2 T.toTxtD.toTxt D_column_rank, PySem.W.mg_of X G d_comes_before.1, d_comes_before.2.1, Fun.binds (ps := ["card", "c", "other", "e", "n"]) d_comes_before.2.2 (fun _ _ _ _ _ _ us hl => match us, hl with | [_, _, _, _, _], _ => rfl)⟩
  have D_out_of_sequence : Dcl P w K mg base 3 "out_of_sequence" ["deck", "c", "n"] sp_out_of_sequence := ⟨f_out_of_sequence, fd_out_of_sequence, ok_out_of_sequence d_out_of_sequence.2.2 T.toTxtD.toTxt D_comes_before, PySem.W.mg_of X G d_out_of_sequence.1, d_out_of_sequence.2.1, Fun.binds (ps := ["deck", "c", "n"]) d_out_of_sequence.2.2 (fun _ _ _ _ _ _ us hl => match us, hl with | [_, _, _], _ => rfl)⟩
  have D_read_card : Dcl P w K mg base 2 "read_card" ["numbers"] (sp_read_card K) := ⟨f_read_card, fd_read_card, ok_read_card d_read_card.2.2 T.toTxtD.toTxt D_blank_card D_is_column, PySem.W.mg_of X G d_read_card.1, d_read_card.2.1, Fun.binds (ps := ["numbers"]) d_read_card.2.2 (fun _ _ _ _ _ _ us hl => match us, hl with | [_], _ => rfl)⟩
  have D_read_deck : Dcl P w K mg base 3 "read_deck" ["numbers"] (sp_read_deck K) := ⟨f_read_deck, fd_read_deck, ok_read_deck d_read_deck.2.2 T.toTxtD.toTxt D_read_card, PySem.W.mg_of X G d_read_deck.1, d_read_deck.2.1, Fun.binds (ps := ["numbers"]) d_read_deck.2.2 (fun _ _ _ _ _ _ us hl => match us, hl with | [_], _ => rfl)⟩
  have D_tell_card : Dcl P w K mg base 1 "tell_card" ["card"] (sp_tell_card K) := ⟨f_tell_card, fd_tell_card, ok_tell_card d_tell_card.2.2 T.toTxtD.toTxt, PySem.W.mg_of X G d_tell_card.1, d_tell_card.2.1, Fun.binds (ps := ["card"]) d_tell_card.2.2 (fun _ _ _ _ _ _ us hl => match us, hl with | [_], _ => rfl)⟩
  have D_tell_deck : Dcl P w K mg base 2 "tell_deck" ["deck"] sp_tell_deck := ⟨f_tell_deck, fd_tell_deck, ok_tell_deck d_tell_deck.2.2 T.toTxtD.toTxt D_tell_card, PySem.W.mg_of X G d_tell_deck.1, d_tell_deck.2.1, Fun.binds (ps := ["deck"]) d_tell_deck.2.2 (fun _ _ _ _ _ _ us hl => match us, hl with | [_], _ => rfl)⟩
  have D_is_order : Dcl P w K mg base 1 "is_order" ["order"] (sp_is_order K) := ⟨f_is_order, fd_is_order, ok_is_order d_is_order.2.2 T.toTxtD.toTxt, PySem.W.mg_of X G d_is_order.1, d_is_order.2.1, Fun.binds (ps := ["order"]) d_is_order.2.2 (fun _ _ _ _ _ _ us hl => match us, hl with | [_], _ => rfl)⟩
  have D_is_pass : Dcl P w K mg base 2 "is_pass" ["c", "looked", "order"] (sp_is_pass K) := ⟨f_is_pass, fd_is_pass, ok_is_pass d_is_pass.2.2 T.toTxtD.toTxt D_is_column D_is_order, PySem.W.mg_of X G d_is_pass.1, d_is_pass.2.1, Fun.binds (ps := ["c", "looked", "order"]) d_is_pass.2.2 (fun _ _ _ _ _ _ us hl => match us, hl with | [_, _, _], _ => rfl)⟩
  have D_pocket_of : Dcl P w K mg base 1 "pocket_of" ["holes", "looked"] sp_pocket_of := ⟨f_pocket_of, fd_pocket_of, ok_pocket_of d_pocket_of.2.2 T.toTxtD.toTxt, PySem.W.mg_of X G d_pocket_of.1, d_pocket_of.2.1, Fun.binds (ps := ["holes", "looked"]) d_pocket_of.2.2 (fun _ _ _ _ _ _ us hl => match us, hl with | [_, _], _ => rfl)⟩
  have D_drop_cards : Dcl P w K mg base 2 "drop_cards" ["deck", "c", "looked"] sp_drop_cards := ⟨f_drop_cards, fd_drop_cards, ok_drop_cards d_drop_cards.2.2 T.toTxtD.toTxt D_pocket_of, PySem.W.mg_of X G d_drop_cards.1, d_drop_cards.2.1, Fun.binds (ps := ["deck", "c", "looked"]) d_drop_cards.2.2 (fun _ _ _ _ _ _ us hl => match us, hl with | [_, _, _], _ => rfl)⟩
  have D_stack : Dcl P w K mg base 1 "stack" ["pockets", "order"] (sp_stack K) := ⟨f_stack, fd_stack, ok_stack d_stack.2.2 , PySem.W.mg_of X G d_stack.1, d_stack.2.1, Fun.binds (ps := ["pockets", "order"]) d_stack.2.2 (fun _ _ _ _ _ _ us hl => match us, hl with | [_, _], _ => rfl)⟩
  have D_is_collation : Dcl P w K mg base 2 "is_collation" ["c", "e", "n", "how"] sp_is_collation := ⟨f_is_collation, fd_is_collation, ok_is_collation d_is_collation.2.2 T.toTxtD.toTxt D_is_field, PySem.W.mg_of X G d_is_collation.1, d_is_collation.2.1, Fun.binds (ps := ["c", "e", "n", "how"]) d_is_collation.2.2 (fun _ _ _ _ _ _ us hl => match us, hl with | [_, _, _, _], _ => rfl)⟩
  have D_fields_of : Dcl P w K mg base 1 "fields_of" ["deck", "c", "n"] sp_fields_of := ⟨f_fields_of, fd_fields_of, ok_fields_of d_fields_of.2.2 T.toTxtD.toTxt, PySem.W.mg_of X G d_fields_of.1, d_fields_of.2.1, Fun.binds (ps := ["deck", "c", "n"]) d_fields_of.2.2 (fun _ _ _ _ _ _ us hl => match us, hl with | [_, _, _], _ => rfl)⟩
  have D_cards_like : Dcl P w K mg base 1 "cards_like" ["deck", "c", "n", "fields"] (sp_cards_like false) := ⟨f_cards_like, fd_cards_like, ok_cards_like d_cards_like.2.2 T.toTxtD.toTxt, PySem.W.mg_of X G d_cards_like.1, d_cards_like.2.1, Fun.binds (ps := ["deck", "c", "n", "fields"]) d_cards_like.2.2 (fun _ _ _ _ _ _ us hl => match us, hl with | [_, _, _, _], _ => rfl)⟩
  have D_cards_unlike : Dcl P w K mg base 1 "cards_unlike" ["deck", "c", "n", "fields"] (sp_cards_like true) := ⟨f_cards_unlike, fd_cards_unlike, ok_cards_unlike d_cards_unlike.2.2 T.toTxtD.toTxt, PySem.W.mg_of X G d_cards_unlike.1, d_cards_unlike.2.1, Fun.binds (ps := ["deck", "c", "n", "fields"]) d_cards_unlike.2.2 (fun _ _ _ _ _ _ us hl => match us, hl with | [_, _, _, _], _ => rfl)⟩
  have D_merge : Dcl P w K mg base 3 "merge" ["first", "c", "second", "e", "n"] sp_merge := ⟨f_merge, fd_merge, ok_merge d_merge.2.2 T.toTxtD.toTxt D_comes_before, PySem.W.mg_of X G d_merge.1, d_merge.2.1, Fun.binds (ps := ["first", "c", "second", "e", "n"]) d_merge.2.2 (fun _ _ _ _ _ _ us hl => match us, hl with | [_, _, _, _, _], _ => rfl)⟩
  have D_collate : Dcl P w K mg base 4 "collate" ["first", "second", "c", "e", "n", "how"] sp_collate := ⟨f_collate, fd_collate, ok_collate d_collate.2.2 T.toTxtD.toTxt D_merge D_fields_of D_cards_like D_cards_unlike, PySem.W.mg_of X G d_collate.1, d_collate.2.1, Fun.binds (ps := ["first", "second", "c", "e", "n", "how"]) d_collate.2.2 (fun _ _ _ _ _ _ us hl => match us, hl with | [_, _, _, _, _, _], _ => rfl)⟩
  have D_lines_of : Dcl P w K mg base 1 "lines_of" ["text"] (sp_lines_of K) := ⟨f_lines_of, fd_lines_of, ok_lines_of d_lines_of.2.2 T.toTxtD.toTxt, PySem.W.mg_of X G d_lines_of.1, d_lines_of.2.1, Fun.binds (ps := ["text"]) d_lines_of.2.2 (fun _ _ _ _ _ _ us hl => match us, hl with | [_], _ => rfl)⟩
  have D_shared_signs : Dcl P w K mg base 1 "shared_signs" ["line", "at", "word"] (sp_shared_signs K) := ⟨f_shared_signs, fd_shared_signs, ok_shared_signs d_shared_signs.2.2 T.toTxtD.toTxt, PySem.W.mg_of X G d_shared_signs.1, d_shared_signs.2.1, Fun.binds (ps := ["line", "at", "word"]) d_shared_signs.2.2 (fun _ _ _ _ _ _ us hl => match us, hl with | [_, _, _], _ => rfl)⟩
  have D_is_figure : Dcl P w K mg base 1 "is_figure" ["sign"] sp_is_figure := ⟨f_is_figure, fd_is_figure, ok_is_figure d_is_figure.2.2 T.toTxtD.toTxt, PySem.W.mg_of X G d_is_figure.1, d_is_figure.2.1, Fun.binds (ps := ["sign"]) d_is_figure.2.2 (fun _ _ _ _ _ _ us hl => match us, hl with | [_], _ => rfl)⟩
  have D_LineScan : CDcl P w K mg base 1 cS "LineScan" ["self", "line"] (sp_scan_init ad) := ⟨f_LineScan___init__, fd_LineScan___init__, ok_scan_init d_LineScan___init__.2.2.2 T.toTxtD.toTxt, ⟨c_LineScan.2.2.1, d_LineScan___init__.1, d_LineScan___init__.2.1, c_LineScan.2.2.2⟩, PySem.W.mg_of X G c_LineScan.1, Fun.binds (ps := ["self", "line"]) d_LineScan___init__.2.2.2 (fun _ _ _ _ _ _ us hl => match us, hl with | [_, _], _ => rfl)⟩
  have D_LineScan_take_word : MDcl P w K mg base 2 cS "take_word" ["self", "words"] (sp_take_word K ad) := ⟨f_LineScan_take_word, fd_LineScan_take_word, ok_take_word d_LineScan_take_word.2.2.2 T.toTxtD.toTxt D_shared_signs, ⟨d_LineScan_take_word.1, d_LineScan_take_word.2.1, d_LineScan_take_word.2.2.1⟩, Fun.binds (ps := ["self", "words"]) d_LineScan_take_word.2.2.2 (fun _ _ _ _ _ _ us hl => match us, hl with | [_, _], _ => rfl)⟩
  have D_LineScan_figure_here : MDcl P w K mg base 2 cS "figure_here" ["self"] (sp_figure_here K ad) := ⟨f_LineScan_figure_here, fd_LineScan_figure_here, ok_figure_here d_LineScan_figure_here.2.2.2 T.toTxtD.toTxt D_is_figure, ⟨d_LineScan_figure_here.1, d_LineScan_figure_here.2.1, d_LineScan_figure_here.2.2.1⟩, Fun.binds (ps := ["self"]) d_LineScan_figure_here.2.2.2 (fun _ _ _ _ _ _ us hl => match us, hl with | [_], _ => rfl)⟩
  have D_LineScan_take_number : MDcl P w K mg base 3 cS "take_number" ["self", "most"] (sp_take_number K ad) := ⟨f_LineScan_take_number, fd_LineScan_take_number, ok_take_number d_LineScan_take_number.2.2.2 T.toTxtD.toTxt D_LineScan_figure_here, ⟨d_LineScan_take_number.1, d_LineScan_take_number.2.1, d_LineScan_take_number.2.2.1⟩, Fun.binds (ps := ["self", "most"]) d_LineScan_take_number.2.2.2 (fun _ _ _ _ _ _ us hl => match us, hl with | [_, _], _ => rfl)⟩
  have D_take_hub : Dcl P w K mg base 4 "take_hub" ["scan", "hubs"] (sp_take_hub K ad) := ⟨f_take_hub, fd_take_hub, ok_take_hub d_take_hub.2.2 T.toTxtD.toTxt D_LineScan_take_word D_LineScan_take_number, PySem.W.mg_of X G d_take_hub.1, d_take_hub.2.1, Fun.binds (ps := ["scan", "hubs"]) d_take_hub.2.2 (fun _ _ _ _ _ _ us hl => match us, hl with | [_, _], _ => rfl)⟩
  have D_take_wire : Dcl P w K mg base 5 "take_wire" ["scan"] (sp_take_wire K ad) := ⟨f_take_wire, fd_take_wire, ok_take_wire d_take_wire.2.2 T.toTxtD.toTxt D_LineScan_take_word D_take_hub, PySem.W.mg_of X G d_take_wire.1, d_take_wire.2.1, Fun.binds (ps := ["scan"]) d_take_wire.2.2 (fun _ _ _ _ _ _ us hl => match us, hl with | [_], _ => rfl)⟩
  have D_text_fault : Dcl P w K mg base 6 "text_fault" ["text"] (sp_text_fault K) := ⟨f_text_fault, fd_text_fault, ok_text_fault d_text_fault.2.2 T.toTxtD.toTxt D_lines_of D_take_wire D_LineScan, PySem.W.mg_of X G d_text_fault.1, d_text_fault.2.1, Fun.binds (ps := ["text"]) d_text_fault.2.2 (fun _ _ _ _ _ _ us hl => match us, hl with | [_], _ => rfl)⟩
  have D_wires_of : Dcl P w K mg base 6 "wires_of" ["text"] (sp_wires_of K) := ⟨f_wires_of, fd_wires_of, ok_wires_of d_wires_of.2.2 T.toTxtD.toTxt D_lines_of D_take_wire D_LineScan, PySem.W.mg_of X G d_wires_of.1, d_wires_of.2.1, Fun.binds (ps := ["text"]) d_wires_of.2.2 (fun _ _ _ _ _ _ us hl => match us, hl with | [_], _ => rfl)⟩
  have D_sending_box : Dcl P w K mg base 1 "sending_box" ["wire"] (sp_box Pu.Wire.outOf) := ⟨f_sending_box, fd_sending_box, ok_sending_box d_sending_box.2.2 T.toTxtD.toTxt, PySem.W.mg_of X G d_sending_box.1, d_sending_box.2.1, Fun.binds (ps := ["wire"]) d_sending_box.2.2 (fun _ _ _ _ _ _ us hl => match us, hl with | [_], _ => rfl)⟩
  have D_taking_box : Dcl P w K mg base 1 "taking_box" ["wire"] (sp_box Pu.Wire.inTo) := ⟨f_taking_box, fd_taking_box, ok_taking_box d_taking_box.2.2 T.toTxtD.toTxt, PySem.W.mg_of X G d_taking_box.1, d_taking_box.2.1, Fun.binds (ps := ["wire"]) d_taking_box.2.2 (fun _ _ _ _ _ _ us hl => match us, hl with | [_], _ => rfl)⟩
  have D_joins_boxes : Dcl P w K mg base 2 "joins_boxes" ["wire"] sp_joins_boxes := ⟨f_joins_boxes, fd_joins_boxes, ok_joins_boxes d_joins_boxes.2.2 D_sending_box D_taking_box, PySem.W.mg_of X G d_joins_boxes.1, d_joins_boxes.2.1, Fun.binds (ps := ["wire"]) d_joins_boxes.2.2 (fun _ _ _ _ _ _ us hl => match us, hl with | [_], _ => rfl)⟩
  have D_machine_sending : Dcl P w K mg base 1 "machine_sending" ["holes"] sp_machine_sending := ⟨f_machine_sending, fd_machine_sending, ok_machine_sending d_machine_sending.2.2 T.toTxtD.toTxt, PySem.W.mg_of X G d_machine_sending.1, d_machine_sending.2.1, Fun.binds (ps := ["holes"]) d_machine_sending.2.2 (fun _ _ _ _ _ _ us hl => match us, hl with | [_], _ => rfl)⟩
  have D_silent_machine : Dcl P w K mg base 2 "silent_machine" [] sp_silent_machine := ⟨f_silent_machine, fd_silent_machine, ok_silent_machine d_silent_machine.2.2 D_machine_sending, PySem.W.mg_of X G d_silent_machine.1, d_silent_machine.2.1, Fun.binds (ps := []) d_silent_machine.2.2 (fun _ _ _ _ _ _ us hl => match us, hl with | [], _ => rfl)⟩
  have D_machine_gets : Dcl P w K mg base 1 "machine_gets" ["goes", "place"] sp_machine_gets := ⟨f_machine_gets, fd_machine_gets, ok_machine_gets d_machine_gets.2.2 , PySem.W.mg_of X G d_machine_gets.1, d_machine_gets.2.1, Fun.binds (ps := ["goes", "place"]) d_machine_gets.2.2 (fun _ _ _ _ _ _ us hl => match us, hl with | [_, _], _ => rfl)⟩
  have D_sent_by_box : Dcl P w K mg base 1 "sent_by_box" ["sender", "goes"] sp_sent_by_box := ⟨f_sent_by_box, fd_sent_by_box, ok_sent_by_box d_sent_by_box.2.2 T.toTxtD.toTxt, PySem.W.mg_of X G d_sent_by_box.1, d_sent_by_box.2.1, Fun.binds (ps := ["sender", "goes"]) d_sent_by_box.2.2 (fun _ _ _ _ _ _ us hl => match us, hl with | [_, _], _ => rfl)⟩
  have D_sent : Dcl P w K mg base 3 "sent" ["sender", "card", "machine", "goes"] (sp_sent K) := ⟨f_sent, fd_sent, ok_sent d_sent.2.2 T.toTxtD.toTxt D_code_holes D_sent_by_box, PySem.W.mg_of X G d_sent.1, d_sent.2.1, Fun.binds (ps := ["sender", "card", "machine", "goes"]) d_sent.2.2 (fun _ _ _ _ _ _ us hl => match us, hl with | [_, _, _, _], _ => rfl)⟩
  have D_run_panel : Dcl P w K mg base 4 "run_panel" ["panel", "card", "machine"] (sp_run_panel K) := ⟨f_run_panel, fd_run_panel, ok_run_panel d_run_panel.2.2 D_sent, PySem.W.mg_of X G d_run_panel.1, d_run_panel.2.1, Fun.binds (ps := ["panel", "card", "machine"]) d_run_panel.2.2 (fun _ _ _ _ _ _ us hl => match us, hl with | [_, _, _], _ => rfl)⟩
  have D_leads_to : Dcl P w K mg base 1 "leads_to" ["followers", "start", "goal"] sp_leads_to := ⟨f_leads_to, fd_leads_to, ok_leads_to d_leads_to.2.2 T.toTxtD.toTxt, PySem.W.mg_of X G d_leads_to.1, d_leads_to.2.1, Fun.binds (ps := ["followers", "start", "goal"]) d_leads_to.2.2 (fun _ _ _ _ _ _ us hl => match us, hl with | [_, _, _], _ => rfl)⟩
  have D_wire_fault : Dcl P w K mg base 3 "wire_fault" ["wires"] sp_wire_fault := ⟨f_wire_fault, fd_wire_fault, ok_wire_fault d_wire_fault.2.2 T.toTxtD.toTxt D_joins_boxes D_leads_to D_sending_box D_taking_box, PySem.W.mg_of X G d_wire_fault.1, d_wire_fault.2.1, Fun.binds (ps := ["wires"]) d_wire_fault.2.2 (fun _ _ _ _ _ _ us hl => match us, hl with | [_], _ => rfl)⟩
  have D_panel_refusal : Dcl P w K mg base 7 "panel_refusal" ["text"] (sp_panel_refusal K) := ⟨f_panel_refusal, fd_panel_refusal, ok_panel_refusal d_panel_refusal.2.2 T.toTxtD.toTxt D_text_fault D_wires_of D_wire_fault, PySem.W.mg_of X G d_panel_refusal.1, d_panel_refusal.2.1, Fun.binds (ps := ["text"]) d_panel_refusal.2.2 (fun _ _ _ _ _ _ us hl => match us, hl with | [_], _ => rfl)⟩
  have D_count_into_boxes : Dcl P w K mg base 2 "count_into_boxes" ["wires"] (sp_count w) := ⟨f_count_into_boxes, fd_count_into_boxes, ok_count_into_boxes d_count_into_boxes.2.2 D_taking_box, PySem.W.mg_of X G d_count_into_boxes.1, d_count_into_boxes.2.1, Fun.binds (ps := ["wires"]) d_count_into_boxes.2.2 (fun _ _ _ _ _ _ us hl => match us, hl with | [_], _ => rfl)⟩
  have D_in_running_order : Dcl P w K mg base 3 "in_running_order" ["wires"] sp_order := ⟨f_in_running_order, fd_in_running_order, ok_in_running_order d_in_running_order.2.2 T.toTxtD.toTxt D_count_into_boxes D_sending_box D_taking_box, PySem.W.mg_of X G d_in_running_order.1, d_in_running_order.2.1, Fun.binds (ps := ["wires"]) d_in_running_order.2.2 (fun _ _ _ _ _ _ us hl => match us, hl with | [_], _ => rfl)⟩
  have D_read_panel : Dcl P w K mg base 7 "read_panel" ["text"] (sp_read_panel K) := ⟨f_read_panel, fd_read_panel, ok_read_panel d_read_panel.2.2 D_in_running_order D_wires_of, PySem.W.mg_of X G d_read_panel.1, d_read_panel.2.1, Fun.binds (ps := ["text"]) d_read_panel.2.2 (fun _ _ _ _ _ _ us hl => match us, hl with | [_], _ => rfl)⟩
  have D_is_selected : Dcl P w K mg base 5 "is_selected" ["panel", "card"] sp_is_selected := ⟨f_is_selected, fd_is_selected, ok_is_selected d_is_selected.2.2 D_run_panel D_silent_machine D_machine_gets, PySem.W.mg_of X G d_is_selected.1, d_is_selected.2.1, Fun.binds (ps := ["panel", "card"]) d_is_selected.2.2 (fun _ _ _ _ _ _ us hl => match us, hl with | [_, _], _ => rfl)⟩
  have D_select_cards : Dcl P w K mg base 6 "select_cards" ["panel", "deck"] sp_select_cards := ⟨f_select_cards, fd_select_cards, ok_select_cards d_select_cards.2.2 D_is_selected, PySem.W.mg_of X G d_select_cards.1, d_select_cards.2.1, Fun.binds (ps := ["panel", "deck"]) d_select_cards.2.2 (fun _ _ _ _ _ _ us hl => match us, hl with | [_, _], _ => rfl)⟩
  have D_CallReader : CDcl P w K mg base 1 cR "CallReader" ["self", "calls"] (sp_rd_init dd) := ⟨f_CallReader___init__, fd_CallReader___init__, ok_rd_init d_CallReader___init__.2.2.2 T.toTxtD, ⟨c_CallReader.2.2.1, d_CallReader___init__.1, d_CallReader___init__.2.1, c_CallReader.2.2.2⟩, PySem.W.mg_of X G c_CallReader.1, Fun.binds (ps := ["self", "calls"]) d_CallReader___init__.2.2.2 (fun _ _ _ _ _ _ us hl => match us, hl with | [_, _], _ => rfl)⟩
  have D_CallReader_at_end : MDcl P w K mg base 1 cR "at_end" ["self"] (sp_at_end K dd) := ⟨f_CallReader_at_end, fd_CallReader_at_end, ok_at_end d_CallReader_at_end.2.2.2 T.toTxtD, ⟨d_CallReader_at_end.1, d_CallReader_at_end.2.1, d_CallReader_at_end.2.2.1⟩, Fun.binds (ps := ["self"]) d_CallReader_at_end.2.2.2 (fun _ _ _ _ _ _ us hl => match us, hl with | [_], _ => rfl)⟩
  have D_CallReader_next_number : MDcl P w K mg base 1 cR "next_number" ["self"] (sp_next_number K dd) := ⟨f_CallReader_next_number, fd_CallReader_next_number, ok_next_number d_CallReader_next_number.2.2.2 T.toTxtD, ⟨d_CallReader_next_number.1, d_CallReader_next_number.2.1, d_CallReader_next_number.2.2.1⟩, Fun.binds (ps := ["self"]) d_CallReader_next_number.2.2.2 (fun _ _ _ _ _ _ us hl => match us, hl with | [_], _ => rfl)⟩
  have D_CallReader_next_row : MDcl P w K mg base 1 cR "next_row" ["self"] (sp_next_row K dd) := ⟨f_CallReader_next_row, fd_CallReader_next_row, ok_next_row d_CallReader_next_row.2.2.2 T.toTxtD, ⟨d_CallReader_next_row.1, d_CallReader_next_row.2.1, d_CallReader_next_row.2.2.1⟩, Fun.binds (ps := ["self"]) d_CallReader_next_row.2.2.2 (fun _ _ _ _ _ _ us hl => match us, hl with | [_], _ => rfl)⟩
  have D_tell_pockets : Dcl P w K mg base 3 "tell_pockets" ["pockets", "order"] (sp_tell_pockets K) := ⟨f_tell_pockets, fd_tell_pockets, ok_tell_pockets d_tell_pockets.2.2 T.toTxtD D_stack D_tell_deck, PySem.W.mg_of X G d_tell_pockets.1, d_tell_pockets.2.1, Fun.binds (ps := ["pockets", "order"]) d_tell_pockets.2.2 (fun _ _ _ _ _ _ us hl => match us, hl with | [_, _], _ => rfl)⟩
  have D_answer_the_pass : Dcl P w K mg base 4 "answer_the_pass" ["reader"] (sp_the_pass K dd) := ⟨f_answer_the_pass, fd_answer_the_pass, ok_answer_the_pass d_answer_the_pass.2.2 T.toTxtD D_CallReader_next_number D_CallReader_next_row D_read_deck D_is_pass D_drop_cards D_tell_pockets, PySem.W.mg_of X G d_answer_the_pass.1, d_answer_the_pass.2.1, Fun.binds (ps := ["reader"]) d_answer_the_pass.2.2 (fun _ _ _ _ _ _ us hl => match us, hl with | [_], _ => rfl)⟩
  have D_answer_follow : Dcl P w K mg base 4 "answer_follow" ["reader"] (sp_follow K dd) := ⟨f_answer_follow, fd_answer_follow, ok_answer_follow d_answer_follow.2.2 T.toTxtD D_CallReader_next_number D_CallReader_next_row D_read_deck D_is_field D_out_of_sequence, PySem.W.mg_of X G d_answer_follow.1, d_answer_follow.2.1, Fun.binds (ps := ["reader"]) d_answer_follow.2.2 (fun _ _ _ _ _ _ us hl => match us, hl with | [_], _ => rfl)⟩
  have D_answer_collate : Dcl P w K mg base 5 "answer_collate" ["reader"] (sp_ans_collate K dd) := ⟨f_answer_collate, fd_answer_collate, ok_answer_collate d_answer_collate.2.2 T.toTxtD D_CallReader_next_number D_CallReader_next_row D_read_deck D_is_collation D_out_of_sequence D_collate D_tell_pockets, PySem.W.mg_of X G d_answer_collate.1, d_answer_collate.2.1, Fun.binds (ps := ["reader"]) d_answer_collate.2.2 (fun _ _ _ _ _ _ us hl => match us, hl with | [_], _ => rfl)⟩
  have D_answer_select : Dcl P w K mg base 8 "answer_select" ["reader"] (sp_ans_select K dd) := ⟨f_answer_select, fd_answer_select, ok_answer_select d_answer_select.2.2 T.toTxtD D_CallReader_next_row D_read_deck D_panel_refusal D_read_panel D_select_cards D_tell_pockets, PySem.W.mg_of X G d_answer_select.1, d_answer_select.2.1, Fun.binds (ps := ["reader"]) d_answer_select.2.2 (fun _ _ _ _ _ _ us hl => match us, hl with | [_], _ => rfl)⟩
  have D_number_of_figures : Dcl P w K mg base 1 "number_of_figures" ["columns"] (sp_number_of_figures K) := ⟨f_number_of_figures, fd_number_of_figures, ok_number_of_figures d_number_of_figures.2.2 T, PySem.W.mg_of X G d_number_of_figures.1, d_number_of_figures.2.1, Fun.binds (ps := ["columns"]) d_number_of_figures.2.2 (fun _ _ _ _ _ _ us hl => match us, hl with | [_], _ => rfl)⟩
  have D_read_amount : Dcl P w K mg base 2 "read_amount" ["columns"] (sp_read_amount K) := ⟨f_read_amount, fd_read_amount, ok_read_amount d_read_amount.2.2 T D_number_of_figures, PySem.W.mg_of X G d_read_amount.1, d_read_amount.2.1, Fun.binds (ps := ["columns"]) d_read_amount.2.2 (fun _ _ _ _ _ _ us hl => match us, hl with | [_], _ => rfl)⟩
  have D_figures_of : Dcl P w K mg base 1 "figures_of" ["amount"] sp_figures_of := ⟨f_figures_of, fd_figures_of, ok_figures_of d_figures_of.2.2 T, PySem.W.mg_of X G d_figures_of.1, d_figures_of.2.1, Fun.binds (ps := ["amount"]) d_figures_of.2.2 (fun _ _ _ _ _ _ us hl => match us, hl with | [_], _ => rfl)⟩
  have D_amount_fits : Dcl P w K mg base 2 "amount_fits" ["amount", "n"] sp_amount_fits := ⟨f_amount_fits, fd_amount_fits, ok_amount_fits d_amount_fits.2.2 T D_figures_of, PySem.W.mg_of X G d_amount_fits.1, d_amount_fits.2.1, Fun.binds (ps := ["amount", "n"]) d_amount_fits.2.2 (fun _ _ _ _ _ _ us hl => match us, hl with | [_, _], _ => rfl)⟩
  have D_write_amount : Dcl P w K mg base 2 "write_amount" ["amount", "n"] sp_write_amount := ⟨f_write_amount, fd_write_amount, ok_write_amount d_write_amount.2.2 T D_figures_of D_figure_hole, PySem.W.mg_of X G d_write_amount.1, d_write_amount.2.1, Fun.binds (ps := ["amount", "n"]) d_write_amount.2.2 (fun _ _ _ _ _ _ us hl => match us, hl with | [_, _], _ => rfl)⟩
  have D_Step : CDcl P w K mg base 1 cSt "Step" ["self", "numbers"] (sp_step_init K de) := ⟨f_Step___init__, fd_Step___init__, ok_step_init d_Step___init__.2.2.2 T, ⟨c_Step.2.2.1, d_Step___init__.1, d_Step___init__.2.1, c_Step.2.2.2⟩, PySem.W.mg_of X G c_Step.1, Fun.binds (ps := ["self", "numbers"]) d_Step___init__.2.2.2 (fun _ _ _ _ _ _ us hl => match us, hl with | [_, _], _ => rfl)⟩
  have D_asks_counter : Dcl P w K mg base 1 "asks_counter" ["step"] (sp_asks de 1 3) := ⟨f_asks_counter, fd_asks_counter, ok_asks_counter d_asks_counter.2.2 T, PySem.W.mg_of X G d_asks_counter.1, d_asks_counter.2.1, Fun.binds (ps := ["step"]) d_asks_counter.2.2 (fun _ _ _ _ _ _ us hl => match us, hl with | [_], _ => rfl)⟩
  have D_asks_panel : Dcl P w K mg base 1 "asks_panel" ["step"] (sp_asks de 4 5) := ⟨f_asks_panel, fd_asks_panel, ok_asks_panel d_asks_panel.2.2 T, PySem.W.mg_of X G d_asks_panel.1, d_asks_panel.2.1, Fun.binds (ps := ["step"]) d_asks_panel.2.2 (fun _ _ _ _ _ _ us hl => match us, hl with | [_], _ => rfl)⟩
  have D_number_fits : Dcl P w K mg base 1 "number_fits" ["number", "used", "most"] sp_number_fits := ⟨f_number_fits, fd_number_fits, ok_number_fits d_number_fits.2.2 , PySem.W.mg_of X G d_number_fits.1, d_number_fits.2.1, Fun.binds (ps := ["number", "used", "most"]) d_number_fits.2.2 (fun _ _ _ _ _ _ us hl => match us, hl with | [_, _, _], _ => rfl)⟩
  have D_field_fits : Dcl P w K mg base 2 "field_fits" ["step", "used"] (sp_field_fits de) := ⟨f_field_fits, fd_field_fits, ok_field_fits d_field_fits.2.2 T D_is_field, PySem.W.mg_of X G d_field_fits.1, d_field_fits.2.1, Fun.binds (ps := ["step", "used"]) d_field_fits.2.2 (fun _ _ _ _ _ _ us hl => match us, hl with | [_, _], _ => rfl)⟩
  have D_x_fits : Dcl P w K mg base 1 "x_fits" ["step", "used"] (sp_x_fits de) := ⟨f_x_fits, fd_x_fits, ok_x_fits d_x_fits.2.2 T, PySem.W.mg_of X G d_x_fits.1, d_x_fits.2.1, Fun.binds (ps := ["step", "used"]) d_x_fits.2.2 (fun _ _ _ _ _ _ us hl => match us, hl with | [_, _], _ => rfl)⟩
  have D_is_as_it_should_be : Dcl P w K mg base 3 "is_as_it_should_be" ["step"] (sp_as_should de) := ⟨f_is_as_it_should_be, fd_is_as_it_should_be, ok_is_as_it_should_be d_is_as_it_should_be.2.2 T D_number_fits D_asks_panel D_asks_counter D_field_fits D_x_fits, PySem.W.mg_of X G d_is_as_it_should_be.1, d_is_as_it_should_be.2.1, Fun.binds (ps := ["step"]) d_is_as_it_should_be.2.2 (fun _ _ _ _ _ _ us hl => match us, hl with | [_], _ => rfl)⟩
  have D_read_step : Dcl P w K mg base 4 "read_step" ["numbers"] (sp_read_step K de) := ⟨f_read_step, fd_read_step, ok_read_step d_read_step.2.2 T D_Step D_is_as_it_should_be, PySem.W.mg_of X G d_read_step.1, d_read_step.2.1, Fun.binds (ps := ["numbers"]) d_read_step.2.2 (fun _ _ _ _ _ _ us hl => match us, hl with | [_], _ => rfl)⟩
  have D_read_program : Dcl P w K mg base 5 "read_program" ["numbers"] (sp_read_program K de) := ⟨f_read_program, fd_read_program, ok_read_program d_read_program.2.2 T D_read_step, PySem.W.mg_of X G d_read_program.1, d_read_program.2.1, Fun.binds (ps := ["numbers"]) d_read_program.2.2 (fun _ _ _ _ _ _ us hl => match us, hl with | [_], _ => rfl)⟩
  have D_CardRun : CDcl P w K mg base 1 cCR "CardRun" ["self", "card", "counters", "goes"] (sp_run_init de) := ⟨f_CardRun___init__, fd_CardRun___init__, ok_run_init d_CardRun___init__.2.2.2 T, ⟨c_CardRun.2.2.1, d_CardRun___init__.1, d_CardRun___init__.2.1, c_CardRun.2.2.2⟩, PySem.W.mg_of X G c_CardRun.1, Fun.binds (ps := ["self", "card", "counters", "goes"]) d_CardRun___init__.2.2.2 (fun _ _ _ _ _ _ us hl => match us, hl with | [_, _, _, _], _ => rfl)⟩
  have D_power_of_ten : Dcl P w K mg base 1 "power_of_ten" ["exponent"] sp_power_of_ten := ⟨f_power_of_ten, fd_power_of_ten, ok_power_of_ten d_power_of_ten.2.2 T, PySem.W.mg_of X G d_power_of_ten.1, d_power_of_ten.2.1, Fun.binds (ps := ["exponent"]) d_power_of_ten.2.2 (fun _ _ _ _ _ _ us hl => match us, hl with | [_], _ => rfl)⟩
  have D_quotient_of : Dcl P w K mg base 1 "quotient_of" ["number", "by"] sp_quotient_of := ⟨f_quotient_of, fd_quotient_of, ok_quotient_of d_quotient_of.2.2 T, PySem.W.mg_of X G d_quotient_of.1, d_quotient_of.2.1, Fun.binds (ps := ["number", "by"]) d_quotient_of.2.2 (fun _ _ _ _ _ _ us hl => match us, hl with | [_, _], _ => rfl)⟩
  have D_rounded_quotient : Dcl P w K mg base 1 "rounded_quotient" ["number", "by"] sp_rounded := ⟨f_rounded_quotient, fd_rounded_quotient, ok_rounded_quotient d_rounded_quotient.2.2 T, PySem.W.mg_of X G d_rounded_quotient.1, d_rounded_quotient.2.1, Fun.binds (ps := ["number", "by"]) d_rounded_quotient.2.2 (fun _ _ _ _ _ _ us hl => match us, hl with | [_, _], _ => rfl)⟩
  have D_put : Dcl P w K mg base 1 "put" ["run", "k", "number"] (sp_put de) := ⟨f_put, fd_put, ok_put d_put.2.2 T, PySem.W.mg_of X G d_put.1, d_put.2.1, Fun.binds (ps := ["run", "k", "number"]) d_put.2.2 (fun _ _ _ _ _ _ us hl => match us, hl with | [_, _, _], _ => rfl)⟩
  have D_read_field : Dcl P w K mg base 3 "read_field" ["step", "run"] (sp_do de fun t => t.op = 0) := ⟨f_read_field, fd_read_field, ok_read_field d_read_field.2.2 T D_read_amount D_put, PySem.W.mg_of X G d_read_field.1, d_read_field.2.1, Fun.binds (ps := ["step", "run"]) d_read_field.2.2 (fun _ _ _ _ _ _ us hl => match us, hl with | [_, _], _ => rfl)⟩
  have D_divide : Dcl P w K mg base 2 "divide" ["step", "run"] (sp_do de fun t => t.op = 4) := ⟨f_divide, fd_divide, ok_divide d_divide.2.2 T D_quotient_of, PySem.W.mg_of X G d_divide.1, d_divide.2.1, Fun.binds (ps := ["step", "run"]) d_divide.2.2 (fun _ _ _ _ _ _ us hl => match us, hl with | [_, _], _ => rfl)⟩
  have D_punch_field : Dcl P w K mg base 3 "punch_field" ["step", "run"] (sp_do de fun t => t.op = 9) := ⟨f_punch_field, fd_punch_field, ok_punch_field d_punch_field.2.2 T D_amount_fits D_write_amount, PySem.W.mg_of X G d_punch_field.1, d_punch_field.2.1, Fun.binds (ps := ["step", "run"]) d_punch_field.2.2 (fun _ _ _ _ _ _ us hl => match us, hl with | [_, _], _ => rfl)⟩
  have D_reckoned : Dcl P w K mg base 2 "reckoned" ["step", "counters"] (sp_reckoned de) := ⟨f_reckoned, fd_reckoned, ok_reckoned d_reckoned.2.2 T D_rounded_quotient D_power_of_ten, PySem.W.mg_of X G d_reckoned.1, d_reckoned.2.1, Fun.binds (ps := ["step", "counters"]) d_reckoned.2.2 (fun _ _ _ _ _ _ us hl => match us, hl with | [_, _], _ => rfl)⟩
  have D_do_step : Dcl P w K mg base 4 "do_step" ["step", "run"] (sp_do de fun t => t.op ≠ 10) := ⟨f_do_step, fd_do_step, ok_do_step d_do_step.2.2 T D_read_field D_divide D_punch_field D_put D_reckoned, PySem.W.mg_of X G d_do_step.1, d_do_step.2.1, Fun.binds (ps := ["step", "run"]) d_do_step.2.2 (fun _ _ _ _ _ _ us hl => match us, hl with | [_, _], _ => rfl)⟩
  have D_is_done : Dcl P w K mg base 2 "is_done" ["step", "run"] (sp_is_done de) := ⟨f_is_done, fd_is_done, ok_is_done d_is_done.2.2 T D_machine_gets, PySem.W.mg_of X G d_is_done.1, d_is_done.2.1, Fun.binds (ps := ["step", "run"]) d_is_done.2.2 (fun _ _ _ _ _ _ us hl => match us, hl with | [_, _], _ => rfl)⟩
  have D_CalculatingPunch : CDcl P w K mg base 1 cCP "CalculatingPunch" ["self", "steps", "panel"] (sp_cp_init de) := ⟨f_CalculatingPunch___init__, fd_CalculatingPunch___init__, ok_cp_init d_CalculatingPunch___init__.2.2.2 T, ⟨c_CalculatingPunch.2.2.1, d_CalculatingPunch___init__.1, d_CalculatingPunch___init__.2.1, c_CalculatingPunch.2.2.2⟩, PySem.W.mg_of X G c_CalculatingPunch.1, Fun.binds (ps := ["self", "steps", "panel"]) d_CalculatingPunch___init__.2.2.2 (fun _ _ _ _ _ _ us hl => match us, hl with | [_, _, _], _ => rfl)⟩
  have D_begin_card : Dcl P w K mg base 5 "begin_card" ["punch", "card"] (sp_begin_card de) := ⟨f_begin_card, fd_begin_card, ok_begin_card d_begin_card.2.2 T D_run_panel D_silent_machine D_CardRun, PySem.W.mg_of X G d_begin_card.1, d_begin_card.2.1, Fun.binds (ps := ["punch", "card"]) d_begin_card.2.2 (fun _ _ _ _ _ _ us hl => match us, hl with | [_, _], _ => rfl)⟩
  have D_keep_counters : Dcl P w K mg base 1 "keep_counters" ["punch", "run"] (sp_keep de) := ⟨f_keep_counters, fd_keep_counters, ok_keep_counters d_keep_counters.2.2 T, PySem.W.mg_of X G d_keep_counters.1, d_keep_counters.2.1, Fun.binds (ps := ["punch", "run"]) d_keep_counters.2.2 (fun _ _ _ _ _ _ us hl => match us, hl with | [_, _], _ => rfl)⟩
  have D_run_steps : Dcl P w K mg base 5 "run_steps" ["steps", "run"] (sp_run_steps de) := ⟨f_run_steps, fd_run_steps, ok_run_steps d_run_steps.2.2 T D_is_done D_do_step, PySem.W.mg_of X G d_run_steps.1, d_run_steps.2.1, Fun.binds (ps := ["steps", "run"]) d_run_steps.2.2 (fun _ _ _ _ _ _ us hl => match us, hl with | [_, _], _ => rfl)⟩
  have D_ReproducingPunch : CDcl P w K mg base 2 cRP "ReproducingPunch" ["self", "panel"] (sp_rp_init de) := ⟨f_ReproducingPunch___init__, fd_ReproducingPunch___init__, ok_rp_init d_ReproducingPunch___init__.2.2.2 T D_blank_card, ⟨c_ReproducingPunch.2.2.1, d_ReproducingPunch___init__.1, d_ReproducingPunch___init__.2.1, c_ReproducingPunch.2.2.2⟩, PySem.W.mg_of X G c_ReproducingPunch.1, Fun.binds (ps := ["self", "panel"]) d_ReproducingPunch___init__.2.2.2 (fun _ _ _ _ _ _ us hl => match us, hl with | [_, _], _ => rfl)⟩
  have D_run_pair : Dcl P w K mg base 5 "run_pair" ["punch", "source", "card"] (sp_run_pair de) := ⟨f_run_pair, fd_run_pair, ok_run_pair d_run_pair.2.2 T D_run_panel D_machine_sending, PySem.W.mg_of X G d_run_pair.1, d_run_pair.2.1, Fun.binds (ps := ["punch", "source", "card"]) d_run_pair.2.2 (fun _ _ _ _ _ _ us hl => match us, hl with | [_, _, _], _ => rfl)⟩
  have D_place_that_differs : Dcl P w K mg base 2 "place_that_differs" ["goes"] sp_differs := ⟨f_place_that_differs, fd_place_that_differs, ok_place_that_differs d_place_that_differs.2.2 T D_machine_gets, PySem.W.mg_of X G d_place_that_differs.1, d_place_that_differs.2.1, Fun.binds (ps := ["goes"]) d_place_that_differs.2.2 (fun _ _ _ _ _ _ us hl => match us, hl with | [_], _ => rfl)⟩
  have D_stops_behind : Dcl P w K mg base 2 "stops_behind" ["goes"] sp_stops := ⟨f_stops_behind, fd_stops_behind, ok_stops_behind d_stops_behind.2.2 T D_machine_gets, PySem.W.mg_of X G d_stops_behind.1, d_stops_behind.2.1, Fun.binds (ps := ["goes"]) d_stops_behind.2.2 (fun _ _ _ _ _ _ us hl => match us, hl with | [_], _ => rfl)⟩
  have D_punch_card : Dcl P w K mg base 2 "punch_card" ["punch", "card", "goes"] (sp_punch_card de) := ⟨f_punch_card, fd_punch_card, ok_punch_card d_punch_card.2.2 T D_machine_gets, PySem.W.mg_of X G d_punch_card.1, d_punch_card.2.1, Fun.binds (ps := ["punch", "card", "goes"]) d_punch_card.2.2 (fun _ _ _ _ _ _ us hl => match us, hl with | [_, _, _], _ => rfl)⟩
  have D_Desk : CDcl P w K mg base 1 cDk "Desk" ["self"] (sp_desk_init de) := ⟨f_Desk___init__, fd_Desk___init__, ok_desk_init d_Desk___init__.2.2.2 T, ⟨c_Desk.2.2.1, d_Desk___init__.1, d_Desk___init__.2.1, c_Desk.2.2.2⟩, PySem.W.mg_of X G c_Desk.1, Fun.binds (ps := ["self"]) d_Desk___init__.2.2.2 (fun _ _ _ _ _ _ us hl => match us, hl with | [_], _ => rfl)⟩
  have D_answer_setcopy : Dcl P w K mg base 8 "answer_setcopy" ["reader", "desk"] (sp_setcopy K dd de) := ⟨f_answer_setcopy, fd_answer_setcopy, ok_answer_setcopy d_answer_setcopy.2.2 T D_CallReader_next_row D_panel_refusal D_read_panel D_ReproducingPunch, PySem.W.mg_of X G d_answer_setcopy.1, d_answer_setcopy.2.1, Fun.binds (ps := ["reader", "desk"]) d_answer_setcopy.2.2 (fun _ _ _ _ _ _ us hl => match us, hl with | [_, _], _ => rfl)⟩
  have D_answer_counters : Dcl P w K mg base 1 "answer_counters" ["desk"] (sp_counters K dd de) := ⟨f_answer_counters, fd_answer_counters, ok_answer_counters d_answer_counters.2.2 T, PySem.W.mg_of X G d_answer_counters.1, d_answer_counters.2.1, Fun.binds (ps := ["desk"]) d_answer_counters.2.2 (fun _ _ _ _ _ _ us hl => match us, hl with | [_], _ => rfl)⟩
  have D_answer_copy : Dcl P w K mg base 6 "answer_copy" ["reader", "desk"] (sp_copy K dd de) := ⟨f_answer_copy, fd_answer_copy, ok_answer_copy d_answer_copy.2.2 T D_CallReader_next_row D_read_card D_run_pair D_place_that_differs D_punch_card D_stops_behind D_tell_card, PySem.W.mg_of X G d_answer_copy.1, d_answer_copy.2.1, Fun.binds (ps := ["reader", "desk"]) d_answer_copy.2.2 (fun _ _ _ _ _ _ us hl => match us, hl with | [_, _], _ => rfl)⟩
  have D_answer_setwork : Dcl P w K mg base 8 "answer_setwork" ["reader", "desk"] (sp_setwork K dd de) := ⟨f_answer_setwork, fd_answer_setwork, ok_answer_setwork d_answer_setwork.2.2 T D_CallReader_next_row D_read_program D_panel_refusal D_read_panel D_CalculatingPunch, PySem.W.mg_of X G d_answer_setwork.1, d_answer_setwork.2.1, Fun.binds (ps := ["reader", "desk"]) d_answer_setwork.2.2 (fun _ _ _ _ _ _ us hl => match us, hl with | [_, _], _ => rfl)⟩
  have D_answer_work : Dcl P w K mg base 6 "answer_work" ["reader", "desk"] (sp_work K dd de) := ⟨f_answer_work, fd_answer_work, ok_answer_work d_answer_work.2.2 T D_CallReader_next_row D_read_card D_begin_card D_run_steps D_keep_counters D_tell_card, PySem.W.mg_of X G d_answer_work.1, d_answer_work.2.1, Fun.binds (ps := ["reader", "desk"]) d_answer_work.2.2 (fun _ _ _ _ _ _ us hl => match us, hl with | [_, _], _ => rfl)⟩
  have D_answer_punch_call : Dcl P w K mg base 9 "answer_punch_call" ["number", "reader", "desk"] (sp_punch_call K dd de) := ⟨f_answer_punch_call, fd_answer_punch_call, ok_answer_punch_call d_answer_punch_call.2.2 T D_answer_setcopy D_answer_copy D_answer_setwork D_answer_work D_answer_counters, PySem.W.mg_of X G d_answer_punch_call.1, d_answer_punch_call.2.1, Fun.binds (ps := ["number", "reader", "desk"]) d_answer_punch_call.2.2 (fun _ _ _ _ _ _ us hl => match us, hl with | [_, _, _], _ => rfl)⟩
  have D_answer_call : Dcl P w K mg base 10 "answer_call" ["reader", "desk"] (sp_answer_call K dd de) := ⟨f_answer_call, fd_answer_call, ok_answer_call d_answer_call.2.2 T D_CallReader_next_number D_answer_the_pass D_answer_follow D_answer_collate D_answer_select D_answer_punch_call, PySem.W.mg_of X G d_answer_call.1, d_answer_call.2.1, Fun.binds (ps := ["reader", "desk"]) d_answer_call.2.2 (fun _ _ _ _ _ _ us hl => match us, hl with | [_, _], _ => rfl)⟩
  exact ok_answers d_answers.2.2 T D_CallReader D_Desk D_CallReader_at_end D_answer_call
end CP
/-! HFacts -/
namespace CP
open PySem PySem.Spec PyProof.Rows L2
theorem facts {P : Program} {w : World} {K : PySem.W.Frag} {h : Heap} {mg : Str → Option Value} {fa : Addr} (X : K.In h) (G : h.Ns mainGlobals mg) (hfa : mg "answers" = some (.ref fa)) (c : look.says w K) :
    ∃ fd : FuncData, (∀ (s : Shared) (us : List Value), us.length = (["calls"] : List Str).length → BindsTo s fd ⟨us, []⟩ ((["calls"] : List Str).zip us)) ∧ ∀ base : Heap, K.In base → base.Ns mainGlobals mg → FnOk P w K mg base CX0 11 fa fd ["calls"] (sp_answers K) := by
  have T1 : Txt P w K mg ⟨(He.ga K "Z_OF_ROWS"), (He.ga K "V_OF_ROWS"), (He.ga K "SENDERS"), (He.ga K "TAKERS"), (He.ga K "BOX_THAT_SENDS"), (He.ga K "BOX_THAT_TAKES"), (He.ga K "LineScan"), (He.ga K "LineScan"), (He.ga K "LineScan"), (He.ga K "LineScan")⟩ := ⟨fx_free X G (c.fx 0 0),
    fx_free X G (c.fx 0 1),
    fx_free X G (c.fx 0 2),
    fx_free X G (c.fx 0 3),
    fx_free X G (c.fx 0 4),
    fx_free X G (c.fx 0 5),
    fx_free X G (c.fx 0 6),
    fx_free X G (c.fx 0 7),
    fx_free X G (c.fx 0 8),
    fx_int X G (c.fx 0 9),
    fx_int X G (c.fx 0 10),
    fx_int X G (c.fx 0 11),
    fx_int X G (c.fx 1 0),
    fx_int X G (c.fx 1 1),
    fx_int X G (c.fx 1 2),
    fx_int X G (c.fx 1 3),
    fx_int X G (c.fx 1 4),
    fx_glo X G (c.fx 1 5),
    fx_kd (c.dc 0) (by decide +kernel) (by decide +kernel) (by decide +kernel),
    fx_glo X G (c.fx 1 6),
    fx_kd (c.dc 1) (by decide +kernel) (by decide +kernel) (by decide +kernel),
    fx_glo X G (c.fx 1 7),
    fx_hub (c.hb 0) rfl (by decide +kernel) (by decide +kernel) (by decide +kernel),
    fx_glo X G (c.fx 1 8),
    fx_hub (c.hb 1) rfl (by decide +kernel) (by decide +kernel) (by decide +kernel),
    fx_glo X G (c.fx 1 9),
    fx_kd (c.dc 2) (by decide +kernel) (by decide +kernel) (by decide +kernel),
    fx_glo X G (c.fx 1 10),
    fx_kd (c.dc 3) (by decide +kernel) (by decide +kernel) (by decide +kernel),
    fx_int X G (c.fx 1 11),
    fx_int X G (c.fx 2 0),
    fx_int X G (c.fx 2 1),
    fx_int X G (c.fx 2 2),
    fx_int X G (c.fx 2 3),
    fx_int X G (c.fx 2 4),
    fx_int X G (c.fx 2 5),
    fx_int X G (c.fx 2 6),
    fx_cls (c.fx 2 7),
    fx_noat (c.fx 2 8),
    fx_noat (c.fx 2 9),
    fx_noat (c.fx 2 10)⟩
  have T2 : TxtD P w K mg ⟨(He.ga K "Z_OF_ROWS"), (He.ga K "V_OF_ROWS"), (He.ga K "SENDERS"), (He.ga K "TAKERS"), (He.ga K "BOX_THAT_SENDS"), (He.ga K "BOX_THAT_TAKES"), (He.ga K "LineScan"), (He.ga K "LineScan"), (He.ga K "LineScan"), (He.ga K "LineScan")⟩ ⟨(He.ga K "CallReader")⟩ := ⟨T1, fx_cls (c.fx 2 11),
    fx_noat (c.fx 3 0),
    fx_noat (c.fx 3 1),
    fx_int X G (c.fx 3 2),
    fx_int X G (c.fx 3 3),
    fx_int X G (c.fx 3 4),
    fx_int X G (c.fx 3 5),
    fx_int X G (c.fx 3 6),
    fx_int X G (c.fx 3 7),
    fx_int X G (c.fx 3 8),
    fx_int X G (c.fx 3 9),
    fx_int X G (c.fx 3 10)⟩
  have T3 : TxtE P w K mg ⟨(He.ga K "Z_OF_ROWS"), (He.ga K "V_OF_ROWS"), (He.ga K "SENDERS"), (He.ga K "TAKERS"), (He.ga K "BOX_THAT_SENDS"), (He.ga K "BOX_THAT_TAKES"), (He.ga K "LineScan"), (He.ga K "LineScan"), (He.ga K "LineScan"), (He.ga K "LineScan")⟩ ⟨(He.ga K "CallReader")⟩ ⟨(He.ga K "FIGURE_OF_HOLES"), (He.ga K "MOST_S"), (He.ga K "USES"), (He.ga K "ReproducingPunch"), (He.ga K "CalculatingPunch"), (He.ga K "Step"), (He.ga K "CardRun"), (He.ga K "Desk")⟩ := ⟨T2, fx_free X G (c.fx 3 11),
    fx_free X G (c.fx 4 0),
    fx_free X G (c.fx 4 1),
    fx_free X G (c.fx 4 2),
    fx_free X G (c.fx 4 3),
    fx_int X G (c.fx 4 4),
    fx_glo X G (c.fx 4 5),
    fx_kd (c.dc 4) (by decide +kernel) (by decide +kernel) (by decide +kernel),
    fx_glo X G (c.fx 4 6),
    fx_kd (c.dc 5) (by decide +kernel) (by decide +kernel) (by decide +kernel),
    fx_glo X G (c.fx 4 7),
    fx_tup (c.fx 4 8),
    fx_int X G (c.fx 4 9),
    fx_int X G (c.fx 4 10),
    fx_int X G (c.fx 4 11),
    fx_int X G (c.fx 5 0),
    fx_int X G (c.fx 5 1),
    fx_int X G (c.fx 5 2),
    fx_int X G (c.fx 5 3),
    fx_int X G (c.fx 5 4),
    fx_int X G (c.fx 5 5),
    fx_int X G (c.fx 5 6),
    fx_int X G (c.fx 5 7),
    fx_int X G (c.fx 5 8),
    fx_int X G (c.fx 5 9),
    fx_int X G (c.fx 5 10),
    fx_int X G (c.fx 5 11),
    fx_int X G (c.fx 6 0),
    fx_int X G (c.fx 6 1),
    fx_int X G (c.fx 6 2),
    fx_int X G (c.fx 6 3),
    fx_int X G (c.fx 6 4),
    fx_int X G (c.fx 6 5),
    fx_int X G (c.fx 6 6),
    fx_int X G (c.fx 6 7),
    fx_int X G (c.fx 6 8),
    fx_int X G (c.fx 6 9),
    fx_int X G (c.fx 6 10),
    fx_int X G (c.fx 6 11),
    fx_int X G (c.fx 7 0),
    fx_int X G (c.fx 7 1),
    fx_int X G (c.fx 7 2),
    fx_int X G (c.fx 7 3),
    fx_int X G (c.fx 7 4),
    fx_int X G (c.fx 7 5),
    fx_int X G (c.fx 7 6),
    fx_int X G (c.fx 7 7),
    fx_int X G (c.fx 7 8),
    fx_int X G (c.fx 7 9),
    fx_int X G (c.fx 7 10),
    fx_int X G (c.fx 7 11),
    fx_int X G (c.fx 8 0),
    fx_int X G (c.fx 8 1),
    fx_int X G (c.fx 8 2),
    fx_int X G (c.fx 8 3),
    fx_glo X G (c.fx 8 4),
    fx_glo X G (c.fx 8 5),
    fx_cls (c.fx 8 6),
    fx_noat (c.fx 8 7),
    fx_noat (c.fx 8 8),
    fx_noat (c.fx 8 9),
    fx_noat (c.fx 8 10),
    fx_noat (c.fx 8 11),
    fx_noat (c.fx 9 0),
    fx_noat (c.fx 9 1),
    fx_noat (c.fx 9 2),
    fx_noat (c.fx 9 3),
    fx_cls (c.fx 9 4),
    fx_noat (c.fx 9 5),
    fx_noat (c.fx 9 6),
    fx_noat (c.fx 9 7),
    fx_isi (c.fx 9 8),
    fx_noat (c.fx 9 9),
    fx_noat (c.fx 9 10),
    fx_isi (c.fx 9 11),
    fx_noat (c.fx 10 0),
    fx_noat (c.fx 10 1),
    fx_noat (c.fx 10 2),
    fx_cls (c.fx 10 3),
    fx_noat (c.fx 10 4),
    fx_kitN (c.fx 10 5),
    fx_kitN (c.fx 10 6),
    fx_kit (c.fx 10 7),
    fx_kit (c.fx 10 8),
    fx_kit (c.fx 10 9),
    fx_kit (c.fx 10 10)⟩
  exact all_mk X G hfa T3
    (fx_hasc (c.fx 10 11))
    (fx_hasc (c.fx 11 0))
    (fx_hasc (c.fx 11 1))
    (fx_hasc (c.fx 11 2))
    (fx_hasc (c.fx 11 3))
    (fx_hasc (c.fx 11 4))
    (fx_hasc (c.fx 11 5))
    (fx_def (c.fx 11 6) (c.fn 0 0))
    (fx_def (c.fx 11 7) (c.fn 0 1))
    (fx_def (c.fx 11 8) (c.fn 0 2))
    (fx_def (c.fx 11 9) (c.fn 0 3))
    (fx_def (c.fx 11 10) (c.fn 0 4))
    (fx_def (c.fx 11 11) (c.fn 0 5))
    (fx_def (c.fx 12 0) (c.fn 0 6))
    (fx_def (c.fx 12 1) (c.fn 0 7))
    (fx_def (c.fx 12 2) (c.fn 0 8))
    (fx_def (c.fx 12 3) (c.fn 0 9))
    (fx_def (c.fx 12 4) (c.fn 0 10))
    (fx_def (c.fx 12 5) (c.fn 0 11))
    (fx_def (c.fx 12 6) (c.fn 1 0))
    (fx_def (c.fx 12 7) (c.fn 1 1))
    (fx_def (c.fx 12 8) (c.fn 1 2))
    (fx_def (c.fx 12 9) (c.fn 1 3))
    (fx_def (c.fx 12 10) (c.fn 1 4))
    (fx_def (c.fx 12 11) (c.fn 1 5))
    (fx_def (c.fx 13 0) (c.fn 1 6))
    (fx_def (c.fx 13 1) (c.fn 1 7))
    (fx_def (c.fx 13 2) (c.fn 1 8))
    (fx_def (c.fx 13 3) (c.fn 1 9))
    (fx_def (c.fx 13 4) (c.fn 1 10))
    (fx_def (c.fx 13 5) (c.fn 1 11))
    (fx_def (c.fx 13 6) (c.fn 2 0))
    (fx_def (c.fx 13 7) (c.fn 2 1))
    (fx_mth (c.fx 13 8) (c.fn 2 2))
    (fx_mth (c.fx 13 9) (c.fn 2 3))
    (fx_mth (c.fx 13 10) (c.fn 2 4))
    (fx_mth (c.fx 13 11) (c.fn 2 5))
    (fx_def (c.fx 14 0) (c.fn 2 6))
    (fx_def (c.fx 14 1) (c.fn 2 7))
    (fx_def (c.fx 14 2) (c.fn 2 8))
    (fx_def (c.fx 14 3) (c.fn 2 9))
    (fx_def (c.fx 14 4) (c.fn 2 10))
    (fx_def (c.fx 14 5) (c.fn 2 11))
    (fx_def (c.fx 14 6) (c.fn 3 0))
    (fx_def (c.fx 14 7) (c.fn 3 1))
    (fx_def (c.fx 14 8) (c.fn 3 2))
    (fx_def (c.fx 14 9) (c.fn 3 3))
    (fx_def (c.fx 14 10) (c.fn 3 4))
    (fx_def (c.fx 14 11) (c.fn 3 5))
    (fx_def (c.fy 0 0) (c.fn 3 6))
    (fx_def (c.fy 0 1) (c.fn 3 7))
    (fx_def (c.fy 0 2) (c.fn 3 8))
    (fx_def (c.fy 0 3) (c.fn 3 9))
    (fx_def (c.fy 0 4) (c.fn 3 10))
    (fx_def (c.fy 0 5) (c.fn 3 11))
    (fx_def (c.fy 0 6) (c.fn 4 0))
    (fx_def (c.fy 0 7) (c.fn 4 1))
    (fx_def (c.fy 0 8) (c.fn 4 2))
    (fx_mth (c.fy 0 9) (c.fn 4 3))
    (fx_mth (c.fy 0 10) (c.fn 4 4))
    (fx_mth (c.fy 0 11) (c.fn 4 5))
    (fx_mth (c.fy 1 0) (c.fn 4 6))
    (fx_def (c.fy 1 1) (c.fn 4 7))
    (fx_def (c.fy 1 2) (c.fn 4 8))
    (fx_def (c.fy 1 3) (c.fn 4 9))
    (fx_def (c.fy 1 4) (c.fn 4 10))
    (fx_def (c.fy 1 5) (c.fn 4 11))
    (fx_def (c.fy 1 6) (c.fn 5 0))
    (fx_def (c.fy 1 7) (c.fn 5 1))
    (fx_def (c.fy 1 8) (c.fn 5 2))
    (fx_def (c.fy 1 9) (c.fn 5 3))
    (fx_def (c.fy 1 10) (c.fn 5 4))
    (fx_mth (c.fy 1 11) (c.fn 5 5))
    (fx_def (c.fy 2 0) (c.fn 5 6))
    (fx_def (c.fy 2 1) (c.fn 5 7))
    (fx_def (c.fy 2 2) (c.fn 5 8))
    (fx_def (c.fy 2 3) (c.fn 5 9))
    (fx_def (c.fy 2 4) (c.fn 5 10))
    (fx_def (c.fy 2 5) (c.fn 5 11))
    (fx_def (c.fy 2 6) (c.fn 6 0))
    (fx_def (c.fy 2 7) (c.fn 6 1))
    (fx_mth (c.fy 2 8) (c.fn 6 2))
    (fx_def (c.fy 2 9) (c.fn 6 3))
    (fx_def (c.fy 2 10) (c.fn 6 4))
    (fx_def (c.fy 2 11) (c.fn 6 5))
    (fx_def (c.fy 3 0) (c.fn 6 6))
    (fx_def (c.fy 3 1) (c.fn 6 7))
    (fx_def (c.fy 3 2) (c.fn 6 8))
    (fx_def (c.fy 3 3) (c.fn 6 9))
    (fx_def (c.fy 3 4) (c.fn 6 10))
    (fx_def (c.fy 3 5) (c.fn 6 11))
    (fx_def (c.fy 3 6) (c.fn 7 0))
    (fx_mth (c.fy 3 7) (c.fn 7 1))
    (fx_def (c.fy 3 8) (c.fn 7 2))
    (fx_def (c.fy 3 9) (c.fn 7 3))
    (fx_def (c.fy 3 10) (c.fn 7 4))
    (fx_mth (c.fy 3 11) (c.fn 7 5))
    (fx_def (c.fy 4 0) (c.fn 7 6))
    (fx_def (c.fy 4 1) (c.fn 7 7))
    (fx_def (c.fy 4 2) (c.fn 7 8))
    (fx_def (c.fy 4 3) (c.fn 7 9))
    (fx_mth (c.fy 4 4) (c.fn 7 10))
    (fx_def (c.fy 4 5) (c.fn 7 11))
    (fx_def (c.fy 4 6) (c.fn 8 0))
    (fx_def (c.fy 4 7) (c.fn 8 1))
    (fx_def (c.fy 4 8) (c.fn 8 2))
    (fx_def (c.fy 4 9) (c.fn 8 3))
    (fx_def (c.fy 4 10) (c.fn 8 4))
    (fx_def (c.fy 4 11) (c.fn 8 5))
    (fx_def (c.fy 5 0) (c.fn 8 6))
end CP
/-! HEnd3 -/
namespace CP
open PySem PySem.Spec PyProof.Rows L2
/-- the row's goal behind a head that tells of some written part -/
theorem walk_some {r : PySem.W.OpenSpec} {m : Nat} {q : Program} {names : List Str} {XX : (Str → Option Value) → Heap → Prop} {YY : World → Heap → Prop} {D : DefRec} {ps : List Str} {sp : PySem.W.Frag → Sp}
    (ws : r.wellSaid = true) (nd : D.params.defaults = []) (la : r.args.length = ps.length) (ro : Room m callerA)
    (W : ∀ (w : World) (mg : Str → Option Value) (fa : Addr) (h : Heap), YY w h → h.Ns mainGlobals mg → mg D.name = some (.ref fa) → ∃ K : PySem.W.Frag, K.In h ∧
      ∃ fd : FuncData, (∀ (s : Shared) (us : List Value), us.length = ps.length → BindsTo s fd ⟨us, []⟩ (ps.zip us)) ∧ ∀ base : Heap, K.In base → base.Ns mainGlobals mg → FnOk r.prog w K mg base CX0 m fa fd ps (sp K))
    (Z : ∀ (K : PySem.W.Frag) (H : Hp) (xs : List V) (a : PySem.W.Codec.denoteAll r.args), OnlyF H → PySem.W.Codec.withinAll r.args a = true → PySem.W.Codec.app r.args r.asked a = true → DwAll K H xs (PySem.W.Codec.encAll r.args a) → sp K xs H (fun v H' => Dw K H' v (r.ret.enc (PySem.W.Codec.app r.args r.f a))) fun _ _ _ => False) :
    PySem.W.WalkOS q names XX YY r D [] (fun f vs => PySem.call f vs) := by
  intro w sA sB mg mb g y fa ob pm cd doc dV kV hob hdf hcod hD hname hgood args vals as pre lay red wel low
  obtain ⟨a, ea, asked⟩ := PySem.W.os_pre_some pre
  obtain ⟨ee, within⟩ := PySem.W.Codec.encAll_of_decAll r.args args a ea
  subst ee
  obtain ⟨K, inK, fd, bind, body⟩ := W w mg fa _ y g.T.g hname
  have ans := spec_call (R := []) (cl := classAt sA.heap) (d0 := r.ret.enc (PySem.W.Codec.app r.args r.f a)) inK g.T.g g.T.b g.T.builtins g.T.nolimit hgood wel (pl_encAll _ _) (layable_weight lay) ro body bind (by rw [encAll_len]; exact la)
    (fun H xs only dw => Z K H xs a only within asked dw) (fun H e s' z => z)
  refine PySem.W.enter_call (codeAny_mono ans ?_)
  rintro r1 s1 ⟨u, as1, rfl, k1, k2, k3, k4⟩
  refine ⟨.inl ⟨u, _, as1, rfl, fun _ => rfl, k1, ?_, fun z => ?_⟩, k2, k3, k4⟩
  · exact (PySem.W.OpenSpec.post_iff ws within _ _).mpr rfl
  · cases z
end CP
/-! HLast -/
open PySem PySem.W PySem.Calls PyProof.Rows
theorem PySem.Challenge.cw_cardpunches_s01_answers_holds : PySem.Challenge.rw_cardpunches_s01_answers.Holds := by
  w_on
  refine HandSHeadRun.head_spec (r := CPR.R) (q := CPR.qv) (H := CPR.hk) (ob := CPR.ob) (M := 20000) (loose := CPR.names) (d := CPR.dA) (kwd := []) CPR.ob_eq CPR.side_e CPR.side_f CPR.run CPR.side_def CPR.side_p CPR.side_k os_shapes CPR.side_well CPR.side_ok CPR.side_bare CPR.side_w ?hc
  case hc =>
    refine CP.walk_some (m := 11) (ps := ["calls"]) (sp := CP.sp_answers) CPR.side_well CPR.side_dfl rfl ⟨rfl, by decide, by decide⟩ ?W ?Z
    case W =>
      rintro w mg fa h ⟨K, inK, c⟩ G hm
      rw [CPR.side_name] at hm
      exact ⟨K, inK, CP.facts inK G hm c⟩
    case Z =>
      intro K H xs a only within asked dw
      cases dw with
      | cons h1 h2 =>
        cases h2
        cases h1 with
        | lst hs ha =>
          have e := L2.ints_dw a.1 _ ha
          subst e
          exact ⟨_, a.1, rfl, hs, asked, fun H' p hp => .lst (L2.SqL.of hp) (L2.dw_ints _)⟩
