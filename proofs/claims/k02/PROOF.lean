import PyProof.Rows.All
import Wide.All
import OpenK.AllK
import Wide.FinOn
import HandS.ForMost
import HandS.ForExc
import HandS.Wide
import HandS.Property
import HandS.IsInst
import HandS.TupAny
import HandS.TupLe
import HandS.Style
import HandS.Flow
import HandS.ExcInit
import HandS.ExcField
import HandS.FStr
import HandS.OwnEq
import KE.GoesMore
import HandS.Codes
import HandS.DictComp
import HandS.Walk
import HandS.SortInts
import HandS.TupMul
import HandS.Gcd
import HandS.Head3
import HandS.HeadHook2
import PySem.Challenge.RW_staytallies_k02_no_machines
set_option Elab.async false
set_option linter.all false
set_option maxRecDepth 100000
set_option maxHeartbeats 4000000
namespace Sv
open PySem L2
def top (i : Nat) : Stmt := PySem.Challenge.pw_staytallies_k02_no_machines.main.body.getD i (.Pass ⟨0, 0, 0, 0⟩)
abbrev s_Machine_init : Stmt := (inClass (top 33) 0)
abbrev s_is_whole_number : Stmt := (top 34)
abbrev s_is_integer_between : Stmt := (top 35)
abbrev s_is_stand : Stmt := (top 36)
abbrev s_check_stands : Stmt := (top 37)
abbrev s_is_step : Stmt := (top 38)
abbrev s_check_steps : Stmt := (top 39)
abbrev s_is_ascending : Stmt := (top 41)
abbrev s_check_ends : Stmt := (top 42)
abbrev s_check_machine : Stmt := (top 43)
abbrev s_is_row : Stmt := (top 49)
abbrev s_behind : Stmt := (top 50)
abbrev s_ends_well : Stmt := (top 51)
abbrev s_reached : Stmt := (top 52)
abbrev s_tally_at : Stmt := (top 54)
abbrev s_row_at : Stmt := (top 55)
abbrev s_greatest_at : Stmt := (top 56)
abbrev s_least_at : Stmt := (top 57)
abbrev s_greatest_row : Stmt := (top 58)
abbrev s_least_row : Stmt := (top 59)
abbrev s_bounds : Stmt := (top 60)
abbrev s_end_bounds : Stmt := (top 61)
abbrev s_stays : Stmt := (top 65)
abbrev s_bar : Stmt := (top 68)
abbrev s_right_bar : Stmt := (top 71)
abbrev s_paper : Stmt := (top 73)
abbrev s_right_paper : Stmt := (top 77)
abbrev s_first_leaving : Stmt := (top 80)
abbrev s_tallies : Stmt := (top 86)
abbrev s_count : Stmt := (top 87)
abbrev s_count_staying : Stmt := (top 88)
abbrev s_needed : Stmt := (top 90)
abbrev s_lasting : Stmt := (top 94)
abbrev s_credit : Stmt := (top 95)
abbrev s_right_lasting : Stmt := (top 96)
abbrev s_greatest_mean : Stmt := (top 101)
abbrev s_least_mean : Stmt := (top 102)
abbrev s_mean_paper : Stmt := (top 106)
abbrev s_right_mean : Stmt := (top 110)
abbrev s_mends : Stmt := (top 121)
abbrev s_mended : Stmt := (top 122)
abbrev s_Meter_init : Stmt := (inClass (top 124) 0)
abbrev s_difference : Stmt := (top 127)
abbrev s_in_step : Stmt := (top 128)
abbrev s_first_apart : Stmt := (top 131)
abbrev s_write : Stmt := (top 133)
abbrev s_law_taken : Stmt := (top 135)
abbrev s_law_odd : Stmt := (top 136)
abbrev s_law_call : Stmt := (top 137)
abbrev s_law : Stmt := (top 138)
theorem sc_Machine_init : FnScope ["self", "stands", "steps", "ends"] ["self", "stands", "steps", "ends"] (defScope s_Machine_init) := ⟨rfl, rfl, rfl, by decide +kernel, rfl, by decide +kernel, by decide +kernel⟩
theorem sc_is_whole_number : FnScope ["value"] ["value"] (defScope s_is_whole_number) := ⟨rfl, rfl, rfl, by decide +kernel, rfl, by decide +kernel, by decide +kernel⟩
theorem sc_is_integer_between : FnScope ["value", "least", "most"] ["value", "least", "most"] (defScope s_is_integer_between) := ⟨rfl, rfl, rfl, by decide +kernel, rfl, by decide +kernel, by decide +kernel⟩
theorem sc_is_stand : FnScope ["stands", "value"] ["stands", "value"] (defScope s_is_stand) := ⟨rfl, rfl, rfl, by decide +kernel, rfl, by decide +kernel, by decide +kernel⟩
theorem sc_check_stands : FnScope ["stands"] ["stands"] (defScope s_check_stands) := ⟨rfl, rfl, rfl, by decide +kernel, rfl, by decide +kernel, by decide +kernel⟩
theorem sc_is_step : FnScope ["stands", "value", "begun", "letter", "end", "gain"] ["stands", "value"] (defScope s_is_step) := ⟨rfl, rfl, rfl, by decide +kernel, rfl, by decide +kernel, by decide +kernel⟩
theorem sc_check_steps : FnScope ["stands", "steps", "index", "step"] ["stands", "steps"] (defScope s_check_steps) := ⟨rfl, rfl, rfl, by decide +kernel, rfl, by decide +kernel, by decide +kernel⟩
theorem sc_is_ascending : FnScope ["value", "many", "least", "number"] ["value", "many"] (defScope s_is_ascending) := ⟨rfl, rfl, rfl, by decide +kernel, rfl, by decide +kernel, by decide +kernel⟩
theorem sc_check_ends : FnScope ["stands", "ends"] ["stands", "ends"] (defScope s_check_ends) := ⟨rfl, rfl, rfl, by decide +kernel, rfl, by decide +kernel, by decide +kernel⟩
theorem sc_check_machine : FnScope ["value"] ["value"] (defScope s_check_machine) := ⟨rfl, rfl, rfl, by decide +kernel, rfl, by decide +kernel, by decide +kernel⟩
theorem sc_is_row : FnScope ["machine", "value"] ["machine", "value"] (defScope s_is_row) := ⟨rfl, rfl, rfl, by decide +kernel, rfl, by decide +kernel, by decide +kernel⟩
theorem sc_behind : FnScope ["machine", "row", "place", "stand", "sums"] ["machine", "row"] (defScope s_behind) := ⟨rfl, rfl, rfl, by decide +kernel, rfl, by decide +kernel, by decide +kernel⟩
theorem sc_ends_well : FnScope ["machine", "row", "stand", "_"] ["machine", "row"] (defScope s_ends_well) := ⟨rfl, rfl, rfl, by decide +kernel, rfl, by decide +kernel, by decide +kernel⟩
theorem sc_reached : FnScope ["machine"] ["machine"] (defScope s_reached) := ⟨rfl, rfl, rfl, by decide +kernel, rfl, by decide +kernel, by decide +kernel⟩
theorem sc_tally_at : FnScope ["machine", "stand", "sign", "best", "tally"] ["machine", "stand", "sign"] (defScope s_tally_at) := ⟨rfl, rfl, rfl, by decide +kernel, rfl, by decide +kernel, by decide +kernel⟩
theorem sc_row_at : FnScope ["machine", "stand", "sign", "best"] ["machine", "stand", "sign"] (defScope s_row_at) := ⟨rfl, rfl, rfl, by decide +kernel, rfl, by decide +kernel, by decide +kernel⟩
theorem sc_greatest_at : FnScope ["machine", "stand"] ["machine", "stand"] (defScope s_greatest_at) := ⟨rfl, rfl, rfl, by decide +kernel, rfl, by decide +kernel, by decide +kernel⟩
theorem sc_least_at : FnScope ["machine", "stand"] ["machine", "stand"] (defScope s_least_at) := ⟨rfl, rfl, rfl, by decide +kernel, rfl, by decide +kernel, by decide +kernel⟩
theorem sc_greatest_row : FnScope ["machine", "stand"] ["machine", "stand"] (defScope s_greatest_row) := ⟨rfl, rfl, rfl, by decide +kernel, rfl, by decide +kernel, by decide +kernel⟩
theorem sc_least_row : FnScope ["machine", "stand"] ["machine", "stand"] (defScope s_least_row) := ⟨rfl, rfl, rfl, by decide +kernel, rfl, by decide +kernel, by decide +kernel⟩
theorem sc_bounds : FnScope ["machine"] ["machine"] (defScope s_bounds) := ⟨rfl, rfl, rfl, by decide +kernel, rfl, by decide +kernel, by decide +kernel⟩
theorem sc_end_bounds : FnScope ["machine", "stands", "stand"] ["machine"] (defScope s_end_bounds) := ⟨rfl, rfl, rfl, by decide +kernel, rfl, by decide +kernel, by decide +kernel⟩
theorem sc_stays : FnScope ["machine", "low", "high"] ["machine", "low", "high"] (defScope s_stays) := ⟨rfl, rfl, rfl, by decide +kernel, rfl, by decide +kernel, by decide +kernel⟩
theorem sc_bar : FnScope ["machine", "low", "high", "ring"] ["machine", "low", "high"] (defScope s_bar) := ⟨rfl, rfl, rfl, by decide +kernel, rfl, by decide +kernel, by decide +kernel⟩
theorem sc_right_bar : FnScope ["machine", "low", "high", "value"] ["machine", "low", "high", "value"] (defScope s_right_bar) := ⟨rfl, rfl, rfl, by decide +kernel, rfl, by decide +kernel, by decide +kernel⟩
theorem sc_paper : FnScope ["machine", "low", "high", "stand"] ["machine", "low", "high"] (defScope s_paper) := ⟨rfl, rfl, rfl, by decide +kernel, rfl, by decide +kernel, by decide +kernel⟩
theorem sc_right_paper : FnScope ["machine", "low", "high", "value", "span", "step"] ["machine", "low", "high", "value"] (defScope s_right_paper) := ⟨rfl, rfl, rfl, by decide +kernel, rfl, by decide +kernel, by decide +kernel⟩
theorem sc_first_leaving : FnScope ["machine", "low", "high", "moves", "stand", "tally"] ["machine", "low", "high"] (defScope s_first_leaving) := ⟨rfl, rfl, rfl, by decide +kernel, rfl, by decide +kernel, by decide +kernel⟩
theorem sc_tallies : FnScope ["machine", "length", "numbers", "tally"] ["machine", "length"] (defScope s_tallies) := ⟨rfl, rfl, rfl, by decide +kernel, rfl, by decide +kernel, by decide +kernel⟩
theorem sc_count : FnScope ["machine", "length", "tally"] ["machine", "length", "tally"] (defScope s_count) := ⟨rfl, rfl, rfl, by decide +kernel, rfl, by decide +kernel, by decide +kernel⟩
theorem sc_count_staying : FnScope ["machine", "length", "low", "high"] ["machine", "length", "low", "high"] (defScope s_count_staying) := ⟨rfl, rfl, rfl, by decide +kernel, rfl, by decide +kernel, by decide +kernel⟩
theorem sc_needed : FnScope ["machine", "least", "_"] ["machine"] (defScope s_needed) := ⟨rfl, rfl, rfl, by decide +kernel, rfl, by decide +kernel, by decide +kernel⟩
theorem sc_lasting : FnScope ["machine", "ways"] ["machine"] (defScope s_lasting) := ⟨rfl, rfl, rfl, by decide +kernel, rfl, by decide +kernel, by decide +kernel⟩
theorem sc_credit : FnScope ["machine", "found"] ["machine"] (defScope s_credit) := ⟨rfl, rfl, rfl, by decide +kernel, rfl, by decide +kernel, by decide +kernel⟩
theorem sc_right_lasting : FnScope ["machine", "value", "many", "lead", "loop", "gain", "least", "_", "sums"] ["machine", "value"] (defScope s_right_lasting) := ⟨rfl, rfl, rfl, by decide +kernel, rfl, by decide +kernel, by decide +kernel⟩
theorem sc_greatest_mean : FnScope ["machine"] ["machine"] (defScope s_greatest_mean) := ⟨rfl, rfl, rfl, by decide +kernel, rfl, by decide +kernel, by decide +kernel⟩
theorem sc_least_mean : FnScope ["machine"] ["machine"] (defScope s_least_mean) := ⟨rfl, rfl, rfl, by decide +kernel, rfl, by decide +kernel, by decide +kernel⟩
theorem sc_mean_paper : FnScope ["machine", "best", "stand", "gain", "loop", "over", "under", "lead"] ["machine"] (defScope s_mean_paper) := ⟨rfl, rfl, rfl, by decide +kernel, rfl, by decide +kernel, by decide +kernel⟩
theorem sc_right_mean : FnScope ["machine", "value", "mean", "lead", "loop", "numbers"] ["machine", "value"] (defScope s_right_mean) := ⟨rfl, rfl, rfl, by decide +kernel, rfl, by decide +kernel, by decide +kernel⟩
theorem sc_mends : FnScope ["machine", "places", "many", "found"] ["machine"] (defScope s_mends) := ⟨rfl, rfl, rfl, by decide +kernel, rfl, by decide +kernel, by decide +kernel⟩
theorem sc_mended : FnScope ["machine", "some", "numbers", "place", "begun", "letter", "end", "gain"] ["machine", "some"] (defScope s_mended) := ⟨rfl, rfl, rfl, by decide +kernel, rfl, by decide +kernel, by decide +kernel⟩
theorem sc_Meter_init : FnScope ["self", "machine"] ["self", "machine"] (defScope s_Meter_init) := ⟨rfl, rfl, rfl, by decide +kernel, rfl, by decide +kernel, by decide +kernel⟩
theorem sc_difference : FnScope ["one", "other", "steps"] ["one", "other"] (defScope s_difference) := ⟨rfl, rfl, rfl, by decide +kernel, rfl, by decide +kernel, by decide +kernel⟩
theorem sc_in_step : FnScope ["one", "other", "most"] ["one", "other", "most"] (defScope s_in_step) := ⟨rfl, rfl, rfl, by decide +kernel, rfl, by decide +kernel, by decide +kernel⟩
theorem sc_first_apart : FnScope ["one", "other", "one_moves", "other_moves", "moves", "begun", "start"] ["one", "other"] (defScope s_first_apart) := ⟨rfl, rfl, rfl, by decide +kernel, rfl, by decide +kernel, by decide +kernel⟩
theorem sc_write : FnScope ["machine", "lines", "step", "line", "word"] ["machine"] (defScope s_write) := ⟨rfl, rfl, rfl, by decide +kernel, rfl, by decide +kernel, by decide +kernel⟩
theorem sc_law_taken : FnScope ["_law_row", "_law_many", "_law_found", "_law_cell"] ["_law_row", "_law_many"] (defScope s_law_taken) := ⟨rfl, rfl, rfl, by decide +kernel, rfl, by decide +kernel, by decide +kernel⟩
theorem sc_law_odd : FnScope ["_law_row"] ["_law_row"] (defScope s_law_odd) := ⟨rfl, rfl, rfl, by decide +kernel, rfl, by decide +kernel, by decide +kernel⟩
theorem sc_law_call : FnScope ["_law_kind", "_law_value", "_law_some"] ["_law_kind", "_law_value"] (defScope s_law_call) := ⟨rfl, rfl, rfl, by decide +kernel, rfl, by decide +kernel, by decide +kernel⟩
theorem sc_law : FnScope ["_law_script", "_law_row", "_law_turn", "_law_raised"] ["_law_script"] (defScope s_law) := ⟨rfl, rfl, rfl, by decide +kernel, rfl, by decide +kernel, by decide +kernel⟩
/-! ### the head by facts: the names that the law comes to, read off the run's end -/
section
open He
theorem map_join {α β γ δ : Type} {o : Option α} {a : α → β} {b : α → γ} {c : α → δ} {A : β} {B : γ} {C : δ} (h1 : o.map (fun x => a x) = some A) (h2 : o.map (fun x => b x) = some B) (h3 : o.map (fun x => c x) = some C) : o.map (fun x => (a x, b x, c x)) = some (A, B, C) := by
  cases o with
  | none => cases h1
  | some x =>
    have e1 : a x = A := Option.some.inj h1
    have e2 : b x = B := Option.some.inj h2
    have e3 : c x = C := Option.some.inj h3
    show some (a x, b x, c x) = _
    rw [e1, e2, e3]
def asN (g : Addr → Option Obj) (names : List Str) : List Addr := names.filterMap fun x => match PySem.W.nsIn (frG g [mainGlobals]) mainGlobals x with
  | some (some (.ref a)) => some a
  | _ => none
/-- what a function, a class, a table, a property names: a code object's own things are not looked at -/
def refsS (o : Obj) : List Addr := match o.data with
  | .seq its _ => its.toList.flatMap refV
  | .dict es _ => es.toList.flatMap fun e => refV e.val
  | .func fd => refV fd.code
  | .cls cd => cd.ns :: cd.mro.flatMap refV
  | .fields vs => (match o.cls with
    | .type c => (match decide (c = "property") with
      | true => vs.toList.flatMap refV
      | false => [])
    | _ => [])
  | _ => []
def newS (g : Addr → Option Obj) (as : List Addr) : List Addr := as.flatMap fun a => match g a with
  | some o => refsS o
  | none => []
/-- what is new at each step alone goes on -/
def grN (g : Addr → Option Obj) : Nat → List Addr → List Addr
  | 0, as => as
  | n + 1, as => as ++ grN g n (newS g as)
def frK (names : List Str) (n : Nat) (g : Addr → Option Obj) : PySem.W.Frag := frG g (mainGlobals :: cStatics :: grN g n (asN g names))
/-- a def of the text: its function's address as the written part tells it, what it must hold -/
structure FnA where
  ad : PySem.W.Frag → Addr
  name : Str
  qual : Str
  params : Arguments
  body : List Stmt
  scope : Scope
def FnSaid (K : PySem.W.Frag) (d : FnA) : Prop := ∃ oc od osl kV doc pm an cdv ct, K.lookup (d.ad K) = some ⟨oc, od, .func (PySem.W.fnOf d.name d.qual d.params d.body d.scope .none kV doc pm an cdv ct), osl⟩ ∧ PySem.W.codeIn K cdv d.qual = true
abbrev FnT : Type := Str × Str × Arguments × FuncBody × Scope × Addr × List (Str × Addr) × Value × Addr × Bool
def seenA (K : PySem.W.Frag) (d : FnA) : Option FnT := (K.lookup (d.ad K)).bind fun o => match o.data with
  | .func u => some (u.name, u.qualname, u.params, u.body, u.scope, u.globals, u.closure, u.defaults, u.builtins, PySem.W.codeIn K u.code d.qual)
  | _ => none
def wishA (d : FnA) : Option FnT := some (d.name, d.qual, d.params, .stmts d.body, d.scope, mainGlobals, [], .none, builtinsNs, true)
theorem seenA_ok {K : PySem.W.Frag} {d : FnA} (e : seenA K d = wishA d) : FnSaid K d := by
  obtain ⟨o, ho, e2⟩ := Option.bind_eq_some_iff.mp e
  obtain ⟨oc, od, dt, osl⟩ := o
  cases dt with
  | func u =>
    obtain ⟨u1, u2, u3, u4, u5, u6, u7, u8, u9, u10, u11, u12, u13, u14, u15⟩ := u
    have e3 := Option.some.inj e2
    simp only [Prod.mk.injEq] at e3
    obtain ⟨h1, h2, h3, h4, h5, h6, h7, h8, h9, h10⟩ := e3
    subst h1 h2 h3 h4 h5 h6 h7 h8 h9
    exact ⟨oc, od, osl, u9, u10, u11, u12, u13, u14, ho, h10⟩
  | _ => cases e2
abbrev AlF : Type := Bool × List (Option FnT)
def obsF (names : List Str) (n : Nat) (fn : List FnA) (ex : PySem.W.Frag → List Bool) (g : Addr → Option Obj) : AlF := ((ex (frK names n g)).all (fun b => b), fn.map (seenA (frK names n g)))
def valF (fn : List FnA) : AlF := (true, fn.map wishA)
theorem said_of {names : List Str} {n : Nat} {fn : List FnA} {ex : PySem.W.Frag → List Bool} {g : Addr → Option Obj} (e : obsF names n fn ex g = valF fn) : (ex (frK names n g)).all (fun b => b) = true ∧ ∀ (i : Nat) (d : FnA), fn[i]? = some d → FnSaid (frK names n g) d := by
  refine ⟨congrArg (fun z : AlF => z.1) e, fun i d h => ?_⟩
  have e3 : fn.map (seenA (frK names n g)) = fn.map wishA := congrArg (fun z : AlF => z.2) e
  have e2 : (fn.map (seenA (frK names n g)))[i]? = (fn.map wishA)[i]? := by rw [e3]
  rw [List.getElem?_map, List.getElem?_map, h] at e2
  exact seenA_ok (Option.some.inj e2)
def hookF (names : List Str) (n : Nat) (fn : List FnA) (ex : PySem.W.Frag → List Bool) : PySem.W.Hook where
  α := AlF
  obs := fun s => obsF names n fn ex s.heap.get?
  val := fun _ => valF fn
  says := fun _ h => ∃ K : PySem.W.Frag, K.In h ∧ (ex K).all (fun b => b) = true ∧ ∀ (i : Nat) (d : FnA), fn[i]? = some d → FnSaid K d
  of := fun _ _ e => ⟨_, frG_in, said_of e⟩
  keeps := fun _ _ _ ⟨K, hK, c⟩ k => ⟨K, PySem.W.Frag.In.keeps hK k, c⟩
theorem row_ok {l : List Bool} (h : l.all (fun b => b) = true) (i : Nat) {b : Bool} (e : l[i]? = some b) : b = true := List.all_eq_true.mp h b (List.mem_of_getElem? e)
theorem int_k {K : PySem.W.Frag} {x : Str} {i : Int} (c : (Fa.int x i).ok K = true) : ∃ t, PySem.W.nsIn K mainGlobals x = some (some (.int i t)) := by
  have c2 : (match PySem.W.nsIn K mainGlobals x with
    | some (some (.int j _)) => decide (j = i)
    | _ => false) = true := c
  cases e : PySem.W.nsIn K mainGlobals x with
  | none => rw [e] at c2; cases c2
  | some o =>
    rw [e] at c2
    cases o with
    | none => cases c2
    | some v =>
      cases v with
      | int j t =>
        have ej : j = i := of_decide_eq_true c2
        rw [ej]
        exact ⟨t, rfl⟩
      | _ => cases c2
theorem str_k {K : PySem.W.Frag} {x z : Str} (c : (Fa.str x z).ok K = true) : ∃ t, PySem.W.nsIn K mainGlobals x = some (some (.str z t)) := by
  have c2 : (match PySem.W.nsIn K mainGlobals x with
    | some (some (.str y _)) => decide (y = z)
    | _ => false) = true := c
  cases e : PySem.W.nsIn K mainGlobals x with
  | none => rw [e] at c2; cases c2
  | some o =>
    rw [e] at c2
    cases o with
    | none => cases c2
    | some v =>
      cases v with
      | str y t =>
        have ej : y = z := of_decide_eq_true c2
        rw [ej]
        exact ⟨t, rfl⟩
      | _ => cases c2
/-- the getter's function of a property, the base behind an exception's class -/
def pgA (K : PySem.W.Frag) (C p : Str) : Addr := match PySem.W.recIn K (ma K (ga K C) p) "property" with
  | some (.ref a :: _) => a
  | _ => 0
def pgB (K : PySem.W.Frag) (C p : Str) : Bool := match PySem.W.recIn K (ma K (ga K C) p) "property" with
  | some (.ref _ :: _) => true
  | _ => false
theorem pgB_ok {K : PySem.W.Frag} {C p : Str} (h : pgB K C p = true) : ∃ rest, PySem.W.recIn K (ma K (ga K C) p) "property" = some (.ref (pgA K C p) :: rest) := by
  unfold pgB at h
  unfold pgA
  cases e : PySem.W.recIn K (ma K (ga K C) p) "property" with
  | none => rw [e] at h; cases h
  | some l =>
    cases l with
    | nil => rw [e] at h; cases h
    | cons v r =>
      cases v with
      | ref a => exact ⟨r, rfl⟩
      | _ => rw [e] at h; cases h
def fvB (K : PySem.W.Frag) (C : Addr) : Bool := match PySem.W.findCls K (.ref C) (.type "type") "__init__" with
  | some (.val (.builtin b)) => decide (b = "ValueError.__init__")
  | _ => false
theorem fvB_ok {K : PySem.W.Frag} {C : Addr} (h : fvB K C = true) : PySem.W.findCls K (.ref C) (.type "type") "__init__" = some (.val (.builtin "ValueError.__init__")) := by
  unfold fvB at h
  split at h
  · rename_i b e
    rw [e, of_decide_eq_true h]
  · cases h
def exclB (K : PySem.W.Frag) (C : Addr) : Bool := match K.lookup C with
  | some ⟨.type t, _, .cls cd, sl⟩ => (match cd.mro, sl.toList with
    | .ref D :: bm, [_, _, _, _, some (.builtin b), _] => decide (t = "type") && (decide (D = C) && (decide (b = "ValueError.__new__") && (decide (cd.hasDel = false) && (decide (cd.hasDict = true) && PySem.HandSPX.refsVE bm))))
    | _, _ => false)
  | _ => false
theorem exclB_ok {K : PySem.W.Frag} {C : Addr} (h : exclB K C = true) : ∃ nm q N bs bm sn sub ab col dd k0 k1 k2 k3 k5, K.lookup C = some (excClassObj nm q C N bs bm true sn sub ab col dd k0 k1 k2 k3 k5 "ValueError.__new__") ∧ PySem.HandSPX.refsVE bm = true := by
  unfold exclB at h
  split at h
  · rename_i t dd cd sl ho
    split at h
    · rename_i D bm k0 k1 k2 k3 b k5 hm hs
      obtain ⟨h1, h⟩ := ba h
      obtain ⟨h2, h⟩ := ba h
      obtain ⟨h3, h⟩ := ba h
      obtain ⟨h4, h⟩ := ba h
      obtain ⟨h5, h6⟩ := ba h
      obtain ⟨nm, bs, mro, ns, qn, hd, sn, sub, ab, col, del⟩ := cd
      have q1 := of_decide_eq_true h1
      have q2 := of_decide_eq_true h2
      have q3 := of_decide_eq_true h3
      have q4 : del = false := of_decide_eq_true h4
      have q5 : hd = true := of_decide_eq_true h5
      have q6 : mro = .ref D :: bm := hm
      clear h1 h2 h3 h4 h5 hm
      have hsl : sl = #[k0, k1, k2, k3, some (.builtin b), k5] := by
        obtain ⟨l⟩ := sl
        have hs : l = [k0, k1, k2, k3, some (.builtin b), k5] := hs
        rw [hs]
      clear hs
      subst q1 q2 q3 q4 q5 q6 hsl
      exact ⟨nm, qn, ns, bs, bm, sn, sub, ab, col, dd, k0, k1, k2, k3, k5, ho, h6⟩
    · cases h
  · cases h
def nm_0 : List Str := ["is_whole_number", "is_integer_between", "_is_stand", "_check_stands", "_is_step", "check_steps_machines", "is_ascending", "_check_ends", "check_machine", "is_row", "behind", "ends_well", "reached", "_tally_at", "_row_at", "greatest_at", "least_at", "greatest_row", "least_row", "bounds", "end_bounds", "stays", "bar", "right_bar", "paper", "right_paper", "first_leaving", "tallies", "count", "count_staying"]
def nm_1 : List Str := ["needed", "lasting", "credit", "right_lasting", "greatest_mean", "least_mean", "mean_paper", "right_mean", "mends", "mended", "difference", "in_step", "first_apart", "write", "_law_taken", "_law_odd", "_law_call", "law", "Machine", "Meter", "BadMachine", "LETTERS"]
def nms : List Str := nm_0 ++ nm_1
def fd_Machine_init : FnA := ⟨fun K => fAd K ("Machine", some "__init__"), "__init__", "Machine.__init__", defArgs s_Machine_init, defBody s_Machine_init, defScope s_Machine_init⟩
def fd_is_whole_number : FnA := ⟨fun K => fAd K ("is_whole_number", none), "is_whole_number", "is_whole_number", defArgs s_is_whole_number, defBody s_is_whole_number, defScope s_is_whole_number⟩
def fd_is_integer_between : FnA := ⟨fun K => fAd K ("is_integer_between", none), "is_integer_between", "is_integer_between", defArgs s_is_integer_between, defBody s_is_integer_between, defScope s_is_integer_between⟩
def fd_is_stand : FnA := ⟨fun K => fAd K ("_is_stand", none), "_is_stand", "_is_stand", defArgs s_is_stand, defBody s_is_stand, defScope s_is_stand⟩
def fd_check_stands : FnA := ⟨fun K => fAd K ("_check_stands", none), "_check_stands", "_check_stands", defArgs s_check_stands, defBody s_check_stands, defScope s_check_stands⟩
def fd_is_step : FnA := ⟨fun K => fAd K ("_is_step", none), "_is_step", "_is_step", defArgs s_is_step, defBody s_is_step, defScope s_is_step⟩
def fd_check_steps : FnA := ⟨fun K => fAd K ("check_steps_machines", none), "_check_steps", "_check_steps", defArgs s_check_steps, defBody s_check_steps, defScope s_check_steps⟩
def fd_is_ascending : FnA := ⟨fun K => fAd K ("is_ascending", none), "is_ascending", "is_ascending", defArgs s_is_ascending, defBody s_is_ascending, defScope s_is_ascending⟩
def fd_check_ends : FnA := ⟨fun K => fAd K ("_check_ends", none), "_check_ends", "_check_ends", defArgs s_check_ends, defBody s_check_ends, defScope s_check_ends⟩
def fd_check_machine : FnA := ⟨fun K => fAd K ("check_machine", none), "check_machine", "check_machine", defArgs s_check_machine, defBody s_check_machine, defScope s_check_machine⟩
def fd_is_row : FnA := ⟨fun K => fAd K ("is_row", none), "is_row", "is_row", defArgs s_is_row, defBody s_is_row, defScope s_is_row⟩
def fd_behind : FnA := ⟨fun K => fAd K ("behind", none), "behind", "behind", defArgs s_behind, defBody s_behind, defScope s_behind⟩
def fd_ends_well : FnA := ⟨fun K => fAd K ("ends_well", none), "ends_well", "ends_well", defArgs s_ends_well, defBody s_ends_well, defScope s_ends_well⟩
def fd_reached : FnA := ⟨fun K => fAd K ("reached", none), "reached", "reached", defArgs s_reached, defBody s_reached, defScope s_reached⟩
def fd_tally_at : FnA := ⟨fun K => fAd K ("_tally_at", none), "_tally_at", "_tally_at", defArgs s_tally_at, defBody s_tally_at, defScope s_tally_at⟩
def fd_row_at : FnA := ⟨fun K => fAd K ("_row_at", none), "_row_at", "_row_at", defArgs s_row_at, defBody s_row_at, defScope s_row_at⟩
def fd_greatest_at : FnA := ⟨fun K => fAd K ("greatest_at", none), "greatest_at", "greatest_at", defArgs s_greatest_at, defBody s_greatest_at, defScope s_greatest_at⟩
def fd_least_at : FnA := ⟨fun K => fAd K ("least_at", none), "least_at", "least_at", defArgs s_least_at, defBody s_least_at, defScope s_least_at⟩
def fd_greatest_row : FnA := ⟨fun K => fAd K ("greatest_row", none), "greatest_row", "greatest_row", defArgs s_greatest_row, defBody s_greatest_row, defScope s_greatest_row⟩
def fd_least_row : FnA := ⟨fun K => fAd K ("least_row", none), "least_row", "least_row", defArgs s_least_row, defBody s_least_row, defScope s_least_row⟩
def fd_bounds : FnA := ⟨fun K => fAd K ("bounds", none), "bounds", "bounds", defArgs s_bounds, defBody s_bounds, defScope s_bounds⟩
def fd_end_bounds : FnA := ⟨fun K => fAd K ("end_bounds", none), "end_bounds", "end_bounds", defArgs s_end_bounds, defBody s_end_bounds, defScope s_end_bounds⟩
def fd_stays : FnA := ⟨fun K => fAd K ("stays", none), "stays", "stays", defArgs s_stays, defBody s_stays, defScope s_stays⟩
def fd_bar : FnA := ⟨fun K => fAd K ("bar", none), "bar", "bar", defArgs s_bar, defBody s_bar, defScope s_bar⟩
def fd_right_bar : FnA := ⟨fun K => fAd K ("right_bar", none), "right_bar", "right_bar", defArgs s_right_bar, defBody s_right_bar, defScope s_right_bar⟩
def fd_paper : FnA := ⟨fun K => fAd K ("paper", none), "paper", "paper", defArgs s_paper, defBody s_paper, defScope s_paper⟩
def fd_right_paper : FnA := ⟨fun K => fAd K ("right_paper", none), "right_paper", "right_paper", defArgs s_right_paper, defBody s_right_paper, defScope s_right_paper⟩
def fd_first_leaving : FnA := ⟨fun K => fAd K ("first_leaving", none), "first_leaving", "first_leaving", defArgs s_first_leaving, defBody s_first_leaving, defScope s_first_leaving⟩
def fd_tallies : FnA := ⟨fun K => fAd K ("tallies", none), "tallies", "tallies", defArgs s_tallies, defBody s_tallies, defScope s_tallies⟩
def fd_count : FnA := ⟨fun K => fAd K ("count", none), "count", "count", defArgs s_count, defBody s_count, defScope s_count⟩
def fd_count_staying : FnA := ⟨fun K => fAd K ("count_staying", none), "count_staying", "count_staying", defArgs s_count_staying, defBody s_count_staying, defScope s_count_staying⟩
def fd_needed : FnA := ⟨fun K => fAd K ("needed", none), "needed", "needed", defArgs s_needed, defBody s_needed, defScope s_needed⟩
def fd_lasting : FnA := ⟨fun K => fAd K ("lasting", none), "lasting", "lasting", defArgs s_lasting, defBody s_lasting, defScope s_lasting⟩
def fd_credit : FnA := ⟨fun K => fAd K ("credit", none), "credit", "credit", defArgs s_credit, defBody s_credit, defScope s_credit⟩
def fd_right_lasting : FnA := ⟨fun K => fAd K ("right_lasting", none), "right_lasting", "right_lasting", defArgs s_right_lasting, defBody s_right_lasting, defScope s_right_lasting⟩
def fd_greatest_mean : FnA := ⟨fun K => fAd K ("greatest_mean", none), "greatest_mean", "greatest_mean", defArgs s_greatest_mean, defBody s_greatest_mean, defScope s_greatest_mean⟩
def fd_least_mean : FnA := ⟨fun K => fAd K ("least_mean", none), "least_mean", "least_mean", defArgs s_least_mean, defBody s_least_mean, defScope s_least_mean⟩
def fd_mean_paper : FnA := ⟨fun K => fAd K ("mean_paper", none), "mean_paper", "mean_paper", defArgs s_mean_paper, defBody s_mean_paper, defScope s_mean_paper⟩
def fd_right_mean : FnA := ⟨fun K => fAd K ("right_mean", none), "right_mean", "right_mean", defArgs s_right_mean, defBody s_right_mean, defScope s_right_mean⟩
def fd_mends : FnA := ⟨fun K => fAd K ("mends", none), "mends", "mends", defArgs s_mends, defBody s_mends, defScope s_mends⟩
def fd_mended : FnA := ⟨fun K => fAd K ("mended", none), "mended", "mended", defArgs s_mended, defBody s_mended, defScope s_mended⟩
def fd_Meter_init : FnA := ⟨fun K => fAd K ("Meter", some "__init__"), "__init__", "Meter.__init__", defArgs s_Meter_init, defBody s_Meter_init, defScope s_Meter_init⟩
def fd_difference : FnA := ⟨fun K => fAd K ("difference", none), "difference", "difference", defArgs s_difference, defBody s_difference, defScope s_difference⟩
def fd_in_step : FnA := ⟨fun K => fAd K ("in_step", none), "in_step", "in_step", defArgs s_in_step, defBody s_in_step, defScope s_in_step⟩
def fd_first_apart : FnA := ⟨fun K => fAd K ("first_apart", none), "first_apart", "first_apart", defArgs s_first_apart, defBody s_first_apart, defScope s_first_apart⟩
def fd_write : FnA := ⟨fun K => fAd K ("write", none), "write", "write", defArgs s_write, defBody s_write, defScope s_write⟩
def fd_law_taken : FnA := ⟨fun K => fAd K ("_law_taken", none), "_law_taken", "_law_taken", defArgs s_law_taken, defBody s_law_taken, defScope s_law_taken⟩
def fd_law_odd : FnA := ⟨fun K => fAd K ("_law_odd", none), "_law_odd", "_law_odd", defArgs s_law_odd, defBody s_law_odd, defScope s_law_odd⟩
def fd_law_call : FnA := ⟨fun K => fAd K ("_law_call", none), "_law_call", "_law_call", defArgs s_law_call, defBody s_law_call, defScope s_law_call⟩
def fd_law : FnA := ⟨fun K => fAd K ("law", none), "law", "law", defArgs s_law, defBody s_law, defScope s_law⟩
def fn_0 : List FnA := [fd_Machine_init, fd_is_whole_number, fd_is_integer_between, fd_is_stand, fd_check_stands, fd_is_step, fd_check_steps, fd_is_ascending, fd_check_ends, fd_check_machine, fd_is_row, fd_behind, fd_ends_well, fd_reached, fd_tally_at, fd_row_at, fd_greatest_at, fd_least_at, fd_greatest_row, fd_least_row, fd_bounds, fd_end_bounds, fd_stays, fd_bar, fd_right_bar, fd_paper, fd_right_paper, fd_first_leaving, fd_tallies, fd_count]
def fn_1 : List FnA := [fd_count_staying, fd_needed, fd_lasting, fd_credit, fd_right_lasting, fd_greatest_mean, fd_least_mean, fd_mean_paper, fd_right_mean, fd_mends, fd_mended, fd_Meter_init, fd_difference, fd_in_step, fd_first_apart, fd_write, fd_law_taken, fd_law_odd, fd_law_call, fd_law]
def fns : List FnA := fn_0 ++ fn_1
def ex_0 (K : PySem.W.Frag) : List Bool := [
    decide (PySem.W.nsIn K mainGlobals "is_whole_number" = some (some (.ref (fAd K ("is_whole_number", none))))),
    decide (PySem.W.nsIn K mainGlobals "is_integer_between" = some (some (.ref (fAd K ("is_integer_between", none))))),
    decide (PySem.W.nsIn K mainGlobals "_is_stand" = some (some (.ref (fAd K ("_is_stand", none))))),
    decide (PySem.W.nsIn K mainGlobals "_check_stands" = some (some (.ref (fAd K ("_check_stands", none))))),
    decide (PySem.W.nsIn K mainGlobals "_is_step" = some (some (.ref (fAd K ("_is_step", none))))),
    decide (PySem.W.nsIn K mainGlobals "check_steps_machines" = some (some (.ref (fAd K ("check_steps_machines", none))))),
    decide (PySem.W.nsIn K mainGlobals "is_ascending" = some (some (.ref (fAd K ("is_ascending", none))))),
    decide (PySem.W.nsIn K mainGlobals "_check_ends" = some (some (.ref (fAd K ("_check_ends", none))))),
    decide (PySem.W.nsIn K mainGlobals "check_machine" = some (some (.ref (fAd K ("check_machine", none))))),
    decide (PySem.W.nsIn K mainGlobals "is_row" = some (some (.ref (fAd K ("is_row", none))))),
    decide (PySem.W.nsIn K mainGlobals "behind" = some (some (.ref (fAd K ("behind", none))))),
    decide (PySem.W.nsIn K mainGlobals "ends_well" = some (some (.ref (fAd K ("ends_well", none))))),
    decide (PySem.W.nsIn K mainGlobals "reached" = some (some (.ref (fAd K ("reached", none))))),
    decide (PySem.W.nsIn K mainGlobals "_tally_at" = some (some (.ref (fAd K ("_tally_at", none))))),
    decide (PySem.W.nsIn K mainGlobals "_row_at" = some (some (.ref (fAd K ("_row_at", none))))),
    decide (PySem.W.nsIn K mainGlobals "greatest_at" = some (some (.ref (fAd K ("greatest_at", none))))),
    decide (PySem.W.nsIn K mainGlobals "least_at" = some (some (.ref (fAd K ("least_at", none))))),
    decide (PySem.W.nsIn K mainGlobals "greatest_row" = some (some (.ref (fAd K ("greatest_row", none))))),
    decide (PySem.W.nsIn K mainGlobals "least_row" = some (some (.ref (fAd K ("least_row", none))))),
    decide (PySem.W.nsIn K mainGlobals "bounds" = some (some (.ref (fAd K ("bounds", none))))),
    decide (PySem.W.nsIn K mainGlobals "end_bounds" = some (some (.ref (fAd K ("end_bounds", none))))),
    decide (PySem.W.nsIn K mainGlobals "stays" = some (some (.ref (fAd K ("stays", none))))),
    decide (PySem.W.nsIn K mainGlobals "bar" = some (some (.ref (fAd K ("bar", none))))),
    decide (PySem.W.nsIn K mainGlobals "right_bar" = some (some (.ref (fAd K ("right_bar", none))))),
    decide (PySem.W.nsIn K mainGlobals "paper" = some (some (.ref (fAd K ("paper", none)))))]
def ex_1 (K : PySem.W.Frag) : List Bool := [
    decide (PySem.W.nsIn K mainGlobals "right_paper" = some (some (.ref (fAd K ("right_paper", none))))),
    decide (PySem.W.nsIn K mainGlobals "first_leaving" = some (some (.ref (fAd K ("first_leaving", none))))),
    decide (PySem.W.nsIn K mainGlobals "tallies" = some (some (.ref (fAd K ("tallies", none))))),
    decide (PySem.W.nsIn K mainGlobals "count" = some (some (.ref (fAd K ("count", none))))),
    decide (PySem.W.nsIn K mainGlobals "count_staying" = some (some (.ref (fAd K ("count_staying", none))))),
    decide (PySem.W.nsIn K mainGlobals "needed" = some (some (.ref (fAd K ("needed", none))))),
    decide (PySem.W.nsIn K mainGlobals "lasting" = some (some (.ref (fAd K ("lasting", none))))),
    decide (PySem.W.nsIn K mainGlobals "credit" = some (some (.ref (fAd K ("credit", none))))),
    decide (PySem.W.nsIn K mainGlobals "right_lasting" = some (some (.ref (fAd K ("right_lasting", none))))),
    decide (PySem.W.nsIn K mainGlobals "greatest_mean" = some (some (.ref (fAd K ("greatest_mean", none))))),
    decide (PySem.W.nsIn K mainGlobals "least_mean" = some (some (.ref (fAd K ("least_mean", none))))),
    decide (PySem.W.nsIn K mainGlobals "mean_paper" = some (some (.ref (fAd K ("mean_paper", none))))),
    decide (PySem.W.nsIn K mainGlobals "right_mean" = some (some (.ref (fAd K ("right_mean", none))))),
    decide (PySem.W.nsIn K mainGlobals "mends" = some (some (.ref (fAd K ("mends", none))))),
    decide (PySem.W.nsIn K mainGlobals "mended" = some (some (.ref (fAd K ("mended", none))))),
    decide (PySem.W.nsIn K mainGlobals "difference" = some (some (.ref (fAd K ("difference", none))))),
    decide (PySem.W.nsIn K mainGlobals "in_step" = some (some (.ref (fAd K ("in_step", none))))),
    decide (PySem.W.nsIn K mainGlobals "first_apart" = some (some (.ref (fAd K ("first_apart", none))))),
    decide (PySem.W.nsIn K mainGlobals "write" = some (some (.ref (fAd K ("write", none))))),
    decide (PySem.W.nsIn K mainGlobals "_law_taken" = some (some (.ref (fAd K ("_law_taken", none))))),
    decide (PySem.W.nsIn K mainGlobals "_law_odd" = some (some (.ref (fAd K ("_law_odd", none))))),
    decide (PySem.W.nsIn K mainGlobals "_law_call" = some (some (.ref (fAd K ("_law_call", none))))),
    decide (PySem.W.nsIn K mainGlobals "law" = some (some (.ref (fAd K ("law", none))))),
    decide (PySem.W.nsIn K mainGlobals "Machine" = some (some (.ref (ga K "Machine")))),
    decide (PySem.W.nsIn K mainGlobals "Meter" = some (some (.ref (ga K "Meter"))))]
def ex_2 (K : PySem.W.Frag) : List Bool := [
    decide (PySem.W.nsIn K mainGlobals "BadMachine" = some (some (.ref (ga K "BadMachine")))),
    (Fa.int "MOST_STANDS" (8)).ok K,
    (Fa.int "MOST_GAIN" (1000000000000000000000000000000)).ok K,
    decide (PySem.W.nsIn K mainGlobals "LETTERS" = some (some (.ref (ga K "LETTERS")))),
    decide (PySem.W.nsIn K mainGlobals "bool" = some none),
    decide (PySem.W.nsIn K mainGlobals "enumerate" = some none),
    decide (PySem.W.nsIn K mainGlobals "int" = some none),
    decide (PySem.W.nsIn K mainGlobals "isinstance" = some none),
    decide (PySem.W.nsIn K mainGlobals "len" = some none),
    decide (PySem.W.nsIn K mainGlobals "list" = some none),
    decide (PySem.W.nsIn K mainGlobals "range" = some none),
    decide (PySem.W.nsIn K mainGlobals "str" = some none),
    decide (PySem.W.nsIn K mainGlobals "tuple" = some none),
    decide (PySem.W.keepIn K (.ref (fAd K ("Machine", some "__init__"))) = true),
    decide (PySem.W.keepIn K (.ref (fAd K ("is_whole_number", none))) = true),
    decide (PySem.W.keepIn K (.ref (fAd K ("is_integer_between", none))) = true),
    decide (PySem.W.keepIn K (.ref (fAd K ("_is_stand", none))) = true),
    decide (PySem.W.keepIn K (.ref (fAd K ("_check_stands", none))) = true),
    decide (PySem.W.keepIn K (.ref (fAd K ("_is_step", none))) = true),
    decide (PySem.W.keepIn K (.ref (fAd K ("check_steps_machines", none))) = true),
    decide (PySem.W.keepIn K (.ref (fAd K ("is_ascending", none))) = true),
    decide (PySem.W.keepIn K (.ref (fAd K ("_check_ends", none))) = true),
    decide (PySem.W.keepIn K (.ref (fAd K ("check_machine", none))) = true),
    decide (PySem.W.keepIn K (.ref (fAd K ("is_row", none))) = true),
    decide (PySem.W.keepIn K (.ref (fAd K ("behind", none))) = true)]
def ex_3 (K : PySem.W.Frag) : List Bool := [
    decide (PySem.W.keepIn K (.ref (fAd K ("ends_well", none))) = true),
    decide (PySem.W.keepIn K (.ref (fAd K ("reached", none))) = true),
    decide (PySem.W.keepIn K (.ref (fAd K ("_tally_at", none))) = true),
    decide (PySem.W.keepIn K (.ref (fAd K ("_row_at", none))) = true),
    decide (PySem.W.keepIn K (.ref (fAd K ("greatest_at", none))) = true),
    decide (PySem.W.keepIn K (.ref (fAd K ("least_at", none))) = true),
    decide (PySem.W.keepIn K (.ref (fAd K ("greatest_row", none))) = true),
    decide (PySem.W.keepIn K (.ref (fAd K ("least_row", none))) = true),
    decide (PySem.W.keepIn K (.ref (fAd K ("bounds", none))) = true),
    decide (PySem.W.keepIn K (.ref (fAd K ("end_bounds", none))) = true),
    decide (PySem.W.keepIn K (.ref (fAd K ("stays", none))) = true),
    decide (PySem.W.keepIn K (.ref (fAd K ("bar", none))) = true),
    decide (PySem.W.keepIn K (.ref (fAd K ("right_bar", none))) = true),
    decide (PySem.W.keepIn K (.ref (fAd K ("paper", none))) = true),
    decide (PySem.W.keepIn K (.ref (fAd K ("right_paper", none))) = true),
    decide (PySem.W.keepIn K (.ref (fAd K ("first_leaving", none))) = true),
    decide (PySem.W.keepIn K (.ref (fAd K ("tallies", none))) = true),
    decide (PySem.W.keepIn K (.ref (fAd K ("count", none))) = true),
    decide (PySem.W.keepIn K (.ref (fAd K ("count_staying", none))) = true),
    decide (PySem.W.keepIn K (.ref (fAd K ("needed", none))) = true),
    decide (PySem.W.keepIn K (.ref (fAd K ("lasting", none))) = true),
    decide (PySem.W.keepIn K (.ref (fAd K ("credit", none))) = true),
    decide (PySem.W.keepIn K (.ref (fAd K ("right_lasting", none))) = true),
    decide (PySem.W.keepIn K (.ref (fAd K ("greatest_mean", none))) = true),
    decide (PySem.W.keepIn K (.ref (fAd K ("least_mean", none))) = true)]
def ex_4 (K : PySem.W.Frag) : List Bool := [
    decide (PySem.W.keepIn K (.ref (fAd K ("mean_paper", none))) = true),
    decide (PySem.W.keepIn K (.ref (fAd K ("right_mean", none))) = true),
    decide (PySem.W.keepIn K (.ref (fAd K ("mends", none))) = true),
    decide (PySem.W.keepIn K (.ref (fAd K ("mended", none))) = true),
    decide (PySem.W.keepIn K (.ref (fAd K ("Meter", some "__init__"))) = true),
    decide (PySem.W.keepIn K (.ref (fAd K ("difference", none))) = true),
    decide (PySem.W.keepIn K (.ref (fAd K ("in_step", none))) = true),
    decide (PySem.W.keepIn K (.ref (fAd K ("first_apart", none))) = true),
    decide (PySem.W.keepIn K (.ref (fAd K ("write", none))) = true),
    decide (PySem.W.keepIn K (.ref (fAd K ("_law_taken", none))) = true),
    decide (PySem.W.keepIn K (.ref (fAd K ("_law_odd", none))) = true),
    decide (PySem.W.keepIn K (.ref (fAd K ("_law_call", none))) = true),
    decide (PySem.W.keepIn K (.ref (fAd K ("law", none))) = true),
    decide (PySem.W.plainGet K (ga K "Machine") Str.empty = true),
    decide (PySem.W.hasDictIn K (ga K "Machine") = true),
    decide (PySem.W.plainOver K (ga K "Machine") = true),
    decide (PySem.W.findIn K (.ref (ga K "Machine")) "__setattr__" = some (some (.builtin "object.__setattr__"))),
    decide (PySem.W.makesIn K (ga K "Machine") = true),
    decide (PySem.W.keepIn K (.ref (ga K "Machine")) = true),
    decide (PySem.W.findIn K (.ref (ga K "Machine")) "__init__" = some (some (.ref (fAd K ("Machine", some "__init__"))))),
    decide (PySem.W.isFn K (.ref (fAd K ("Machine", some "__init__"))) = true),
    decide (PySem.W.findIn K (.ref (ga K "Machine")) "_stands" = some none),
    decide (PySem.W.findIn K (.ref (ga K "Machine")) "_steps" = some none),
    decide (PySem.W.findIn K (.ref (ga K "Machine")) "_ends" = some none),
    decide (PySem.W.findIn K (.ref (ga K "Machine")) "__class__" = some (some (.builtin "object.__class__")))]
def ex_5 (K : PySem.W.Frag) : List Bool := [
    decide (PySem.W.specialIn K (.builtin "object.__class__") "__get__" = some (some (.builtin "getset_descriptor.__get__"))),
    decide (PySem.W.takesIn K (.builtin "object.__class__") = some true),
    decide (PySem.W.mroIn K (ga K "Machine") (.type "object") = some true),
    decide (PySem.W.isClsIn K (ga K "Machine") = true),
    decide (PySem.W.typeIn K (.ref (ga K "Machine")) = some (.type "type")),
    decide (PySem.W.plainGet K (ga K "Meter") Str.empty = true),
    decide (PySem.W.hasDictIn K (ga K "Meter") = true),
    decide (PySem.W.plainOver K (ga K "Meter") = true),
    decide (PySem.W.findIn K (.ref (ga K "Meter")) "__setattr__" = some (some (.builtin "object.__setattr__"))),
    decide (PySem.W.makesIn K (ga K "Meter") = true),
    decide (PySem.W.keepIn K (.ref (ga K "Meter")) = true),
    decide (PySem.W.findIn K (.ref (ga K "Meter")) "__init__" = some (some (.ref (fAd K ("Meter", some "__init__"))))),
    decide (PySem.W.isFn K (.ref (fAd K ("Meter", some "__init__"))) = true),
    decide (PySem.W.excIn K (ga K "BadMachine") [.type "ValueError", .type "Exception", .type "BaseException", .type "object"] "ValueError.__new__" = true),
    decide (PySem.W.keepIn K (.ref (ga K "BadMachine")) = true),
    decide (PySem.W.subIn K (.ref (ga K "BadMachine")) (.type "BaseException") = some true),
    decide (PySem.W.typeIn K (.ref (ga K "BadMachine")) = some (.type "type")),
    decide (PySem.W.isClsIn K (ga K "BadMachine") = true),
    decide (PySem.W.subIn K (.ref (ga K "BadMachine")) (.ref (ga K "BadMachine")) = some true),
    tupB K "LETTERS" [.str "a", .str "b", .str "c", .str "d"]]
def exs (K : PySem.W.Frag) : List Bool := [(ex_0 K).all fun b => b, (ex_1 K).all fun b => b, (ex_2 K).all fun b => b, (ex_3 K).all fun b => b, (ex_4 K).all fun b => b, (ex_5 K).all fun b => b]

end
/-! ### the run of the top -/
open PySem.W PySem.Calls PyProof.Rows in
abbrev R : PySem.W.OpenRow := PySem.W.OpenLaw.row PySem.Challenge.rw_staytallies_k02_no_machines
abbrev qv : Program := PySem.W.view R.prog [0, 1, 138]
def lo_0 : List Str := ["_wall", "TallyError", "BadStands", "BadSteps", "BadEnds", "BadMachine", "BadStand", "BadRow", "BadLetter", "BadNumber", "BadBounds", "BadSet", "TooMany", "ENDLESS", "led_to", "longer_rows", "_improved", "best_rows", "shortest_rows", "best_loops", "_best_of", "least_and_greatest", "is_within", "first_row_out", "MOST_STANDS", "MOST_GAIN", "MOST_NUMBER", "LETTERS", "Machine", "is_whole_number"]
def lo_1 : List Str := ["is_integer_between", "_is_stand", "_check_stands", "_is_step", "_check_steps", "check_steps_machines", "is_ascending", "_check_ends", "check_machine", "check_stand", "check_number", "moves_of", "way", "gain_of_loop", "is_row", "behind", "ends_well", "reached", "_tally_at", "_row_at", "greatest_at", "least_at", "greatest_row", "least_row", "bounds", "end_bounds", "MOST_SMALL_BOUND", "check_bounds", "stays", "_ring"]
def lo_2 : List Str := ["_row_outside", "bar", "_bars_as_row", "_bars_as_ring", "right_bar", "_span_at", "paper", "_is_span", "_covers", "_leads_on", "right_paper", "_moves_from", "moves_from_bounding", "first_leaving", "MOST_LENGTH", "_longer", "_numbers", "numbers_counts", "tallies", "count", "count_staying", "needed", "_loop_above", "_led_back", "_lasting_ways", "lasting", "credit", "right_lasting", "_best_loop", "_fraction"]
def lo_3 : List Str := ["_best_mean", "greatest_mean", "least_mean", "_steps_over", "numbers_means", "mean_paper", "_is_fraction", "_is_mean_of", "_bars_greater", "right_mean", "MOST_STEPS", "check_steps_mends", "_places_on_loops", "_spread", "numbers_mends", "_numbers_without", "_sets_that_mend", "mends", "mended", "Meter", "_steps_of_both", "difference", "in_step", "moves_from_pairs", "first_apart", "write", "_law_taken", "_law_odd", "_law_call"]
def los : List Str := lo_0 ++ lo_1 ++ lo_2 ++ lo_3
abbrev hk : PySem.W.Hook := hookF nms 4 fns exs
def ob (s : PySem.W.SharedT) : AlF := obsF nms 4 fns exs (HandSHeadRun.getT s)
theorem ob_eq (s : PySem.W.SharedT) : ob s = hk.obs s.abs := by
  have e : HandSHeadRun.getT s = s.abs.heap.get? := funext (HandSHeadRun.getT_eq s)
  show obsF nms 4 fns exs (HandSHeadRun.getT s) = obsF nms 4 fns exs s.abs.heap.get?
  rw [e]
set_option maxHeartbeats 0 in
theorem run_at3 (w : World) : (HandSHeadRun.wholeF (fun p => HandSHeadRun.stepQ (HandSHeadRun.denQ HandSHeadRun.tabQ) p w) HandSHeadRun.fenceQ 20000 R.prog).map (fun x => ob x.2) = some (valF fns) := by
  kernel_rfl
set_option maxHeartbeats 0 in
theorem run_at1 (w : World) : (HandSHeadRun.wholeF (fun p => HandSHeadRun.stepQ (HandSHeadRun.denQ HandSHeadRun.tabQ) p w) HandSHeadRun.fenceQ 20000 R.prog).map (fun x => HandSHeadRun.looksF R.prog x.1.heap x.2.abs) = some true := by
  kernel_rfl
set_option maxHeartbeats 0 in
theorem run_at2 (w : World) : (HandSHeadRun.wholeF (fun p => HandSHeadRun.stepQ (HandSHeadRun.denQ HandSHeadRun.tabQ) p w) HandSHeadRun.fenceQ 20000 R.prog).map (fun x => HandSHeadRun.seenQ qv los (PySem.importedModules R.prog.main.body) (fun s => PySem.W.xlAt qv [] s && PySem.W.recOk R.toRowW.records s) x.2.abs) = some (PySem.W.openGood qv los) := by
  kernel_rfl
theorem run_at (w : World) : HandSHeadRun.RunEqI R qv hk ob 20000 los w := by
  delta HandSHeadRun.RunEqI
  exact map_join (run_at1 w) (run_at2 w) (run_at3 w)
structure Txt (K : PySem.W.Frag) (mg : Str → Option Value) : Type where
  a_Machine_init : Addr
  fd_Machine_init : FuncData
  F_Machine_init : Fun K "__init__" "Machine.__init__" s_Machine_init a_Machine_init fd_Machine_init
  b_Machine_init : Binds K fd_Machine_init ["self", "stands", "steps", "ends"] []
  k_Machine_init : PySem.W.keepIn K (.ref a_Machine_init) = true
  a_is_whole_number : Addr
  fd_is_whole_number : FuncData
  F_is_whole_number : Fun K "is_whole_number" "is_whole_number" s_is_whole_number a_is_whole_number fd_is_whole_number
  b_is_whole_number : Binds K fd_is_whole_number ["value"] []
  k_is_whole_number : PySem.W.keepIn K (.ref a_is_whole_number) = true
  m_is_whole_number : mg "is_whole_number" = some (.ref a_is_whole_number)
  a_is_integer_between : Addr
  fd_is_integer_between : FuncData
  F_is_integer_between : Fun K "is_integer_between" "is_integer_between" s_is_integer_between a_is_integer_between fd_is_integer_between
  b_is_integer_between : Binds K fd_is_integer_between ["value", "least", "most"] []
  k_is_integer_between : PySem.W.keepIn K (.ref a_is_integer_between) = true
  m_is_integer_between : mg "is_integer_between" = some (.ref a_is_integer_between)
  a_is_stand : Addr
  fd_is_stand : FuncData
  F_is_stand : Fun K "_is_stand" "_is_stand" s_is_stand a_is_stand fd_is_stand
  b_is_stand : Binds K fd_is_stand ["stands", "value"] []
  k_is_stand : PySem.W.keepIn K (.ref a_is_stand) = true
  m_is_stand : mg "_is_stand" = some (.ref a_is_stand)
  a_check_stands : Addr
  fd_check_stands : FuncData
  F_check_stands : Fun K "_check_stands" "_check_stands" s_check_stands a_check_stands fd_check_stands
  b_check_stands : Binds K fd_check_stands ["stands"] []
  k_check_stands : PySem.W.keepIn K (.ref a_check_stands) = true
  m_check_stands : mg "_check_stands" = some (.ref a_check_stands)
  a_is_step : Addr
  fd_is_step : FuncData
  F_is_step : Fun K "_is_step" "_is_step" s_is_step a_is_step fd_is_step
  b_is_step : Binds K fd_is_step ["stands", "value"] []
  k_is_step : PySem.W.keepIn K (.ref a_is_step) = true
  m_is_step : mg "_is_step" = some (.ref a_is_step)
  a_check_steps : Addr
  fd_check_steps : FuncData
  F_check_steps : Fun K "_check_steps" "_check_steps" s_check_steps a_check_steps fd_check_steps
  b_check_steps : Binds K fd_check_steps ["stands", "steps"] []
  k_check_steps : PySem.W.keepIn K (.ref a_check_steps) = true
  m_check_steps : mg "check_steps_machines" = some (.ref a_check_steps)
  a_is_ascending : Addr
  fd_is_ascending : FuncData
  F_is_ascending : Fun K "is_ascending" "is_ascending" s_is_ascending a_is_ascending fd_is_ascending
  b_is_ascending : Binds K fd_is_ascending ["value", "many"] []
  k_is_ascending : PySem.W.keepIn K (.ref a_is_ascending) = true
  m_is_ascending : mg "is_ascending" = some (.ref a_is_ascending)
  a_check_ends : Addr
  fd_check_ends : FuncData
  F_check_ends : Fun K "_check_ends" "_check_ends" s_check_ends a_check_ends fd_check_ends
  b_check_ends : Binds K fd_check_ends ["stands", "ends"] []
  k_check_ends : PySem.W.keepIn K (.ref a_check_ends) = true
  m_check_ends : mg "_check_ends" = some (.ref a_check_ends)
  a_check_machine : Addr
  fd_check_machine : FuncData
  F_check_machine : Fun K "check_machine" "check_machine" s_check_machine a_check_machine fd_check_machine
  b_check_machine : Binds K fd_check_machine ["value"] []
  k_check_machine : PySem.W.keepIn K (.ref a_check_machine) = true
  m_check_machine : mg "check_machine" = some (.ref a_check_machine)
  a_is_row : Addr
  fd_is_row : FuncData
  F_is_row : Fun K "is_row" "is_row" s_is_row a_is_row fd_is_row
  b_is_row : Binds K fd_is_row ["machine", "value"] []
  k_is_row : PySem.W.keepIn K (.ref a_is_row) = true
  m_is_row : mg "is_row" = some (.ref a_is_row)
  a_behind : Addr
  fd_behind : FuncData
  F_behind : Fun K "behind" "behind" s_behind a_behind fd_behind
  b_behind : Binds K fd_behind ["machine", "row"] []
  k_behind : PySem.W.keepIn K (.ref a_behind) = true
  m_behind : mg "behind" = some (.ref a_behind)
  a_ends_well : Addr
  fd_ends_well : FuncData
  F_ends_well : Fun K "ends_well" "ends_well" s_ends_well a_ends_well fd_ends_well
  b_ends_well : Binds K fd_ends_well ["machine", "row"] []
  k_ends_well : PySem.W.keepIn K (.ref a_ends_well) = true
  m_ends_well : mg "ends_well" = some (.ref a_ends_well)
  a_reached : Addr
  fd_reached : FuncData
  F_reached : Fun K "reached" "reached" s_reached a_reached fd_reached
  b_reached : Binds K fd_reached ["machine"] []
  k_reached : PySem.W.keepIn K (.ref a_reached) = true
  m_reached : mg "reached" = some (.ref a_reached)
  a_tally_at : Addr
  fd_tally_at : FuncData
  F_tally_at : Fun K "_tally_at" "_tally_at" s_tally_at a_tally_at fd_tally_at
  b_tally_at : Binds K fd_tally_at ["machine", "stand", "sign"] []
  k_tally_at : PySem.W.keepIn K (.ref a_tally_at) = true
  m_tally_at : mg "_tally_at" = some (.ref a_tally_at)
  a_row_at : Addr
  fd_row_at : FuncData
  F_row_at : Fun K "_row_at" "_row_at" s_row_at a_row_at fd_row_at
  b_row_at : Binds K fd_row_at ["machine", "stand", "sign"] []
  k_row_at : PySem.W.keepIn K (.ref a_row_at) = true
  m_row_at : mg "_row_at" = some (.ref a_row_at)
  a_greatest_at : Addr
  fd_greatest_at : FuncData
  F_greatest_at : Fun K "greatest_at" "greatest_at" s_greatest_at a_greatest_at fd_greatest_at
  b_greatest_at : Binds K fd_greatest_at ["machine", "stand"] []
  k_greatest_at : PySem.W.keepIn K (.ref a_greatest_at) = true
  m_greatest_at : mg "greatest_at" = some (.ref a_greatest_at)
  a_least_at : Addr
  fd_least_at : FuncData
  F_least_at : Fun K "least_at" "least_at" s_least_at a_least_at fd_least_at
  b_least_at : Binds K fd_least_at ["machine", "stand"] []
  k_least_at : PySem.W.keepIn K (.ref a_least_at) = true
  m_least_at : mg "least_at" = some (.ref a_least_at)
  a_greatest_row : Addr
  fd_greatest_row : FuncData
  F_greatest_row : Fun K "greatest_row" "greatest_row" s_greatest_row a_greatest_row fd_greatest_row
  b_greatest_row : Binds K fd_greatest_row ["machine", "stand"] []
  k_greatest_row : PySem.W.keepIn K (.ref a_greatest_row) = true
  m_greatest_row : mg "greatest_row" = some (.ref a_greatest_row)
  a_least_row : Addr
  fd_least_row : FuncData
  F_least_row : Fun K "least_row" "least_row" s_least_row a_least_row fd_least_row
  b_least_row : Binds K fd_least_row ["machine", "stand"] []
  k_least_row : PySem.W.keepIn K (.ref a_least_row) = true
  m_least_row : mg "least_row" = some (.ref a_least_row)
  a_bounds : Addr
  fd_bounds : FuncData
  F_bounds : Fun K "bounds" "bounds" s_bounds a_bounds fd_bounds
  b_bounds : Binds K fd_bounds ["machine"] []
  k_bounds : PySem.W.keepIn K (.ref a_bounds) = true
  m_bounds : mg "bounds" = some (.ref a_bounds)
  a_end_bounds : Addr
  fd_end_bounds : FuncData
  F_end_bounds : Fun K "end_bounds" "end_bounds" s_end_bounds a_end_bounds fd_end_bounds
  b_end_bounds : Binds K fd_end_bounds ["machine"] []
  k_end_bounds : PySem.W.keepIn K (.ref a_end_bounds) = true
  m_end_bounds : mg "end_bounds" = some (.ref a_end_bounds)
  a_stays : Addr
  fd_stays : FuncData
  F_stays : Fun K "stays" "stays" s_stays a_stays fd_stays
  b_stays : Binds K fd_stays ["machine", "low", "high"] []
  k_stays : PySem.W.keepIn K (.ref a_stays) = true
  m_stays : mg "stays" = some (.ref a_stays)
  a_bar : Addr
  fd_bar : FuncData
  F_bar : Fun K "bar" "bar" s_bar a_bar fd_bar
  b_bar : Binds K fd_bar ["machine", "low", "high"] []
  k_bar : PySem.W.keepIn K (.ref a_bar) = true
  m_bar : mg "bar" = some (.ref a_bar)
  a_right_bar : Addr
  fd_right_bar : FuncData
  F_right_bar : Fun K "right_bar" "right_bar" s_right_bar a_right_bar fd_right_bar
  b_right_bar : Binds K fd_right_bar ["machine", "low", "high", "value"] []
  k_right_bar : PySem.W.keepIn K (.ref a_right_bar) = true
  m_right_bar : mg "right_bar" = some (.ref a_right_bar)
  a_paper : Addr
  fd_paper : FuncData
  F_paper : Fun K "paper" "paper" s_paper a_paper fd_paper
  b_paper : Binds K fd_paper ["machine", "low", "high"] []
  k_paper : PySem.W.keepIn K (.ref a_paper) = true
  m_paper : mg "paper" = some (.ref a_paper)
  a_right_paper : Addr
  fd_right_paper : FuncData
  F_right_paper : Fun K "right_paper" "right_paper" s_right_paper a_right_paper fd_right_paper
  b_right_paper : Binds K fd_right_paper ["machine", "low", "high", "value"] []
  k_right_paper : PySem.W.keepIn K (.ref a_right_paper) = true
  m_right_paper : mg "right_paper" = some (.ref a_right_paper)
  a_first_leaving : Addr
  fd_first_leaving : FuncData
  F_first_leaving : Fun K "first_leaving" "first_leaving" s_first_leaving a_first_leaving fd_first_leaving
  b_first_leaving : Binds K fd_first_leaving ["machine", "low", "high"] []
  k_first_leaving : PySem.W.keepIn K (.ref a_first_leaving) = true
  m_first_leaving : mg "first_leaving" = some (.ref a_first_leaving)
  a_tallies : Addr
  fd_tallies : FuncData
  F_tallies : Fun K "tallies" "tallies" s_tallies a_tallies fd_tallies
  b_tallies : Binds K fd_tallies ["machine", "length"] []
  k_tallies : PySem.W.keepIn K (.ref a_tallies) = true
  m_tallies : mg "tallies" = some (.ref a_tallies)
  a_count : Addr
  fd_count : FuncData
  F_count : Fun K "count" "count" s_count a_count fd_count
  b_count : Binds K fd_count ["machine", "length", "tally"] []
  k_count : PySem.W.keepIn K (.ref a_count) = true
  m_count : mg "count" = some (.ref a_count)
  a_count_staying : Addr
  fd_count_staying : FuncData
  F_count_staying : Fun K "count_staying" "count_staying" s_count_staying a_count_staying fd_count_staying
  b_count_staying : Binds K fd_count_staying ["machine", "length", "low", "high"] []
  k_count_staying : PySem.W.keepIn K (.ref a_count_staying) = true
  m_count_staying : mg "count_staying" = some (.ref a_count_staying)
  a_needed : Addr
  fd_needed : FuncData
  F_needed : Fun K "needed" "needed" s_needed a_needed fd_needed
  b_needed : Binds K fd_needed ["machine"] []
  k_needed : PySem.W.keepIn K (.ref a_needed) = true
  m_needed : mg "needed" = some (.ref a_needed)
  a_lasting : Addr
  fd_lasting : FuncData
  F_lasting : Fun K "lasting" "lasting" s_lasting a_lasting fd_lasting
  b_lasting : Binds K fd_lasting ["machine"] []
  k_lasting : PySem.W.keepIn K (.ref a_lasting) = true
  m_lasting : mg "lasting" = some (.ref a_lasting)
  a_credit : Addr
  fd_credit : FuncData
  F_credit : Fun K "credit" "credit" s_credit a_credit fd_credit
  b_credit : Binds K fd_credit ["machine"] []
  k_credit : PySem.W.keepIn K (.ref a_credit) = true
  m_credit : mg "credit" = some (.ref a_credit)
  a_right_lasting : Addr
  fd_right_lasting : FuncData
  F_right_lasting : Fun K "right_lasting" "right_lasting" s_right_lasting a_right_lasting fd_right_lasting
  b_right_lasting : Binds K fd_right_lasting ["machine", "value"] []
  k_right_lasting : PySem.W.keepIn K (.ref a_right_lasting) = true
  m_right_lasting : mg "right_lasting" = some (.ref a_right_lasting)
  a_greatest_mean : Addr
  fd_greatest_mean : FuncData
  F_greatest_mean : Fun K "greatest_mean" "greatest_mean" s_greatest_mean a_greatest_mean fd_greatest_mean
  b_greatest_mean : Binds K fd_greatest_mean ["machine"] []
  k_greatest_mean : PySem.W.keepIn K (.ref a_greatest_mean) = true
  m_greatest_mean : mg "greatest_mean" = some (.ref a_greatest_mean)
  a_least_mean : Addr
  fd_least_mean : FuncData
  F_least_mean : Fun K "least_mean" "least_mean" s_least_mean a_least_mean fd_least_mean
  b_least_mean : Binds K fd_least_mean ["machine"] []
  k_least_mean : PySem.W.keepIn K (.ref a_least_mean) = true
  m_least_mean : mg "least_mean" = some (.ref a_least_mean)
  a_mean_paper : Addr
  fd_mean_paper : FuncData
  F_mean_paper : Fun K "mean_paper" "mean_paper" s_mean_paper a_mean_paper fd_mean_paper
  b_mean_paper : Binds K fd_mean_paper ["machine"] []
  k_mean_paper : PySem.W.keepIn K (.ref a_mean_paper) = true
  m_mean_paper : mg "mean_paper" = some (.ref a_mean_paper)
  a_right_mean : Addr
  fd_right_mean : FuncData
  F_right_mean : Fun K "right_mean" "right_mean" s_right_mean a_right_mean fd_right_mean
  b_right_mean : Binds K fd_right_mean ["machine", "value"] []
  k_right_mean : PySem.W.keepIn K (.ref a_right_mean) = true
  m_right_mean : mg "right_mean" = some (.ref a_right_mean)
  a_mends : Addr
  fd_mends : FuncData
  F_mends : Fun K "mends" "mends" s_mends a_mends fd_mends
  b_mends : Binds K fd_mends ["machine"] []
  k_mends : PySem.W.keepIn K (.ref a_mends) = true
  m_mends : mg "mends" = some (.ref a_mends)
  a_mended : Addr
  fd_mended : FuncData
  F_mended : Fun K "mended" "mended" s_mended a_mended fd_mended
  b_mended : Binds K fd_mended ["machine", "some"] []
  k_mended : PySem.W.keepIn K (.ref a_mended) = true
  m_mended : mg "mended" = some (.ref a_mended)
  a_Meter_init : Addr
  fd_Meter_init : FuncData
  F_Meter_init : Fun K "__init__" "Meter.__init__" s_Meter_init a_Meter_init fd_Meter_init
  b_Meter_init : Binds K fd_Meter_init ["self", "machine"] []
  k_Meter_init : PySem.W.keepIn K (.ref a_Meter_init) = true
  a_difference : Addr
  fd_difference : FuncData
  F_difference : Fun K "difference" "difference" s_difference a_difference fd_difference
  b_difference : Binds K fd_difference ["one", "other"] []
  k_difference : PySem.W.keepIn K (.ref a_difference) = true
  m_difference : mg "difference" = some (.ref a_difference)
  a_in_step : Addr
  fd_in_step : FuncData
  F_in_step : Fun K "in_step" "in_step" s_in_step a_in_step fd_in_step
  b_in_step : Binds K fd_in_step ["one", "other", "most"] []
  k_in_step : PySem.W.keepIn K (.ref a_in_step) = true
  m_in_step : mg "in_step" = some (.ref a_in_step)
  a_first_apart : Addr
  fd_first_apart : FuncData
  F_first_apart : Fun K "first_apart" "first_apart" s_first_apart a_first_apart fd_first_apart
  b_first_apart : Binds K fd_first_apart ["one", "other"] []
  k_first_apart : PySem.W.keepIn K (.ref a_first_apart) = true
  m_first_apart : mg "first_apart" = some (.ref a_first_apart)
  a_write : Addr
  fd_write : FuncData
  F_write : Fun K "write" "write" s_write a_write fd_write
  b_write : Binds K fd_write ["machine"] []
  k_write : PySem.W.keepIn K (.ref a_write) = true
  m_write : mg "write" = some (.ref a_write)
  a_law_taken : Addr
  fd_law_taken : FuncData
  F_law_taken : Fun K "_law_taken" "_law_taken" s_law_taken a_law_taken fd_law_taken
  b_law_taken : Binds K fd_law_taken ["_law_row", "_law_many"] []
  k_law_taken : PySem.W.keepIn K (.ref a_law_taken) = true
  m_law_taken : mg "_law_taken" = some (.ref a_law_taken)
  a_law_odd : Addr
  fd_law_odd : FuncData
  F_law_odd : Fun K "_law_odd" "_law_odd" s_law_odd a_law_odd fd_law_odd
  b_law_odd : Binds K fd_law_odd ["_law_row"] []
  k_law_odd : PySem.W.keepIn K (.ref a_law_odd) = true
  m_law_odd : mg "_law_odd" = some (.ref a_law_odd)
  a_law_call : Addr
  fd_law_call : FuncData
  F_law_call : Fun K "_law_call" "_law_call" s_law_call a_law_call fd_law_call
  b_law_call : Binds K fd_law_call ["_law_kind", "_law_value"] []
  k_law_call : PySem.W.keepIn K (.ref a_law_call) = true
  m_law_call : mg "_law_call" = some (.ref a_law_call)
  a_law : Addr
  fd_law : FuncData
  F_law : Fun K "law" "law" s_law a_law fd_law
  b_law : Binds K fd_law ["_law_script"] []
  k_law : PySem.W.keepIn K (.ref a_law) = true
  m_law : mg "law" = some (.ref a_law)
  c_Machine : Addr
  cl_Machine : Cls K c_Machine
  m_Machine : mg "Machine" = some (.ref c_Machine)
  mk_Machine : Mk K c_Machine a_Machine_init
  n__stands : NoAttr K c_Machine "_stands"
  n__steps : NoAttr K c_Machine "_steps"
  n__ends : NoAttr K c_Machine "_ends"
  i1_Machine : PySem.W.findIn K (.ref c_Machine) "__class__" = some (some (.builtin "object.__class__"))
  i2_Machine : PySem.W.specialIn K (.builtin "object.__class__") "__get__" = some (some (.builtin "getset_descriptor.__get__"))
  i3_Machine : PySem.W.takesIn K (.builtin "object.__class__") = some true
  i4_Machine : PySem.W.mroIn K c_Machine (.type "object") = some true
  j1_Machine : PySem.W.isClsIn K c_Machine = true
  j2_Machine : PySem.W.typeIn K (.ref c_Machine) = some (.type "type")
  c_Meter : Addr
  cl_Meter : Cls K c_Meter
  m_Meter : mg "Meter" = some (.ref c_Meter)
  mk_Meter : Mk K c_Meter a_Meter_init
  c_BadMachine : Addr
  m_BadMachine : mg "BadMachine" = some (.ref c_BadMachine)
  x_BadMachine : PySem.W.excIn K c_BadMachine [.type "ValueError", .type "Exception", .type "BaseException", .type "object"] "ValueError.__new__" = true
  k_BadMachine : PySem.W.keepIn K (.ref c_BadMachine) = true
  b_BadMachine : PySem.W.subIn K (.ref c_BadMachine) (.type "BaseException") = some true
  t_BadMachine : PySem.W.typeIn K (.ref c_BadMachine) = some (.type "type")
  e_BadMachine : PySem.W.exmOne K (.ref c_BadMachine) (.ref c_BadMachine) = some true
  u_MOST_STANDS : Value
  m_MOST_STANDS : mg "MOST_STANDS" = some u_MOST_STANDS
  r_MOST_STANDS : RelV (V.int 8) u_MOST_STANDS
  u_MOST_GAIN : Value
  m_MOST_GAIN : mg "MOST_GAIN" = some u_MOST_GAIN
  r_MOST_GAIN : RelV (V.int 1000000000000000000000000000000) u_MOST_GAIN
  a_LETTERS : Addr
  m_LETTERS : mg "LETTERS" = some (.ref a_LETTERS)
  r_LETTERS : RelV (V.ref a_LETTERS) (.ref a_LETTERS)
  s_LETTERS : ∀ H : Hp, SqT K H a_LETTERS [V.str "a", V.str "b", V.str "c", V.str "d"]
  z_bool : mg "bool" = none
  z_enumerate : mg "enumerate" = none
  z_int : mg "int" = none
  z_isinstance : mg "isinstance" = none
  z_len : mg "len" = none
  z_list : mg "list" = none
  z_range : mg "range" = none
  z_str : mg "str" = none
  z_tuple : mg "tuple" = none
  bs_law : ∀ (s : Shared) (v : Value), BindsTo s fd_law ⟨[v], []⟩ [("_law_script", v)]
/-! ### heaps -/
/-- all but a stands as it was -/
def Keep (a : Addr) (H H' : Hp) : Prop := ∀ b o, b ≠ a → H b = some o → H' b = some o
theorem Keep.refl (a : Addr) (H : Hp) : Keep a H H := fun _ _ _ h => h
theorem Keep.trans {a : Addr} {H H1 H2 : Hp} (x : Keep a H H1) (y : Keep a H1 H2) : Keep a H H2 := fun b o n h => y b o n (x b o n h)
theorem Keep.at_ {a : Addr} {H : Hp} {o : HO} : Keep a H (upd H a o) := fun b u n h => by rw [upd_ne n]; exact h
theorem Keep.new {a p : Addr} {H : Hp} {o : HO} (hp : H p = none) : Keep a H (upd H p o) := fun b u _ h => by rw [upd_ne (ne_of_none h hp)]; exact h
theorem Keep.of_same {a : Addr} {H H' : Hp} (x : Same H H') : Keep a H H' := fun b o _ h => x b o h
theorem Same.new {p : Addr} {H : Hp} {o : HO} (hp : H p = none) : Same H (upd H p o) := fun b u h => by rw [upd_ne (ne_of_none h hp)]; exact h
theorem Keep.free {a p : Addr} {H H' : Hp} (x : Keep a H H') (n : p ≠ a) (h : H' p = none) : H p = none := by
  cases q : H p with
  | none => rfl
  | some o => rw [x p o n q] at h; cases h
/-- what H does not know may change -/
theorem Keep.mut {a p : Addr} {H H' : Hp} {o : HO} (x : Keep a H H') (hp : H p = none) : Keep a H (upd H' p o) := fun b u n h => by rw [upd_ne (ne_of_none h hp)]; exact x b u n h
theorem Keep.tup {K : PySem.W.Frag} {a b : Addr} {H H' : Hp} {xs : List V} (x : Keep a H H') (ha : ∃ l, H a = some (.lst l)) (h : SqT K H b xs) : SqT K H' b xs := by
  obtain ⟨l, ha⟩ := ha
  rcases h with (h | ⟨o, h⟩) | h
  · exact .inl (.inl (x _ _ (fun e => by rw [e, ha] at h; cases h) h))
  · exact .inl (.inr ⟨o, x _ _ (fun e => by rw [e, ha] at h; cases h) h⟩)
  · exact .inr h
theorem Keep.lst {K : PySem.W.Frag} {a b : Addr} {H H' : Hp} {xs : List V} (x : Keep a H H') (n : b ≠ a) (h : SqL K H b xs) : SqL K H' b xs := by
  rcases h with (h | ⟨o, h⟩) | h
  · exact .inl (.inl (x _ _ n h))
  · exact .inl (.inr ⟨o, x _ _ n h⟩)
  · exact .inr h
/-- the script: known to the object, or of the written part -/
def ScAt (K : PySem.W.Frag) (H : Hp) (b : Addr) (xs : List V) : Prop := (∃ o, H b = some (.frz o (.lst xs))) ∨ ∀ H', SqL K H' b xs
theorem ScAt.sq {K : PySem.W.Frag} {H : Hp} {b : Addr} {xs : List V} (h : ScAt K H b xs) : SqL K H b xs := by
  rcases h with ⟨o, h⟩ | h
  · exact .inl (.inr ⟨o, h⟩)
  · exact h H
theorem ScAt.keep {K : PySem.W.Frag} {a b : Addr} {H H' : Hp} {xs l : List V} (h : ScAt K H b xs) (k : Keep a H H') (ha : H a = some (.lst l)) : ScAt K H' b xs := by
  rcases h with ⟨o, h⟩ | h
  · exact .inl ⟨o, k _ _ (fun z => by rw [z, ha] at h; cases h) h⟩
  · exact .inr h
theorem ScAt.same {K : PySem.W.Frag} {b : Addr} {H H' : Hp} {xs : List V} (h : ScAt K H b xs) (k : Same H H') : ScAt K H' b xs := by
  rcases h with ⟨o, h⟩ | h
  · exact .inl ⟨o, k _ _ h⟩
  · exact .inr h
/-- the draws' row at a: the script, how many were read, the mixed number, the rest -/
def RowOk (K : PySem.W.Frag) (H : Hp) (a : Addr) : Prop := ∃ (sc : Addr) (ns : List Int) (i z r : Int), H a = some (.lst [.ref sc, .int i, .int z, .int r]) ∧ ScAt K H sc (ns.map V.int) ∧ ns.length ≤ 63 ∧ 0 ≤ i ∧ 0 ≤ z ∧ z < 2147483647
theorem RowOk.lst {K : PySem.W.Frag} {H : Hp} {a : Addr} (h : RowOk K H a) : ∃ l, H a = some (.lst l) := by
  obtain ⟨_, _, _, _, _, e, _⟩ := h; exact ⟨_, e⟩
/-- behind a step that leaves the row and the script as they were -/
theorem RowOk.same {K : PySem.W.Frag} {H H' : Hp} {a : Addr} (h : RowOk K H a) (s : Same H H') : RowOk K H' a := by
  obtain ⟨sc, ns, i, z, r, e, q, rest⟩ := h
  exact ⟨sc, ns, i, z, r, s _ _ e, q.same s, rest⟩
theorem RowOk.keep {K : PySem.W.Frag} {H H' : Hp} {a l : Addr} {xs : List V} (h : RowOk K H a) (n : a ≠ l) (e : H l = some (.lst xs)) (k : Keep l H H') : RowOk K H' a := by
  obtain ⟨sc, is, i, z, r, ea, q, rest⟩ := h
  exact ⟨sc, is, i, z, r, k _ _ n ea, q.keep k e, rest⟩
theorem RowOk.ne {K : PySem.W.Frag} {H : Hp} {a p : Addr} (h : RowOk K H a) (e : H p = none) : a ≠ p := by
  obtain ⟨l, q⟩ := h.lst
  exact ne_of_none q e
theorem tupl_upd {H : Hp} {F x : Addr} {o : HO} {ys : List V} (hF : ∀ xs, H F ≠ some (.tup xs)) (h : H x = some (.tup ys)) : (upd H F o) x = some (.tup ys) := by
  rw [upd_ne (fun e => hF ys (by rw [← e]; exact h))]
  exact h
theorem free_of {H H' : Hp} {q : Addr} (z : Same H H') (hq : H' q = none) : H q = none := by
  cases e : H q with
  | none => rfl
  | some ob => rw [z _ _ e] at hq; cases hq
theorem unlock_same {H2 H' : Hp} {e : Addr} {od : _} {kvs : List (Key × V)} (he : H2 e = some (.dK kvs)) (z : Same (upd H2 e (.frz od (.dK kvs))) H') : Same H2 (upd H' e (.dK kvs)) := fun b o eb => by
  by_cases c : b = e
  · rw [c, he] at eb
    rw [c, upd_same]
    exact eb
  · rw [upd_ne c]
    exact z _ _ (by rw [upd_ne c]; exact eb)
/-! ### steps: one a combinator -/
section
variable {K : PySem.W.Frag} {σ : L2.St} {H : Hp} {D : Ends} {Q : VK}
theorem k_seq {t u : TS} (h : t { D with nx := u D } σ H) : tSeq t u D σ H := h
theorem k_ifS {c : TT} {t u : TS} (h : c σ H fun b H1 => if b = true then t D σ H1 else u D σ H1) : tIfS c t u D σ H := h
theorem k_asg {te : TE} {g : TG} (h : te σ H fun x H1 => g x σ H1 D.nx) : tAsg te g D σ H := h
theorem k_ret {te : TE} (h : te σ H D.rt) : tRet te D σ H := h
theorem k_retN (h : D.rt .non H) : tRetN D σ H := h
theorem k_next (h : D.nx σ H) : tNext D σ H := h
theorem k_cont (h : D.ct σ H) : tCont D σ H := h
theorem k_break (h : D.bk σ H) : tBreak D σ H := h
theorem k_drop {te : TE} (h : te σ H fun _ H1 => D.nx σ H1) : tDrop te D σ H := h
theorem k_par {i j : Nat} {ta : TA} (h : ta σ H fun vs H1 => ∃ v w, vs = [v, w] ∧ D.nx ((σ.set i (some v)).set j (some w)) H1) : tPar i j ta D σ H := h
theorem k_two {p : V → V → Prop} {a b : V} (h : p a b) : ∃ v w, [a, b] = [v, w] ∧ p v w := ⟨a, b, rfl, h⟩
theorem k_var {i : Nat} {v : V} (e : σ[i]? = some (some v)) (h : Q v H) : tVar i σ H Q := ⟨v, e, h⟩
theorem k_c {v : V} (h : Q v H) : tC v σ H Q := h
theorem k_op {r : R2} {ta tb : TE} (h : ta σ H fun x H1 => tb σ H1 fun y H2 => r x y H2 Q) : tOp r ta tb σ H Q := h
theorem k_un {r : V → Hp → VK → Prop} {ta : TE} (h : ta σ H fun x H1 => r x H1 Q) : tUn r ta σ H Q := h
theorem k_cb {r : List V → Hp → VK → Prop} {t : TA} (h : t σ H fun vs H1 => r vs H1 Q) : tCB r t σ H Q := h
theorem k_cons {ta : TE} {tr : TA} {R : List V → Hp → Prop} (h : ta σ H fun x H1 => tr σ H1 fun xs H2 => R (x :: xs) H2) : tCons ta tr σ H R := h
theorem k_nil {R : List V → Hp → Prop} (h : R [] H) : tNil σ H R := h
theorem k_call {sp : Sp} {dvs : List V} {E : XK} {t : TA} (h : t σ H fun vs H1 => sp (vs ++ dvs) H1 Q E) : tCall sp dvs E t σ H Q := h
theorem k_make {C : Addr} {sp : Sp} {dvs : List V} {E : XK} {t : TA} (h : t σ H fun vs H1 => ∀ x dx, H1 x = none → H1 dx = none → dx ≠ x →
  sp (.ref x :: (vs ++ dvs)) (upd (upd H1 dx (.own x)) x (.ins C dx [])) (fun v H2 => v = .non ∧ Q (.ref x) H2) E) : tMake C sp dvs E t σ H Q := h
theorem k_test {t : TE} {R : Bool → Hp → Prop} (h : t σ H fun x H' => ∃ k, x = .bl k ∧ R k H') : tTest t σ H R := h
theorem k_tB {t : TE} {R : Bool → Hp → Prop} (h : t σ H fun x H' => ∃ k, x = .bl k ∧ R k H') : tB t σ H R := h
theorem k_bl {b : Bool} {R : Bool → Prop} (h : R b) : ∃ k, V.bl b = .bl k ∧ R k := ⟨b, rfl, h⟩
theorem k_and {t u : TT} {R : Bool → Hp → Prop} (h : t σ H fun c H1 => if c = true then u σ H1 R else R false H1) : tAnd t u σ H R := h
theorem k_or {t u : TT} {R : Bool → Hp → Prop} (h : t σ H fun c H1 => if c = true then R true H1 else u σ H1 R) : tOr t u σ H R := h
theorem k_not {t : TT} {R : Bool → Hp → Prop} (h : t σ H fun c H1 => R (!c) H1) : tNot t σ H R := h
theorem k_andV {ta tb : TE} (h : ta σ H fun x H1 => ∃ c, x = .bl c ∧ if c = true then tb σ H1 Q else Q (.bl false) H1) : tAndV ta tb σ H Q := h
theorem k_orV {ta tb : TE} (h : ta σ H fun x H1 => ∃ c, x = .bl c ∧ if c = true then Q (.bl true) H1 else tb σ H1 Q) : tOrV ta tb σ H Q := h
theorem k_notV {ta : TE} (h : ta σ H fun x H1 => ∃ c, x = .bl c ∧ Q (.bl (!c)) H1) : tNotV ta σ H Q := h
theorem k_ifE {t : TT} {ta tb : TE} (h : t σ H fun c H1 => if c = true then ta σ H1 Q else tb σ H1 Q) : tIf t ta tb σ H Q := h
theorem k_isN {ta : TE} (h : ta σ H fun x H1 => Q (.bl (decide (x = .non))) H1) : tIsN ta σ H Q := h
theorem k_notN {ta : TE} (h : ta σ H fun x H1 => Q (.bl (!decide (x = .non))) H1) : tNotN ta σ H Q := h
theorem k_name {i : Nat} {v : V} {R : L2.St → Hp → Prop} (h : R (σ.set i (some v)) H) : gName i v σ H R := h
theorem k_sub {to ti : TE} {t : TSet} {v : V} {R : L2.St → Hp → Prop} (h : to σ H fun o H1 => ti σ H1 fun i H2 => t o i v H2 fun H3 => R σ H3) : gSub to ti t v σ H R := h
theorem k_gt {n : Nat} {t : TGs} {R : L2.St → Hp → Prop} {a : Addr} {xs : List V} (h : SqT K H a xs) (e : xs.length = n) (q : t xs σ H R) : gTup K n t (.ref a) σ H R := ⟨a, xs, rfl, h, e, q⟩
theorem k_gn {R : L2.St → Hp → Prop} (h : R σ H) : gNil [] σ H R := ⟨rfl, h⟩
theorem k_gc {t : TG} {u : TGs} {v : V} {vs : List V} {R : L2.St → Hp → Prop} (h : t v σ H fun σ' H' => u vs σ' H' R) : gCons t u (v :: vs) σ H R := ⟨v, vs, rfl, h⟩
theorem k_I0 {g : Int → Int → V} {i j : Int} (h : Q (g i j) H) : rI0 g (.int i) (.int j) H Q := ⟨i, j, rfl, rfl, h⟩
theorem k_I {C : Int → Int → Prop} {g : Int → Int → V} {i j : Int} (c : C i j) (h : Q (g i j) H) : rI C g (.int i) (.int j) H Q := ⟨i, j, rfl, rfl, c, h⟩
theorem k_U {g : Int → V} {i : Int} (h : Q (g i) H) : rU g (.int i) H Q := ⟨i, rfl, h⟩
theorem k_eq {x y : V} (e : scal x y = true) (h : Q (.bl (decide (x = y))) H) : rEq x y H Q := ⟨e, h⟩
theorem k_ne {x y : V} (e : scal x y = true) (h : Q (.bl (!decide (x = y))) H) : rNe x y H Q := ⟨e, h⟩
theorem k_ixL {p : Addr} {xs : List V} {i : Int} {v : V} (h : SqL K H p xs) (e : atI xs i = some v) (q : Q v H) : rIxL K (.ref p) (.int i) H Q := ⟨p, xs, i, v, rfl, rfl, h, e, q⟩
theorem k_ixT {p : Addr} {xs : List V} {i : Int} {v : V} (h : SqT K H p xs) (e : atI xs i = some v) (q : Q v H) : rIxT K (.ref p) (.int i) H Q := ⟨p, xs, i, v, rfl, rfl, h, e, q⟩
theorem k_setL {p : Addr} {xs : List V} {k : Int} {j : Nat} {v : V} {R : Hp → Prop} (h : H p = some (.lst xs)) (e : ixN xs.length k = some j) (q : R (upd H p (.lst (xs.set j v)))) : rSetL (.ref p) (.int k) v H R := ⟨p, xs, k, j, rfl, rfl, h, e, q⟩
theorem k_tup {t : TA} (h : t σ H fun xs H1 => xs.length ≤ sizeLine ∧ ∀ p, H1 p = none → Q (.ref p) (upd H1 p (.tup xs))) : tTup t σ H Q := h
theorem k_lst {t : TA} (h : t σ H fun xs H1 => xs.length ≤ sizeLine ∧ ∀ p, H1 p = none → Q (.ref p) (upd H1 p (.lst xs))) : tLst t σ H Q := h
theorem k_bm {T : String} {r : V → List V → Hp → VK → Prop} {to : TE} {t : TA} (h : to σ H fun x H1 => tyV K T x H1 ∧ t σ H1 fun xs H2 => r x xs H2 Q) : tBM K T r to t σ H Q := h
theorem k_append {l : Addr} {xs : List V} {y : V} (h : H l = some (.lst xs)) (e : xs.length < sizeLine) (q : Q .non (upd H l (.lst (xs ++ [y])))) : rAppend (.ref l) [y] H Q := ⟨l, xs, y, rfl, rfl, h, e, q⟩
theorem k_dget {td ty : TE} (h : td σ H fun x H1 => ty σ H1 fun y H2 => ∃ a v, x = .ref a ∧ DGet H2 a y (some v) ∧ Q v H2) : tDGet td ty σ H Q := h
theorem k_dg {a : Addr} {y v : V} (h : DGet H a y (some v)) (q : Q v H) : ∃ b u, V.ref a = .ref b ∧ DGet H b y (some u) ∧ Q u H := ⟨a, v, rfl, h, q⟩
theorem k_fld {ta : TE} {f : Str} (h : ta σ H fun x H1 => ∃ a C dx fs v, x = .ref a ∧ H1 a = some (.ins C dx fs) ∧ Cls K C ∧ NoAttr K C f ∧ fs.lookup f = some v ∧ Q v H1) : tFld K ta f σ H Q := h
theorem k_sl {r : V → Option Int → Option Int → Hp → VK → Prop} {te : TE} {tl th : TO} (h : te σ H fun x H1 => tl σ H1 fun l H2 => th σ H2 fun u H3 => r x l u H3 Q) : L2.tSl r te tl th σ H Q := h
theorem k_noPart {R : Option Int → Hp → Prop} (h : R none H) : tNoPart σ H R := h
theorem k_part {t : TE} {R : Option Int → Hp → Prop} (h : t σ H fun x H1 => ∃ i, x = .int i ∧ R (some i) H1) : tPart t σ H R := h
theorem k_int {i : Int} {R : Int → Prop} (h : R i) : ∃ k, V.int i = .int k ∧ R k := ⟨i, rfl, h⟩
theorem k_int1 {i : Int} {R : Int → Prop} {R' : Bool → Prop} (h : R i) : (∃ j, [V.int i] = [V.int j] ∧ R j) ∨ (∃ k, [V.int i] = [V.bl k] ∧ R' k) := .inl ⟨i, rfl, h⟩
theorem k_len {a : Addr} {ys : List V} {R : List V → Prop} (h : SqL K H a ys ∨ SqT K H a ys) (q : R ys) : ∃ p xs, [V.ref a] = [V.ref p] ∧ (SqL K H p xs ∨ SqT K H p xs) ∧ R xs := ⟨a, ys, rfl, h, q⟩
theorem k_disp {trs : List (TE × TE)} (h : ∀ p, H p = none → tPairs trs σ (upd H p (.dK [])) fun ps H2 => H2 p = some (.dK []) ∧ ∃ kvs : List (Key × V), ps = kvs.map (fun kv => (kV kv.1, kv.2)) ∧ kvs.length ≤ 15 ∧ Q (.ref p) (upd H2 p (.dK (mergeK [] kvs)))) : tDisp trs σ H Q := h
theorem k_cut {t u : TS} (M : L2.St → Hp → Prop) (h : t { D with nx := M } σ H) (k : ∀ σ' H', M σ' H' → u D σ' H') : C8.tCut t u D σ H := ⟨M, h, k⟩
theorem k_rng1 {ta : TA} {R : It → Hp → Prop} (h : ta σ H fun vs H1 => ∃ j : Int, vs = [.int j] ∧ -(2 ^ 62) ≤ j ∧ j < 2 ^ 62 ∧ R (Itr 0 j.toNat) H1) : iRng1 ta σ H R := h
theorem k_rg {j : Int} {R : Int → Prop} (h1 : 0 ≤ j) (h2 : j < 2 ^ 62) (q : R j) : ∃ i : Int, [V.int j] = [V.int i] ∧ -(2 ^ 62) ≤ i ∧ i < 2 ^ 62 ∧ R i := ⟨j, rfl, by omega, h2, q⟩
theorem k_for {wi : TI} {g : TG} {tb : TS} (h : wi σ H fun J H1 => ∃ W : Nat → Nat → L2.St → Hp → Prop, (∃ m, W 0 m σ H1) ∧ ∀ i m σ H, W i m σ H →
  (J.stop i H ∧ D.nx σ H) ∨ (J.go i H ∧ ∃ N : L2.St → Hp → Prop, (∀ σ' H', N σ' H' → ∃ m', m' < m ∧ W (i + 1) m' σ' H') ∧ ∀ x H', J.yld i H x H' → g x σ H' fun σ2 H2 => tb { D with nx := N, ct := N, bk := D.nx } σ2 H2)) : tFor wi g tb D σ H := h
theorem k_lc {wi : TI} {g : TG} {tt : TT} {te : TE} {vs : List Nat} (h : wi σ H fun J H1 => ∀ D, H1 D = none → ∃ W : Nat → Nat → Hp → Prop, (∃ m, W 0 m (upd H1 D (.lst []))) ∧ ∀ i m H, W i m H →
  (J.stop i H ∧ Q (.ref D) H) ∨ (J.go i H ∧ ∃ Nx : Hp → Prop, (∀ H', Nx H' → ∃ m', m' < m ∧ W (i + 1) m' H') ∧ ∀ x H', J.yld i H x H' → g x (wipe σ vs) H' fun σ2 H2 => wipe σ2 vs = wipe σ vs ∧ tt σ2 H2 fun b H3 =>
    if b = true then te σ2 H3 fun y H4 => ∃ acc, H4 D = some (.lst acc) ∧ acc.length < sizeLine ∧ Nx (upd H4 D (.lst (acc ++ [y]))) else Nx H3)) : tLc wi g tt te vs σ H Q := h
theorem k_yesT {R : Bool → Hp → Prop} (h : R true H) : tYes σ H R := h
theorem k_str {te : TE} {R : It → Hp → Prop} (h : te σ H fun v H1 => ∃ x, v = .str x ∧ R (Its x) H1) : iStr te σ H R := h
theorem k_slS {z : Str} {lo hi : Option Int} (e : z.length ≤ sizeLine) (q : Q (.str (cutS z lo hi)) H) : rSlS (.str z) lo hi H Q := ⟨z, rfl, e, q⟩
theorem k_prs {tk tv : TE} {r : List (TE × TE)} {R : List (V × V) → Hp → Prop} (h : tk σ H fun x H1 => tv σ H1 fun y H2 => tPairs r σ H2 fun ps H3 => R ((x, y) :: ps) H3) : tPairs ((tk, tv) :: r) σ H R := h
theorem k_prn {R : List (V × V) → Hp → Prop} (h : R [] H) : tPairs [] σ H R := h
theorem k_aug {i : Nat} {te : TE} {ti : TIp} {x : V} (e : σ[i]? = some (some x)) (h : te σ H fun y H1 => ti x y H1 fun z H2 => D.nx (σ.set i (some z)) H2) : tAug i te ti D σ H := ⟨x, e, h⟩
theorem k_ipI {f : Int → Int → Int} {i j : Int} (h : Q (.int (f i j)) H) : ipI f (.int i) (.int j) H Q := ⟨i, j, rfl, rfl, h⟩
theorem k_din {ty td : TE} (h : ty σ H fun y H1 => td σ H1 fun x H2 => ∃ a o, x = .ref a ∧ DGet H2 a y o ∧ Q (.bl o.isSome) H2) : tDIn ty td σ H Q := h
theorem k_dnotin {ty td : TE} (h : ty σ H fun y H1 => td σ H1 fun x H2 => ∃ a o, x = .ref a ∧ DGet H2 a y o ∧ Q (.bl (!o.isSome)) H2) : tDNotIn ty td σ H Q := h
theorem k_dput {td ty tv : TE} (h : tv σ H fun v H1 => td σ H1 fun x H2 => ty σ H2 fun y H3 => ∃ a H4, x = .ref a ∧ DPut H3 a y v H4 ∧ D.nx σ H4) : sDPut td ty tv D σ H := h
theorem k_prop {C : Addr} {sp : Sp} {dvs : List V} {E : XK} {ta : TE} (h : ta σ H fun x H1 => ∃ a dx fs, x = .ref a ∧ H1 a = some (.ins C dx fs) ∧ sp (.ref a :: dvs) H1 Q E) : tProp C sp dvs E ta σ H Q := h
theorem k_itup {tl : TE} {R : It → Hp → Prop} (h : tl σ H fun x H1 => ∃ a, x = .ref a ∧ (∃ xs, SqT K H1 a xs) ∧ R (Itt K a) H1) : iTup K tl σ H R := h
theorem k_ilst {tl : TE} {R : It → Hp → Prop} (h : tl σ H fun x H1 => ∃ a, x = .ref a ∧ (∃ xs, SqL K H1 a xs) ∧ R (Itl K a) H1) : iList K tl σ H R := h
theorem k_bm0 {T : String} {r : V → List V → Hp → VK → Prop} {to : TE} (h : to σ H fun x H1 => tyV K T x H1 ∧ r x [] H1 Q) : tBM0 K T r to σ H Q := h
theorem k_dc {wi : TI} {g : TG} {tt : TT} {tk tv : TE} {vs : List Nat} (h : wi σ H fun J H1 => ∀ D, H1 D = none → ∃ W : Nat → Nat → Hp → Prop, (∃ m, W 0 m (upd H1 D (.dK []))) ∧ ∀ i m H, W i m H →
  (J.stop i H ∧ Q (.ref D) H) ∨ (J.go i H ∧ ∃ Nx : Hp → Prop, (∀ H', Nx H' → ∃ m', m' < m ∧ W (i + 1) m' H') ∧ ∀ x H', J.yld i H x H' → g x (wipe σ vs) H' fun σ2 H2 => wipe σ2 vs = wipe σ vs ∧ tt σ2 H2 fun b H3 =>
    if b = true then tk σ2 H3 fun y H4 => tv σ2 H4 fun z H5 => ∃ kvs k, y = kV k ∧ H5 D = some (.dK kvs) ∧ kvs.length < sizeLine ∧ Nx (upd H5 D (.dK (putK kvs k z))) else Nx H3)) : tDc wi g tt tk tv vs σ H Q := h
theorem k_whl {c : TT} {tb : TS} (W : Nat → L2.St → Hp → Prop) (h0 : ∃ m, W m σ H) (h : ∀ m σ H, W m σ H → c σ H fun b H1 => if b = true then tb { D with nx := fun σ' H' => ∃ m', m' < m ∧ W m' σ' H', ct := fun σ' H' => ∃ m', m' < m ∧ W m' σ' H', bk := D.nx } σ H1 else D.nx σ H1)
    (mono : ∀ σ H (R R' : Bool → Hp → Prop), (∀ b H1, R b H1 → R' b H1) → c σ H R → c σ H R') : tWhile c tb D σ H := by
  refine ⟨W, h0, fun m σ H w => mono _ _ _ _ (fun b H1 q => ?_) (h m σ H w)⟩
  cases b with
  | false => exact q
  | true => exact ⟨_, fun _ _ z => z, q⟩
theorem k_ite {p A B : Prop} [Decidable p] (h1 : p → A) (h2 : ¬ p → B) : if decide p = true then A else B := by
  by_cases h : p
  · rw [decide_eq_true h]; exact iteT (h1 h)
  · rw [decide_eq_false h]; exact iteF (h2 h)
theorem k_iteN {p A B : Prop} [Decidable p] (h1 : p → B) (h2 : ¬ p → A) : if (!decide p) = true then A else B := by
  by_cases h : p
  · rw [decide_eq_true h]; exact iteF (h1 h)
  · rw [decide_eq_false h]; exact iteT (h2 h)
theorem k_yes {c : Bool} {A B : Prop} (e : c = true) (h : A) : if c = true then A else B := by rw [e]; exact iteT h
theorem k_no {c : Bool} {A B : Prop} (e : c = false) (h : B) : if c = true then A else B := by rw [e]; exact iteF h
theorem k_bool {c : Bool} {A B : Prop} (h1 : c = true → A) (h2 : c = false → B) : if c = true then A else B := by cases c; exact iteF (h2 rfl); exact iteT (h1 rfl)
end
section
variable {K : PySem.W.Frag} {σ : L2.St} {H : Hp} {D : Ends} {Q : VK}
theorem k_par3 {i j l : Nat} {ta : TA} (h : ta σ H fun vs H1 => ∃ u v w, vs = [u, v, w] ∧ D.nx (((σ.set i (some u)).set j (some v)).set l (some w)) H1) : tPar3 i j l ta D σ H := h
theorem k_three {p : V → V → V → Prop} {a b c : V} (h : p a b c) : ∃ u v w, [a, b, c] = [u, v, w] ∧ p u v w := ⟨a, b, c, rfl, h⟩
theorem k_neD {x y : V} {d e : PyData} (h1 : Dp K H x d) (h2 : Dp K H y e) (s1 : SeqAt.shaped d = true) (s2 : SeqAt.shaped e = true) (q : Q (.bl (!PyData.eqv d e)) H) : rNeD K x y H Q := ⟨d, e, h1, h2, s1, s2, q⟩
theorem k_eqD {x y : V} {d e : PyData} (h1 : Dp K H x d) (h2 : Dp K H y e) (s1 : SeqAt.shaped d = true) (s2 : SeqAt.shaped e = true) (q : Q (.bl (PyData.eqv d e)) H) : rEqD K x y H Q := ⟨d, e, h1, h2, s1, s2, q⟩
theorem k_lenS {z : Str} {R : Int → Prop} (h : z.length ≤ sizeLine) (q : R z.length) : ∃ y : Str, [V.str z] = [V.str y] ∧ y.length ≤ sizeLine ∧ R y.length := ⟨z, rfl, h, q⟩
end
local macro_rules | `(tactic| walk_at "st") => `(tactic| first
  | ((with_reducible show tVar _ _ _ _); refine k_var rfl ?_)
  | (with_reducible first
    | refine k_c ?_ | refine k_op ?_ | refine k_I0 ?_ | refine k_seq ?_ | refine k_asg ?_ | refine k_name ?_ | refine k_cons ?_ | refine k_nil ?_ | refine k_cb ?_
    | refine k_ret ?_ | refine k_ifS ?_ | refine k_test ?_ | refine k_tB ?_ | refine k_bl ?_ | refine k_call ?_ | refine k_make ?_ | refine k_par3 ?_ | refine k_three ?_ | refine k_ipI ?_ | refine k_din ?_ | refine k_dnotin ?_ | refine k_dput ?_ | refine k_prop ?_ | refine k_itup ?_ | refine k_ilst ?_ | refine k_bm0 ?_ | refine k_dc ?_ | refine k_prs ?_ | refine k_prn ?_ | refine k_lc ?_ | refine k_yesT ?_ | refine k_str ?_ | refine k_disp ?_ | refine k_for ?_ | refine k_rng1 ?_ | refine k_drop ?_ | refine k_next ?_ | refine k_sub ?_ | refine k_un ?_ | refine k_U ?_
    | refine k_par ?_ | refine k_two ?_ | refine k_and ?_ | refine k_or ?_ | refine k_not ?_ | refine k_andV ?_ | refine k_orV ?_ | refine k_notV ?_ | refine k_ifE ?_ | refine k_isN ?_ | refine k_notN ?_
    | refine k_gn ?_ | refine k_gc ?_ | refine k_tup ?_ | refine k_lst ?_ | refine k_bm ?_ | refine k_dget ?_ | refine k_fld ?_ | refine k_sl ?_ | refine k_noPart ?_ | refine k_part ?_ | refine k_int ?_
    | refine k_int1 ?_ | refine k_retN ?_ | refine k_cont ?_ | refine k_break ?_)
  | ((with_reducible show rIxL _ _ _ _ _); refine k_ixL (SqL.of (by first | assumption | exact upd_same)) rfl ?_)
  | ((with_reducible show rSetL _ _ _ _ _); refine k_setL (by first | assumption | exact upd_same) rfl ?_)
  | ((with_reducible show tAug _ _ _ _ _ _); refine k_aug rfl ?_)
  | ((with_reducible show rEq _ _ _ _); refine k_eq rfl ?_)
  | ((with_reducible show rNe _ _ _ _); refine k_ne rfl ?_))
local macro_rules | `(tactic| walk_at "go") => `(tactic| repeat (walk_at "st"))
local macro_rules | `(tactic| walk_at "begin") => `(tactic| ((try dsimp only [cxOf]); simp only [L2.start, List.map_cons, List.map_nil, List.length_cons, List.length_nil, Nat.reduceAdd, Nat.reduceSub, List.replicate_succ, List.replicate_zero, List.cons_append, List.nil_append]))
/-! ### a draw: any number below the most -/
def sp_taken (K : PySem.W.Frag) : Sp := fun vs H Q _ => ∃ (a : Addr) (m : Int), vs = [.ref a, .int m] ∧ 0 < m ∧ m.natAbs < 2 ^ 8000 ∧ RowOk K H a ∧
  ∀ (x : Int) (H' : Hp), 0 ≤ x → x < m → RowOk K H' a → Keep a H H' → Q (.int x) H'
section
variable {P : Program} {w : World} {K : PySem.W.Frag} {mg : Str → Option Value} {base : Heap}
theorem ok_law_taken (T : Txt K mg) : FnOk P w K mg base (L2.CX P w) 1 T.a_law_taken T.fd_law_taken ["_law_row", "_law_many"] (sp_taken K) := by
  refine T.F_law_taken.okX sc_law_taken (fun vs H Q E h => ?_) (fun cdv A outer s H vs Q E hr h => ?_)
  · obtain ⟨a, m, rfl, _⟩ := h
    rfl
  · obtain ⟨a, m, rfl, m0, mb, ⟨sc, ns, i, z, r, ea, hs, hn, i0, z0, z1⟩, k⟩ := h
    refine ⟨_, (PSs.nox (pss_cons (ps_if (pt_cmpR op_gt (pe_ix ix_list (pv 0) pe_int (fun _ _ => rfl)) pe_int (nomark _))
  (pss_cons (ps_set (i := 2) sc_law_taken.nd rfl (Or.inl rfl) (pe_op op_mod (pe_callTy call_int1 (by rfl) T.z_int PySem.Pv.boot_int (pa_cons (pe_ix ix_list (pv 0) pe_int (fun _ _ => rfl)) pa_nil)) (pv 1)))
  (pss_cons (ps_asg (pe_op op_fdivW (pe_ix ix_list (pv 0) pe_int (fun _ _ => rfl)) (pv 1)) (pg_sub (pv 0) pe_int set_list))
  (pss_one (ps_ret (pv 2)))))
  pss_nil)
  (pss_cons (ps_asg (pe_op op_add (pe_ix ix_list (pv 0) pe_int (fun _ _ => rfl)) pe_int) (pg_sub (pv 0) pe_int set_list))
  (pss_cons (ps_if (pt_cmpR op_gt (pe_ix ix_list (pv 0) pe_int (fun _ _ => rfl)) (pe_callB call_len_seq (by rfl) T.z_len PySem.boot_len (pa_cons (pe_ix ix_list (pv 0) pe_int (fun _ _ => rfl)) pa_nil)) (nomark _))
  (pss_cons (ps_asg (pe_op op_mod (pe_callTy call_int1 (by rfl) T.z_int PySem.Pv.boot_int (pa_cons (pe_op op_add (pe_op op_mulW (pe_ix ix_list (pv 0) pe_int (fun _ _ => rfl)) pe_int) pe_int) pa_nil)) pe_int) (pg_sub (pv 0) pe_int set_list))
  (pss_one (ps_ret (pe_op op_mod (pe_callTy call_int1 (by rfl) T.z_int PySem.Pv.boot_int (pa_cons (pe_op op_fdivW (pe_ix ix_list (pv 0) pe_int (fun _ _ => rfl)) pe_int) pa_nil)) (pv 1)))))
  pss_nil)
  (pss_cons (ps_set (i := 3) sc_law_taken.nd rfl (Or.inl rfl) (pe_ix ix_list (pe_ix ix_list (pv 0) pe_int (fun _ _ => rfl)) (pe_op op_sub (pe_ix ix_list (pv 0) pe_int (fun _ _ => rfl)) pe_int) (fun _ _ => rfl)))
  (pss_cons (ps_asg (pe_op op_mod (pe_callTy call_int1 (by rfl) T.z_int PySem.Pv.boot_int (pa_cons (pe_op op_add (pe_op op_add (pe_op op_mulW (pe_ix ix_list (pv 0) pe_int (fun _ _ => rfl)) pe_int) (pv 3)) pe_int) pa_nil)) pe_int) (pg_sub (pv 0) pe_int set_list))
  (pss_cons (ps_if (pt_cmpR op_ge (pv 3) (pe_op op_pow pe_int pe_int) (nomark _))
  (pss_one (ps_asg (pe_op op_fdivW (pv 3) (pv 1)) (pg_sub (pv 0) pe_int set_list)))
  pss_nil)
  (pss_one (ps_ret (pe_op op_mod (pe_callTy call_int1 (by rfl) T.z_int PySem.Pv.boot_int (pa_cons (pv 3) pa_nil)) (pv 1))))))))))), ?_⟩
    walk_at "begin"
    walk_at "go"
    have CD : CDivW r m := wide_div m0 mb (by decide) (by decide)
    have CZ : CMulW z 48271 := wide_mul (a := 31) (b := 16) (by omega) (by decide) (by decide) (by decide) (by decide)
    refine k_ite (fun c => ?_) (fun c => ?_)
    · walk_at "go"
      refine k_I m0 ?_
      walk_at "go"
      refine k_I CD ?_
      walk_at "go"
      exact k _ _ (Int.emod_nonneg _ (by omega)) (Int.emod_lt_of_pos _ m0) ⟨sc, ns, i, z, r / m, upd_same, hs.keep Keep.at_ ea, hn, i0, z0, z1⟩ Keep.at_
    · walk_at "go"
      have K1 : Keep a H (upd H a (HO.lst ([V.ref sc, V.int i, V.int z, V.int r].set (Int.toNat 1) (V.int (i + 1))))) := Keep.at_
      refine k_len (.inl (hs.keep K1 ea).sq) ?_
      walk_at "go"
      have zn : ∀ q : Int, 0 ≤ q % 2147483647 ∧ q % 2147483647 < 2147483647 := fun q => ⟨Int.emod_nonneg _ (by decide), Int.emod_lt_of_pos _ (by decide)⟩
      have mn : ∀ q : Int, 0 ≤ q % m ∧ q % m < m := fun q => ⟨Int.emod_nonneg _ (by omega), Int.emod_lt_of_pos _ m0⟩
      refine k_ite (fun c1 => ?_) (fun c1 => ?_)
      · walk_at "go"
        refine k_I CZ ?_
        walk_at "go"
        refine k_I (by decide) ?_
        walk_at "go"
        refine k_I (wide_div (b := 3) (by decide) (by decide) (by decide) (by decide)) ?_
        walk_at "go"
        refine k_I m0 ?_
        exact k _ _ (mn _).1 (mn _).2 ⟨sc, ns, i + 1, _, r, upd_same, (hs.keep K1 ea).keep Keep.at_ upd_same, hn, by omega, (zn _).1, (zn _).2⟩ (K1.trans Keep.at_)
      · walk_at "go"
        rw [List.length_map] at c1
        have hl : (i + 1 - 1).toNat < ns.length := by omega
        refine k_ixL (hs.keep K1 ea).sq (v := V.int (ns[(i + 1 - 1).toNat]'hl)) (at_of (j := (i + 1 - 1).toNat) (by omega) (by rw [List.getElem?_map, List.getElem?_eq_getElem hl]; rfl)) ?_
        generalize ns[(i + 1 - 1).toNat]'hl = cell
        walk_at "go"
        refine k_I CZ ?_
        walk_at "go"
        refine k_I (by decide) ?_
        walk_at "go"
        refine k_I (by exact ⟨by decide, by decide, by decide⟩) ?_
        walk_at "go"
        refine k_ite (fun c2 => ?_) (fun c2 => ?_)
        · walk_at "go"
          refine k_I (wide_div m0 mb (by decide) (by decide)) ?_
          walk_at "go"
          refine k_I m0 ?_
          exact k _ _ (mn _).1 (mn _).2 ⟨sc, ns, i + 1, _, _, upd_same, ((hs.keep K1 ea).keep Keep.at_ upd_same).keep Keep.at_ upd_same, hn, by omega, (zn _).1, (zn _).2⟩ ((K1.trans Keep.at_).trans Keep.at_)
        · walk_at "go"
          refine k_I m0 ?_
          exact k _ _ (mn _).1 (mn _).2 ⟨sc, ns, i + 1, _, _, upd_same, (hs.keep K1 ea).keep Keep.at_ upd_same, hn, by omega, (zn _).1, (zn _).2⟩ (K1.trans Keep.at_)
end
/-! ### enumerate over a tuple -/
section
open Builtin
theorem meets_enumT (t : Addr) (its : Array Value) : Meets (Builtin.«enumerate.__new__» ⟨[.type "enumerate", .ref t], []⟩) (fun _ R st => st.heap.IsTuple t its ∧
    R (.ok (.ret (.ref (st.heap.objs.size + 1)))) { st with heap := (st.heap.push { cls := .type "tuple_iterator", data := .fields #[.ref t, .int 0 0] }).push { cls := .type "enumerate", data := .fields #[.none, .bool false, .ref st.heap.objs.size, rawInt 0, .none, .none] } }) := by
  refine Meets.of_wp fun prog w A R st hh => ?_
  rcases st with ⟨h0, g0, d0, t0, o0⟩
  obtain ⟨isT, q⟩ := hh
  have sub := sub_enumerate
  have L : Heap.IsTuple (Shared.heap ⟨h0, g0, d0, t0, o0⟩) t its := isT
  obtain ⟨ob, e0, c0, n0, dt0⟩ := L
  have z : (Heap.push h0 { cls := .type "tuple_iterator", data := .fields #[.ref t, .int 0 0] }).objs.size = h0.objs.size + 1 := Heap.size_push ..
  have q' := q
  rw [← z] at q'
  wp_walk using PySem.wpAny_pyIter_tuple isT
  refine wpAny_stack_any fun fr => wpAny_pure ?_
  split
  · rename_i cc _ _ _ _ _
    cases (cc == Value.type "enumerate")
    · wp_walk using PySem.wpAny_pyIter_tuple isT
      exact ⟨_, rfl, q'⟩
    · wp_walk using PySem.wpAny_pyIter_tuple isT
      exact ⟨_, rfl, q'⟩
  · wp_walk using PySem.wpAny_pyIter_tuple isT
    exact ⟨_, rfl, q'⟩
end
section
variable {prog : Program} {w : World} {A : Around} {E : Value → Shared → Prop} {s : Shared}
theorem call_enumT {t : Addr} {its : Array Value} {Q : Value → Shared → Prop} (isT : s.heap.IsTuple t its)
    (k : ∀ h', IsEnum h' (s.heap.objs.size + 1) s.heap.objs.size 0 .none → h'.IsTupleIter s.heap.objs.size t 0 → (∀ b o, s.heap.get? b = some o → h'.get? b = some o) →
      Q (.ref (s.heap.objs.size + 1)) { s with heap := h' }) : wpAny (model prog w) A (call (.type "enumerate") [.ref t]) Q E s := by
  have m := meets_enumT t its
  refine callType_new F.called_enumerate (by decide) (F.typeCall_enumerate_1 _) (F.newCall_enumerate_1 _) (fun o => F.args_object_init_2 o _) F.entry_enumerate_new m ⟨isT, ?_⟩
  have z : (Heap.push s.heap { cls := .type "tuple_iterator", data := .fields #[.ref t, .int 0 0] }).objs.size = s.heap.objs.size + 1 := Heap.size_push ..
  have g := Heap.get?_push_size (Heap.push s.heap { cls := .type "tuple_iterator", data := .fields #[.ref t, .int 0 0] })
    (o := { cls := .type "enumerate", data := .fields #[.none, .bool false, .ref s.heap.objs.size, rawInt 0, .none, .none] }) rfl
  rw [z] at g
  exact ⟨⟨_, g, rfl⟩, k _ g ⟨_, Heap.get?_push_of_some _ (Heap.get?_push_size _ rfl), rfl, rfl⟩ fun b o x => Heap.get?_push_of_some _ (Heap.get?_push_of_some _ x)⟩
end
/-- the i-th pair is new: its place and the tuple's item -/
def Iet (K : PySem.W.Frag) (a : Addr) : It :=
  ⟨fun i H => ∃ (xs : List V) (x : V), SqT K H a xs ∧ xs[i]? = some x,
   fun i H v H' => ∃ p x, v = .ref p ∧ H p = none ∧ H' = upd H p (.tup [.int (i : Nat), x]) ∧ ∀ xs, SqT K H a xs → xs[i]? = some x,
   fun i H => ∃ xs : List V, SqT K H a xs ∧ xs.length ≤ i⟩
theorem turn_enumT {P : Program} {w : World} {K : PySem.W.Frag} {es : List Expr} {c : Nat} {tp : Pos} (a e it : Addr) :
    Turn P w K (.Tuple es c tp) (Iet K a) [e, it] e (fun i h => (∃ old, IsEnum h e it ((i : Nat) : Int) old) ∧ h.IsTupleIter it a i ∧ e ≠ it) := by
  have two : ∀ b, b ∈ [e, it] → b = e ∨ b = it := fun b hb => by simpa using hb
  constructor
  case mem => simp
  case obj =>
    rintro i h ⟨⟨old, he⟩, ⟨o, ho, hc, hd⟩, _⟩ b hb
    rcases two b hb with rfl | rfl
    · exact ⟨_, he, fun v q => nomatch q⟩
    · exact ⟨o, ho, fun v q => by rw [hd] at q; cases q⟩
  case keep =>
    rintro i h h' ⟨⟨old, he⟩, hi, ne⟩ k
    exact ⟨⟨old, k e (by simp) _ he⟩, hi.at fun o q => k it (by simp) o q, ne⟩
  case item =>
    rintro X rfl rfl rfl hC i pins s σ H E I hf ⟨⟨old, he⟩, hit, ne⟩ ⟨xs, x, hq, hx⟩
    obtain ⟨its, rv, p, hz⟩ := I.tuple hq
    obtain ⟨u, hu, ru⟩ := rv.get hx
    have le : e < s.heap.objs.size := Heap.lt_size he
    have li : it < s.heap.objs.size := by obtain ⟨_, q, _⟩ := hit; exact Heap.lt_size q
    have pt : s.heap.IsTuple a its.toArray := p
    have na : a ≠ it := fun z => by
      obtain ⟨o1, q1, c1, _⟩ := hit
      obtain ⟨o2, q2, c2, _⟩ := pt
      rw [z, q1] at q2
      cases q2
      rw [c1] at c2
      exact absurd c2 (by simp)
    have nb : e ≠ a := fun z => by
      obtain ⟨o2, q2, c2, _⟩ := pt
      have q3 : s.heap.get? e = _ := he
      rw [z, q2] at q3
      cases q3
      exact absurd c2 (by simp)
    have Dr := Draws.tuple (prog := X.prog) (w := X.w) (A := X.A.in1) (I.ok.hd hC) it a na its.toArray
    refine wpAny_pyNext_enum_itemD (i := i) Dr he ⟨hit, pt⟩ (by simpa using (List.getElem?_eq_some_iff.mp hu).1) ne (by simp [ne, nb]) fun x' h' tk px ho st hT hsz hk => ?_
    have ex : x' = u := by
      have q : its.toArray[i]? = some x' := px
      rw [List.getElem?_toArray, hu] at q
      exact (Option.some.inj q).symm
    subst ex
    refine ⟨_, rfl, wpAny_letOwnedTupleGo_enum (s := { s with heap := h', toks := tk + 1 }) ho fun h2 he2 sb => ?_⟩
    have hT2 : h2.get? s.heap.objs.size = some { cls := .type "tuple", data := .seq #[.int i tk, x'] } := (sb.2 _ (Nat.ne_of_gt le)).trans hT
    have new : ObjOk X.prog X.w (upd H s.heap.objs.size (.tup [.int (i : Nat), x])) h2 s.heap.objs.size (.tup [.int (i : Nat), x]) :=
      ⟨(by decide : 2 ≤ sizeLine), [.int i tk, x'], .cons ⟨_, rfl⟩ (.cons ru .nil), ⟨_, hT2, rfl, _, rfl⟩⟩
    have I1 : Inv X pins σ (upd H s.heap.objs.size (.tup [.int (i : Nat), x])) { s with heap := h2, toks := tk + 1 } :=
      I.turnedNew (ch := [e, it]) (fun b ob hb q => (sb.2 b (fun z => hb (by simp [z]))).trans (hk b ob (fun z => hb (by simp [z])) (fun z => hb (by simp [z])) q)) hf (Nat.le_refl _) new
    refine ⟨.ref s.heap.objs.size, _, I1, rfl, ⟨_, x, rfl, I.hok.fresh (Nat.le_refl _), rfl, fun ys hy => ?_⟩, ⟨⟨x', ?_⟩, ?_, ne⟩, fun b hb => ?_⟩
    · rw [I.tuple_inj hy hq]; exact hx
    · have e1 : ((i + 1 : Nat) : Int) = (i : Int) + 1 := by omega
      rw [e1]; exact he2
    · exact st.1.at fun o q => (sb.2 it (Ne.symm ne)).trans q
    · have lb : b < s.heap.objs.size := by rcases two b hb with rfl | rfl <;> assumption
      rw [upd_ne (Nat.ne_of_lt lb)]
      exact (hf b hb).1
  case done =>
    rintro X rfl rfl rfl hC i pins s σ H E I hf ⟨⟨old, he⟩, hit, ne⟩ ⟨xs, hq, hx⟩
    obtain ⟨its, rv, p, hz⟩ := I.tuple hq
    have pt : s.heap.IsTuple a its.toArray := p
    have na : a ≠ it := fun z => by
      obtain ⟨o1, q1, c1, _⟩ := hit
      obtain ⟨o2, q2, c2, _⟩ := pt
      rw [z, q1] at q2
      cases q2
      rw [c1] at c2
      exact absurd c2 (by simp)
    have out : its.toArray[i]? = none := by
      have hl := rv.length
      rw [List.getElem?_toArray]
      exact List.getElem?_eq_none (by omega)
    have Dr : Draws X.prog X.w X.A.in1 it [it, a] i (fun _ _ => True) (fun j h => j = i ∧ h.IsTupleIter it a j ∧ h.IsTuple a its.toArray) :=
      { live := fun j h st => by obtain ⟨_, ⟨o, ho, _⟩, _⟩ := st; exact ⟨o, ho⟩
        frame := fun j h h' st hk => ⟨st.1, st.2.1.at fun o e => hk it (by simp) o e, st.2.2.at fun o e => hk a (by simp) o e⟩
        item := fun j s Q E hj st hQ => absurd st.1 (Nat.ne_of_lt hj)
        done := fun s Q E st hE => wpAny_nextOf_tuple_end (A := X.A.in1) (I.ok.hd hC) st.2.1 st.2.2 out hE }
    obtain ⟨f0, f1, f2, f3, f4, f5⟩ := hf it (by simp)
    exact wpAny_pyNext_enum_endD Dr he ⟨rfl, hit, pt⟩ fun h' eb => ⟨rfl, I.turned (t' := s.toks) (fun b o hb q => eb b o hb q) f0 f1 f3 f4 f5⟩
  case self =>
    rintro A i s Q E ⟨⟨_, he⟩, _⟩ h
    exact wpAny_pyIter_enum he h
def iEnumT (K : PySem.W.Frag) (ta : TA) : TI := fun σ H R => ta σ H fun vs H1 => ∃ a xs, vs = [.ref a] ∧ SqT K H1 a xs ∧ R (Iet K a) H1
theorem pi_enumT {X : Cx} {e : Expr} {ta : TA} {p pos tpos : Pos} {es : List Expr} {c : Nat} (hg : Gl X "enumerate") (hm : X.mg "enumerate" = none) (ha : PA X [e] ta)
    (hs : starEach [e] X.env = [(false, eval e X.env)] := by rfl) : PI X (.Tuple es c tpos) (.Call (.Name "enumerate" p) [e] [] pos) (iEnumT X.K ta) := by
  constructor
  intro pins s σ H R I h
  refine PyProof.Rows.Call_ (ld_blt I hg hm (show bootBuiltins "enumerate" = some (.type "enumerate") by decide +kernel) (PyProof.Rows.callWith_type1 (thn (ha.run pos pins s σ H _ I h) ?_) hs rfl))
  rintro us s1 ⟨vs, H1, I1, r1, a, xs, rfl, hq, q⟩
  obtain ⟨u, rfl, ru⟩ := vals1 r1
  cases ru
  obtain ⟨its, rv, p', hz⟩ := I1.tuple hq
  have pt : s1.heap.IsTuple a its.toArray := p'
  refine call_enumT pt fun h' he hit hk => wpAny_pyIter_enum he ?_
  have I2 : Inv X pins σ H1 { s1 with heap := h' } := I1.kept (t' := s1.toks) hk
  refine ⟨s1.heap.objs.size + 1, [s1.heap.objs.size + 1, s1.heap.objs.size], _, _, H1, rfl, I2, turn_enumT a (s1.heap.objs.size + 1) s1.heap.objs.size, ⟨⟨.none, he⟩, hit, Nat.succ_ne_self _⟩, fun b hb => ?_, q⟩
  have lb : s1.heap.objs.size ≤ b := by
    have two : b = s1.heap.objs.size + 1 ∨ b = s1.heap.objs.size := by simpa using hb
    rcases two with rfl | rfl
    · exact Nat.le_succ _
    · exact Nat.le_refl _
  exact I1.fpOk lb (I1.hok.fresh lb)
/-- over a tuple that stands still, the place and the item in a new pair -/
theorem for_enumT {K : PySem.W.Frag} {a : Addr} {xs : List V} {g : TG} {tb : TS} {D : Ends} {σ : L2.St} {H : Hp} (Pv : Nat → L2.St → Hp → Prop) (h0 : Pv 0 σ H) (hl : ∀ i σ H, i ≤ xs.length → Pv i σ H → SqT K H a xs)
    (hs : ∀ i x p σ H, xs[i]? = some x → Pv i σ H → H p = none → g (.ref p) σ (upd H p (.tup [.int (i : Nat), x])) fun σ2 H2 => tb { D with nx := Pv (i + 1), ct := Pv (i + 1), bk := D.nx } σ2 H2) (hd : ∀ σ H, Pv xs.length σ H → D.nx σ H) :
    ∃ W : Nat → Nat → L2.St → Hp → Prop, (∃ m, W 0 m σ H) ∧ ∀ i m σ H, W i m σ H → ((Iet K a).stop i H ∧ D.nx σ H) ∨
      ((Iet K a).go i H ∧ ∃ N : L2.St → Hp → Prop, (∀ σ' H', N σ' H' → ∃ m', m' < m ∧ W (i + 1) m' σ' H') ∧ ∀ x H', (Iet K a).yld i H x H' → g x σ H' fun σ2 H2 => tb { D with nx := N, ct := N, bk := D.nx } σ2 H2) := by
  refine ⟨fun i m σ H => m + i = xs.length ∧ Pv i σ H, ⟨xs.length, by simp, h0⟩, fun i m σ H ⟨em, hP⟩ => ?_⟩
  have sq := hl i σ H (by omega) hP
  by_cases c : i < xs.length
  · refine .inr ⟨⟨xs, xs[i], sq, List.getElem?_eq_getElem c⟩, Pv (i + 1), fun σ' H' z => ⟨m - 1, by omega, by omega, z⟩, ?_⟩
    rintro v H' ⟨p, x, rfl, hp, rfl, hx⟩
    exact hs i x p σ H (hx xs sq) hP hp
  · have e : i = xs.length := by omega
    exact .inl ⟨⟨xs, sq, by omega⟩, hd σ H (e ▸ hP)⟩
/-! ### machines as data -/
structure Stp where
  b : Nat
  c : Nat
  e : Nat
  g : Int
structure MD where
  n : Nat
  ss : List Stp
  es : List Nat
def stpV (s : Stp) : List V := [.int (s.b : Nat), .str ⟨#[s.c]⟩, .int (s.e : Nat), .int s.g]
structure Stp.Ok (n : Nat) (s : Stp) : Prop where
  b : s.b < n
  c : 97 ≤ s.c
  c' : s.c ≤ 100
  e : s.e < n
  g : -(10 ^ 30) ≤ s.g
  g' : s.g ≤ 10 ^ 30
def Stp.lt (s t : Stp) : Prop := s.b < t.b ∨ (s.b = t.b ∧ s.c < t.c)
structure MD.Ok (m : MD) : Prop where
  n1 : 1 ≤ m.n
  n8 : m.n ≤ 8
  ok : ∀ s ∈ m.ss, s.Ok m.n
  up : m.ss.Pairwise Stp.lt
  len : m.ss.length ≤ 32
  eb : ∀ e ∈ m.es, e < m.n
  eu : m.es.Pairwise (· < ·)
  el : m.es.length ≤ 8
/-- steps alone, whatever the number of stands -/
structure StOk (N : Nat) (s : Stp) : Prop where
  b : s.b < N
  c : 97 ≤ s.c
  c' : s.c ≤ 100
  e : s.e < N
  g : -(10 ^ 32) ≤ s.g
  g' : s.g ≤ 10 ^ 32
structure SsOk (N : Nat) (ss : List Stp) : Prop where
  n1 : 1 ≤ N
  n64 : N ≤ 63
  ok : ∀ s ∈ ss, StOk N s
  len : ss.length ≤ 300
theorem MD.Ok.sok {m : MD} (o : m.Ok) : SsOk m.n m.ss := ⟨o.n1, by have := o.n8; omega, fun s h => let k := o.ok s h; ⟨k.b, k.c, k.c', k.e, by have := k.g; omega, by have := k.g'; omega⟩, by have := o.len; omega⟩
/-- the steps' tuples -/
def StpsAt (K : PySem.W.Frag) (H : Hp) (vs : List V) (ss : List Stp) : Prop := vs.length = ss.length ∧ ∀ (i : Nat) (s : Stp), ss[i]? = some s → ∃ p, vs[i]? = some (V.ref p) ∧ SqT K H p (stpV s)
def nats (es : List Nat) : List V := es.map fun e => V.int (e : Nat)
def StAt (K : PySem.W.Frag) (H : Hp) (t : Addr) (ss : List Stp) : Prop := ∃ us, SqT K H t us ∧ StpsAt K H us ss
/-- steps and ends as they stand -/
def PartsAt (K : PySem.W.Frag) (H : Hp) (t u : Addr) (m : MD) : Prop := (∃ vs, SqT K H t vs ∧ StpsAt K H vs m.ss) ∧ SqT K H u (nats m.es)
def DAt (K : PySem.W.Frag) (H : Hp) (d : Addr) (m : MD) : Prop := ∃ t u, H d = some (.dK [(.inr "stands", .int (m.n : Nat)), (.inr "steps", .ref t), (.inr "ends", .ref u)]) ∧ PartsAt K H t u m
def mfs (n : Nat) (t u : Addr) : List (Str × V) := [("_stands", .int (n : Nat)), ("_steps", .ref t), ("_ends", .ref u)]
def MAt (K : PySem.W.Frag) (C : Addr) (H : Hp) (x : Addr) (m : MD) : Prop := ∃ dx t u, H x = some (.ins C dx (mfs m.n t u)) ∧ PartsAt K H t u m
section
variable {K : PySem.W.Frag} {a : Addr} {H H' : Hp}
/-- tuples stay -/
def Tups (H H' : Hp) : Prop := (∀ b xs, H b = some (.tup xs) → H' b = some (.tup xs)) ∧ ∀ b o xs, H b = some (.frz o (.tup xs)) → H' b = some (.frz o (.tup xs))
theorem Tups.trans {H H1 H2 : Hp} (a : Tups H H1) (b : Tups H1 H2) : Tups H H2 := ⟨fun c xs e => b.1 c xs (a.1 c xs e), fun c o xs e => b.2 c o xs (a.2 c o xs e)⟩
theorem Tups.sq {p : Addr} {xs : List V} (k : Tups H H') (h : SqT K H p xs) : SqT K H' p xs := by
  rcases h with (h | ⟨o, h⟩) | h
  · exact .inl (.inl (k.1 _ _ h))
  · exact .inl (.inr ⟨o, k.2 _ _ _ h⟩)
  · exact .inr h
theorem Tups.steps {vs : List V} {ss : List Stp} (k : Tups H H') (h : StpsAt K H vs ss) : StpsAt K H' vs ss := ⟨h.1, fun i s e => let ⟨p, e1, q⟩ := h.2 i s e; ⟨p, e1, k.sq q⟩⟩
theorem Tups.stAt {t : Addr} {ss : List Stp} (k : Tups H H') (h : StAt K H t ss) : StAt K H' t ss := let ⟨us, q, z⟩ := h; ⟨us, k.sq q, k.steps z⟩
theorem Tups.parts {t u : Addr} {m : MD} (k : Tups H H') (h : PartsAt K H t u m) : PartsAt K H' t u m := let ⟨⟨vs, q, z⟩, r⟩ := h; ⟨⟨vs, k.sq q, k.steps z⟩, k.sq r⟩
theorem same_tups (k : Same H H') : Tups H H' := ⟨fun _ _ e => k _ _ e, fun _ _ _ e => k _ _ e⟩
theorem Keep.tups {l : List V} (k : Keep a H H') (ha : H a = some (.lst l)) : Tups H H' := ⟨fun b _ e => k _ _ (fun z => by rw [z, ha] at e; cases e) e, fun b _ _ e => k _ _ (fun z => by rw [z, ha] at e; cases e) e⟩
theorem Tups.new {p : Addr} {o : HO} (h : H p = none) : Tups H (upd H p o) := same_tups (Same.new h)
theorem Tups.lst {p : Addr} {xs : List V} {o : HO} (h : H p = some (.lst xs)) : Tups H (upd H p o) := Keep.tups (Keep.at_) h
theorem DAt.keep {d : Addr} {m : MD} {l : List V} (h : DAt K H d m) (k : Keep a H H') (ha : H a = some (.lst l)) : DAt K H' d m :=
  let ⟨t, u, e, q⟩ := h; ⟨t, u, k _ _ (fun z => by rw [z, ha] at e; cases e) e, (k.tups ha).parts q⟩
theorem MAt.keep {C x : Addr} {m : MD} {l : List V} (h : MAt K C H x m) (k : Keep a H H') (ha : H a = some (.lst l)) : MAt K C H' x m :=
  let ⟨dx, t, u, e, q⟩ := h; ⟨dx, t, u, k _ _ (fun z => by rw [z, ha] at e; cases e) e, (k.tups ha).parts q⟩
theorem DAt.same {d : Addr} {m : MD} (h : DAt K H d m) (k : Same H H') : DAt K H' d m := let ⟨t, u, e, q⟩ := h; ⟨t, u, k _ _ e, (same_tups k).parts q⟩
theorem MAt.same {C x : Addr} {m : MD} (h : MAt K C H x m) (k : Same H H') : MAt K C H' x m := let ⟨dx, t, u, e, q⟩ := h; ⟨dx, t, u, k _ _ e, (same_tups k).parts q⟩
theorem StpsAt.snoc {vs : List V} {ss : List Stp} {p : Addr} {s : Stp} (h : StpsAt K H vs ss) (q : SqT K H p (stpV s)) : StpsAt K H (vs ++ [V.ref p]) (ss ++ [s]) := by
  refine ⟨by rw [List.length_append, List.length_append, h.1]; rfl, fun i t e => ?_⟩
  by_cases c : i < ss.length
  · rw [List.getElem?_append_left c] at e
    obtain ⟨r, e1, q1⟩ := h.2 i t e
    exact ⟨r, by rw [List.getElem?_append_left (by rw [h.1]; exact c)]; exact e1, q1⟩
  · rw [List.getElem?_append_right (by omega)] at e
    have z : i - ss.length = 0 := by
      have := (List.getElem?_eq_some_iff.mp e).1
      simp at this
      omega
    rw [z] at e
    cases e
    exact ⟨p, by rw [List.getElem?_append_right (by rw [h.1]; omega), h.1, z]; rfl, q⟩
end
/-! ### what a machine checks -/
def NotInt (K : PySem.W.Frag) (H : Hp) (v : V) : Prop := (∃ b, v = .bl b) ∨ ∃ t, TyX K H v t ∧ PySem.W.kitOne K t (.type "int") = some false
theorem k_isi {K : PySem.W.Frag} {H : Hp} {Q : VK} {x c : V} {t u : Value} {b : Bool} (hc : ClsV c u) (ht : TyX K H x t) (hk : PySem.W.kitOne K t u = some b) (h : Q (.bl b) H) : rIsi K [x, c] H Q := ⟨x, c, t, u, b, rfl, hc, ht, hk, h⟩
theorem k_chain {r r' : R2} {ta tb tc : TE} {σ : L2.St} {H : Hp} {Q : VK} (h : ta σ H fun x H1 => tb σ H1 fun y H2 => r x y H2 fun z H3 => ∃ k, z = .bl k ∧
  (if k = true then tc σ H3 fun w' H4 => r' y w' H4 Q else Q (.bl false) H3)) : tChain r r' ta tb tc σ H Q := h
def sp_whole (K : PySem.W.Frag) : Sp := fun vs H Q _ => ∃ v : V, vs = [v] ∧ ((∃ i, v = .int i ∧ Q (.bl true) H) ∨ (NotInt K H v ∧ Q (.bl false) H))
def sp_between (K : PySem.W.Frag) : Sp := fun vs H Q _ => ∃ (v : V) (lo hi : Int), vs = [v, .int lo, .int hi] ∧ ((∃ i, v = .int i ∧ Q (.bl (decide (lo ≤ i ∧ i ≤ hi))) H) ∨ (NotInt K H v ∧ Q (.bl false) H))
def sp_is_stand (K : PySem.W.Frag) : Sp := fun vs H Q _ => ∃ (v : V) (n : Int), vs = [.int n, v] ∧ ((∃ i, v = .int i ∧ Q (.bl (decide (0 ≤ i ∧ i < n))) H) ∨ (NotInt K H v ∧ Q (.bl false) H))
def sp_check_stands (K : PySem.W.Frag) : Sp := fun vs H Q _ => ∃ n : Int, vs = [.int n] ∧ 1 ≤ n ∧ n ≤ 8 ∧ Q .non H
section
variable {P : Program} {w : World} {K : PySem.W.Frag} {mg : Str → Option Value} {base : Heap}
theorem ok_is_whole_number (T : Txt K mg) : FnOk P w K mg base (L2.CX P w) 1 T.a_is_whole_number T.fd_is_whole_number ["value"] (sp_whole K) := by
  refine T.F_is_whole_number.okX sc_is_whole_number (fun vs H Q E h => ?_) (fun cdv A outer s H vs Q E hr h => ?_)
  · obtain ⟨v, rfl, _⟩ := h
    rfl
  · obtain ⟨v, rfl, k⟩ := h
    refine ⟨_, (PSs.nox (pss_one (ps_ret (pe_and (pe_callB call_isi (by rfl) T.z_isinstance (by decide +kernel) (pa_cons (pv 0) (pa_cons (pe_bltn (v := .ty "int") (by rfl) T.z_int (by decide +kernel) rfl) pa_nil))) (pe_one (pe_not (pe_callB call_isi (by rfl) T.z_isinstance (by decide +kernel) (pa_cons (pv 0) (pa_cons (pe_bltn (v := .ty "bool") (by rfl) T.z_bool (by decide +kernel) rfl) pa_nil))))))))), ?_⟩
    walk_at "begin"
    walk_at "go"
    rcases k with ⟨i, rfl, k⟩ | ⟨⟨b, rfl⟩ | ⟨t, ht, hk⟩, k⟩
    · refine k_isi (.ty _) (.base (.int i)) (kit_ty (b := "int") (r := true) (by decide +kernel)) ?_
      walk_at "go"
      refine iteT ?_
      walk_at "go"
      refine k_isi (.ty _) (.base (.int i)) (kit_ty (b := "bool") (r := false) (by decide +kernel)) ?_
      walk_at "go"
      exact k
    · refine k_isi (.ty _) (.base (.bl b)) (kit_ty (b := "int") (r := true) (by decide +kernel)) ?_
      walk_at "go"
      refine iteT ?_
      walk_at "go"
      refine k_isi (.ty _) (.base (.bl b)) (kit_ty (b := "bool") (r := true) (by decide +kernel)) ?_
      walk_at "go"
      exact k
    · refine k_isi (.ty _) ht hk ?_
      walk_at "go"
      exact iteF k
theorem ok_is_integer_between (T : Txt K mg) : FnOk P w K mg base (L2.CX P w) 2 T.a_is_integer_between T.fd_is_integer_between ["value", "least", "most"] (sp_between K) := by
  refine T.F_is_integer_between.okX sc_is_integer_between (fun vs H Q E h => ?_) (fun cdv A outer s H vs Q E hr h => ?_)
  · obtain ⟨v, lo, hi, rfl, _⟩ := h
    rfl
  · obtain ⟨v, lo, hi, rfl, k⟩ := h
    refine ⟨_, (PSs.nox (pss_one (ps_ret (pe_and (pe_call (ok_is_whole_number T) (hr.mono (by decide)) (by rfl) T.m_is_whole_number T.k_is_whole_number T.b_is_whole_number .nil passL (pa_cons (pv 0) pa_nil)) (pe_one (pe_chain op_le op_le (pv 1) (pv 0) (pv 2))))))), ?_⟩
    walk_at "begin"
    walk_at "go"
    rcases k with ⟨i, rfl, k⟩ | ⟨ni, k⟩
    · refine ⟨_, rfl, .inl ⟨i, rfl, ?_⟩⟩
      walk_at "go"
      refine iteT (k_chain ?_)
      walk_at "go"
      refine k_ite (fun c => ?_) (fun c => ?_)
      · walk_at "go"
        rw [decide_eq_decide.mpr (show lo ≤ i ∧ i ≤ hi ↔ i ≤ hi from ⟨fun z => z.2, fun z => ⟨c, z⟩⟩)] at k
        exact k
      · walk_at "go"
        rw [decide_eq_false (show ¬ (lo ≤ i ∧ i ≤ hi) from fun z => c z.1)] at k
        exact k
    · refine ⟨_, rfl, .inr ⟨ni, ?_⟩⟩
      walk_at "go"
      exact iteF k
theorem ok_is_stand (T : Txt K mg) : FnOk P w K mg base (L2.CX P w) 3 T.a_is_stand T.fd_is_stand ["stands", "value"] (sp_is_stand K) := by
  refine T.F_is_stand.okX sc_is_stand (fun vs H Q E h => ?_) (fun cdv A outer s H vs Q E hr h => ?_)
  · obtain ⟨v, n, rfl, _⟩ := h
    rfl
  · obtain ⟨v, n, rfl, k⟩ := h
    refine ⟨_, (PSs.nox (pss_one (ps_ret (pe_call (ok_is_integer_between T) (hr.mono (by decide)) (by rfl) T.m_is_integer_between T.k_is_integer_between T.b_is_integer_between .nil passL (pa_cons (pv 1) (pa_cons pe_int (pa_cons (pe_op op_sub (pv 0) pe_int) pa_nil))))))), ?_⟩
    walk_at "begin"
    walk_at "go"
    refine ⟨v, 0, n - 1, rfl, ?_⟩
    rcases k with ⟨i, rfl, k⟩ | ⟨ht, k⟩
    · refine .inl ⟨i, rfl, ?_⟩
      rw [decide_eq_decide.mpr (show (0 ≤ i ∧ i < n) ↔ (0 ≤ i ∧ i ≤ n - 1) by omega)] at k
      exact k
    · exact .inr ⟨ht, k⟩
theorem ok_check_stands (T : Txt K mg) : FnOk P w K mg base (L2.CX P w) 3 T.a_check_stands T.fd_check_stands ["stands"] (sp_check_stands K) := by
  refine T.F_check_stands.okX sc_check_stands (fun vs H Q E h => ?_) (fun cdv A outer s H vs Q E hr h => ?_)
  · obtain ⟨n, rfl, _⟩ := h
    rfl
  · obtain ⟨n, rfl, n1, n8, k⟩ := h
    refine ⟨_, (PSs.nox (pss_one (ps_if (pt_not (pt_val (pe_call (ok_is_integer_between T) (hr.mono (by decide)) (by rfl) T.m_is_integer_between T.k_is_integer_between T.b_is_integer_between .nil passL (pa_cons (pv 0) (pa_cons pe_int (pa_cons (pe_glob (by rfl) T.m_MOST_STANDS T.r_MOST_STANDS) pa_nil))))))
  (pss_one ps_never)
  pss_nil))), ?_⟩
    walk_at "begin"
    walk_at "go"
    refine ⟨_, 1, 8, rfl, .inl ⟨n, rfl, ?_⟩⟩
    rw [decide_eq_true (show 1 ≤ n ∧ n ≤ 8 from ⟨n1, n8⟩)]
    walk_at "go"
    refine iteF ?_
    walk_at "go"
    exact k
end
/-! ### (int, text) <= (int, text) -/
def le2 (i : Int) (s : Str) (j : Int) (t : Str) : Bool := if i = j then (if s = t then true else !decide (t.cps.toList < s.cps.toList)) else decide (i ≤ j)
def rLe2 (K : PySem.W.Frag) : R2 := fun x y H Q => ∃ (a b : Addr) (i j : Int) (s t : Str), x = .ref a ∧ y = .ref b ∧ SqT K H a [.int i, .str s] ∧ SqT K H b [.int j, .str t] ∧ Q (.bl (le2 i s j t)) H
theorem op_le2 {X : Cx} (hu : X.A.units < cLine) : OpR X (compareOp .LtE) (rLe2 X.K) := by
  rintro pins st σ H x y v u Q I rx ry ⟨a, b, i, j, s, t, rfl, rfl, ha, hb, q⟩
  cases rx
  cases ry
  obtain ⟨us, r1, p1, _⟩ := I.tuple ha
  obtain ⟨ws, r2, p2, _⟩ := I.tuple hb
  obtain ⟨u1, u2, rfl, ⟨k1, rfl⟩, ⟨k2, rfl⟩⟩ := vals2 r1
  obtain ⟨w1, w2, rfl, ⟨l1, rfl⟩, ⟨l2, rfl⟩⟩ := vals2 r2
  have R := Ob.RcOp.tuples_le (A := X.A) (s := st) (e := fun n => if n = 0 then (i == j) else decide (s = t)) (r := fun n => if n = 0 then decide (i ≤ j) else !decide (t.cps.toList < s.cps.toList)) p1 p2 hu
    (fun n h1 h2 => by
      have n2 : n < 2 := h1
      match n, n2 with
      | 0, _ => exact SeqAt.EqAt.int_int _ _ _ _
      | 1, _ => exact SeqAt.EqAt.str_str _ _ _ _)
    (fun n h1 h2 _ => by
      have n2 : n < 2 := h1
      match n, n2 with
      | 0, _ => exact Ob.RcOp.le_int _ _ _ _
      | 1, _ => exact fun prog w E Q hQ => PySem.P.le_str hQ)
  have z : Ob.lexAt (fun n => if n = 0 then (i == j) else decide (s = t)) (fun n => if n = 0 then decide (i ≤ j) else !decide (t.cps.toList < s.cps.toList)) (decide ((2 : Nat) ≤ 2)) 0 (min 2 2) = le2 i s j t := by
    show Ob.lexAt _ _ _ 0 2 = _
    rw [Ob.lexAt_succ]
    unfold le2
    by_cases c : i = j
    · have c' : (i == j) = true := beq_iff_eq.mpr c
      simp only [if_pos, c', if_pos c]
      rw [Ob.lexAt_succ]
      by_cases d : s = t
      · simp [d, Ob.lexAt_zero]
      · simp [d]
    · have c' : (i == j) = false := beq_eq_false_iff_ne.mpr c
      simp [c']
      exact fun z => absurd z c
  have R' := R X.prog X.w X.xe (EP X pins σ Q) ⟨.bl _, H, I, rfl, (by rw [← z] at q; exact q)⟩
  exact R'
/-! ### steps, ends, machines -/
theorem ty_tup {K : PySem.W.Frag} {H : Hp} {p : Addr} {xs : List V} (h : SqT K H p xs) : TyX K H (.ref p) (.type "tuple") := by
  rcases h with (h | ⟨o, h⟩) | ⟨o, its, n, h, hc, _⟩
  · exact .base (.tup h)
  · exact .fTuple h
  · exact .kTuple h hc
theorem k_in {K : PySem.W.Frag} {neg : Bool} {H : Hp} {Q : VK} {p : Addr} {x : V} {xs : List V} (h : SqL K H p xs ∨ SqT K H p xs) (fx : flatV x = true) (fa : xs.all flatV = true) (q : Q (.bl (if neg then !inV x xs else inV x xs)) H) : rIn K neg x (.ref p) H Q := ⟨p, xs, rfl, h, fx, fa, q⟩
theorem letter_in {c : Nat} (h : 97 ≤ c) (h' : c ≤ 100) : inV (.str ⟨#[c]⟩) [V.str "a", V.str "b", V.str "c", V.str "d"] = true := by
  have z : c = 97 ∨ c = 98 ∨ c = 99 ∨ c = 100 := by omega
  rcases z with rfl | rfl | rfl | rfl <;> decide
theorem k_slA2 {K : PySem.W.Frag} {H : Hp} {Q : VK} {a : Addr} {x y z u : V} (h : SqT K H a [x, y, z, u]) (q : ∀ p, H p = none → Q (.ref p) (upd H p (.tup [x, y]))) : rSlA K (.ref a) none (some 2) H Q :=
  ⟨a, _, rfl, h, fun e => absurd e (by show ¬ ((0 : Nat) = 0 ∧ (2 : Nat) = 4); decide), fun _ p hp => q p hp⟩
theorem le2_no {s t : Stp} (h : s.lt t) : le2 (t.b : Nat) ⟨#[t.c]⟩ (s.b : Nat) ⟨#[s.c]⟩ = false := by
  unfold le2
  rcases h with h | ⟨h1, h2⟩
  · rw [if_neg (by omega), decide_eq_false (by omega)]
  · rw [if_pos (by omega), if_neg (by intro z; injection z with z; simp at z; omega)]
    simp
    exact List.Lex.rel h2
theorem few {n : Nat} (k : Nat) (h : k < 1000) (q : n ≤ k) : n < 1000 := Nat.lt_of_le_of_lt q h
def sp_is_step (K : PySem.W.Frag) : Sp := fun vs H Q _ => ∃ (n : Nat) (p : Addr) (s : Stp), vs = [.int (n : Nat), .ref p] ∧ SqT K H p (stpV s) ∧ s.Ok n ∧ Q (.bl true) H
def sp_check_steps (K : PySem.W.Frag) : Sp := fun vs H Q _ => ∃ (t : Addr) (us : List V) (m : MD), vs = [.int (m.n : Nat), .ref t] ∧ SqT K H t us ∧ StpsAt K H us m.ss ∧ m.Ok ∧ ∀ H', Same H H' → Q .non H'
def sp_check_ends (K : PySem.W.Frag) : Sp := fun vs H Q _ => ∃ (t : Addr) (m : MD), vs = [.int (m.n : Nat), .ref t] ∧ SqT K H t (nats m.es) ∧ m.Ok ∧ ∀ H', Same H H' → Q .non H'
/-- whether values are ascending integers from l to below n -/
def ascV (n : Int) : Int → List V → Bool
  | _, [] => true
  | l, .int j :: r => decide (l ≤ j ∧ j ≤ n - 1) && ascV n (j + 1) r
  | _, _ => false
theorem ascV_odd {n l : Int} {x : V} {r : List V} (h : ∀ j, x ≠ .int j) : ascV n l (x :: r) = false := by
  cases x with
  | int j => exact (h j rfl).elim
  | _ => rfl
theorem ascV_nats {n : Nat} : ∀ {es : List Nat} {l : Nat}, (∀ e ∈ es, e < n) → es.Pairwise (· < ·) → (∀ e ∈ es, l ≤ e) → ascV (n : Nat) (l : Nat) (nats es) = true
  | [], _, _, _, _ => rfl
  | e :: es, l, h1, h2, h3 => by
    show (decide (((l : Nat) : Int) ≤ (e : Nat) ∧ ((e : Nat) : Int) ≤ (n : Nat) - 1) && ascV (n : Nat) (((e + 1 : Nat)) : Int) (nats es)) = true
    have a := h1 e (List.mem_cons_self ..)
    have b := h3 e (List.mem_cons_self ..)
    have c := List.pairwise_cons.mp h2
    rw [decide_eq_true (by omega), ascV_nats (fun x hx => h1 x (List.mem_cons_of_mem _ hx)) c.2 (fun x hx => c.1 x hx)]
    rfl
def sp_asc (K : PySem.W.Frag) : Sp := fun vs H Q _ => ∃ (v : V) (n : Int), vs = [v, .int n] ∧ ((∃ ty, TyX K H v ty ∧ PySem.W.kitOne K ty (.type "tuple") = some false ∧ Q (.bl false) H) ∨
  ∃ t xs, v = .ref t ∧ SqT K H t xs ∧ (∀ x ∈ xs, (∃ j, x = .int j) ∨ (NotInt K H x ∧ ∀ j, x ≠ .int j)) ∧ Q (.bl (ascV n 0 xs)) H)
def sp_init (K : PySem.W.Frag) (C : Addr) : Sp := fun vs H Q _ => ∃ (x dx t u : Addr) (m : MD), vs = [.ref x, .int (m.n : Nat), .ref t, .ref u] ∧ H x = some (.ins C dx []) ∧ PartsAt K H t u m ∧ m.Ok ∧
  ∀ H', Keep x H H' → H' x = some (.ins C dx (mfs m.n t u)) → Q .non H'
def sp_machine (K : PySem.W.Frag) (C : Addr) : Sp := fun vs H Q _ => ∃ (d : Addr) (m : MD), vs = [.ref d] ∧ DAt K H d m ∧ m.Ok ∧ ∀ x H', Same H H' → H x = none → MAt K C H' x m → Q (.ref x) H'
section
variable {P : Program} {w : World} {K : PySem.W.Frag} {mg : Str → Option Value} {base : Heap}
theorem ok_is_step (T : Txt K mg) : FnOk P w K mg base (L2.CX P w) 4 T.a_is_step T.fd_is_step ["stands", "value"] (sp_is_step K) := by
  refine T.F_is_step.okX sc_is_step (fun vs H Q E h => ?_) (fun cdv A outer s H vs Q E hr h => ?_)
  · obtain ⟨n, p, s, rfl, _⟩ := h
    rfl
  · obtain ⟨n, p, t, rfl, hp, o, k⟩ := h
    refine ⟨_, (PSs.nox (pss_cons (ps_if (PW.pt (pw_or (pt_not (pt_val (pe_callB call_isi (by rfl) T.z_isinstance (by decide +kernel) (pa_cons (pv 1) (pa_cons (pe_bltn (v := .ty "tuple") (by rfl) T.z_tuple (by decide +kernel) rfl) pa_nil))))) (pw_or1 (pt_cmpR op_ne (pe_callB call_len_seq (by rfl) T.z_len PySem.boot_len (pa_cons (pv 1) pa_nil)) pe_int (nomark _)))))
  (pss_one (ps_ret pe_bl))
  pss_nil)
  (pss_cons (ps_asg (pv 1) (pg_tup rfl (pgs_cons (pg_name (i := 2) sc_is_step.nd rfl (Or.inl rfl)) (pgs_cons (pg_name (i := 3) sc_is_step.nd rfl (Or.inl rfl)) (pgs_cons (pg_name (i := 4) sc_is_step.nd rfl (Or.inl rfl)) (pgs_cons (pg_name (i := 5) sc_is_step.nd rfl (Or.inl rfl)) pgs_nil))))))
  (pss_one (ps_ret (pe_and (pe_call (ok_is_stand T) (hr.mono (by decide)) (by rfl) T.m_is_stand T.k_is_stand T.b_is_stand .nil passL (pa_cons (pv 0) (pa_cons (pv 2) pa_nil))) (pe_and (pe_cmpR op_in_seq (pv 3) (pe_glob (by rfl) T.m_LETTERS T.r_LETTERS) (by rfl)) (pe_and (pe_call (ok_is_stand T) (hr.mono (by decide)) (by rfl) T.m_is_stand T.k_is_stand T.b_is_stand .nil passL (pa_cons (pv 0) (pa_cons (pv 4) pa_nil))) (pe_one (pe_call (ok_is_integer_between T) (hr.mono (by decide)) (by rfl) T.m_is_integer_between T.k_is_integer_between T.b_is_integer_between .nil passL (pa_cons (pv 5) (pa_cons (pe_un un_neg (pe_glob (by rfl) T.m_MOST_GAIN T.r_MOST_GAIN)) (pa_cons (pe_glob (by rfl) T.m_MOST_GAIN T.r_MOST_GAIN) pa_nil))))))))))))), ?_⟩
    walk_at "begin"
    walk_at "go"
    refine k_isi (.ty _) (ty_tup hp) (kit_ty (b := "tuple") (r := true) (by decide +kernel)) ?_
    walk_at "go"
    refine iteF ?_
    walk_at "go"
    refine k_len (.inr hp) ?_
    walk_at "go"
    refine iteF ?_
    walk_at "go"
    refine k_gt hp rfl ?_
    unfold stpV
    walk_at "go"
    refine ⟨_, _, rfl, .inl ⟨_, rfl, ?_⟩⟩
    rw [decide_eq_true (show 0 ≤ ((t.b : Nat) : Int) ∧ ((t.b : Nat) : Int) < (n : Nat) from ⟨Int.natCast_nonneg _, by have := o.b; omega⟩)]
    walk_at "go"
    refine iteT ?_
    walk_at "go"
    refine k_in (.inr (T.s_LETTERS _)) rfl (by decide) ?_
    rw [letter_in o.c o.c']
    walk_at "go"
    refine iteT ?_
    walk_at "go"
    refine ⟨_, _, rfl, .inl ⟨_, rfl, ?_⟩⟩
    rw [decide_eq_true (show 0 ≤ ((t.e : Nat) : Int) ∧ ((t.e : Nat) : Int) < (n : Nat) from ⟨Int.natCast_nonneg _, by have := o.e; omega⟩)]
    walk_at "go"
    refine iteT ?_
    walk_at "go"
    refine ⟨_, _, _, rfl, .inl ⟨_, rfl, ?_⟩⟩
    rw [decide_eq_true (show -1000000000000000000000000000000 ≤ t.g ∧ t.g ≤ 1000000000000000000000000000000 from ⟨by have := o.g; omega, by have := o.g'; omega⟩)]
    exact k
theorem ok_check_steps (T : Txt K mg) : FnOk P w K mg base (L2.CX P w) 5 T.a_check_steps T.fd_check_steps ["stands", "steps"] (sp_check_steps K) := by
  refine T.F_check_steps.okX sc_check_steps (fun vs H Q E h => ?_) (fun cdv A outer s H vs Q E hr h => ?_)
  · obtain ⟨t, us, m, rfl, _⟩ := h
    rfl
  · obtain ⟨t, us, m, rfl, ht, hs, o, k⟩ := h
    refine ⟨_, (PSs.nox (pss_cons (ps_if (pt_not (pt_val (pe_callB call_isi (by rfl) T.z_isinstance (by decide +kernel) (pa_cons (pv 1) (pa_cons (pe_bltn (v := .ty "tuple") (by rfl) T.z_tuple (by decide +kernel) rfl) pa_nil)))))
  (pss_one ps_never)
  pss_nil)
  (pss_one (ps_for PassesOwn.never rfl (pi_enumT (by rfl) T.z_enumerate (pa_cons (pv 1) pa_nil)) (pg_tup rfl (pgs_cons (pg_name (i := 2) sc_check_steps.nd rfl (Or.inl rfl)) (pgs_cons (pg_name (i := 3) sc_check_steps.nd rfl (Or.inl rfl)) pgs_nil)))
  (pss_cons (ps_if (pt_not (pt_val (pe_call (ok_is_step T) (hr.mono (by decide)) (by rfl) T.m_is_step T.k_is_step T.b_is_step .nil passL (pa_cons (pv 0) (pa_cons (pv 3) pa_nil)))))
  (pss_one ps_never)
  pss_nil)
  (pss_one (ps_if (PW.pt (pw_and (pt_cmpR op_gt (pv 2) pe_int (nomark _)) (pw_and1 (pt_cmpR (op_le2 hr.units0) (pe_slice sl_tupA (pv 3) po_none (po_some pe_int)) (pe_slice sl_tupA (pe_ix ix_tup (pv 1) (pe_op op_sub (pv 2) pe_int) (fun _ _ => rfl)) po_none (po_some pe_int)) (nomark _)))))
  (pss_one ps_never)
  pss_nil))))))), ?_⟩
    walk_at "begin"
    walk_at "go"
    refine k_isi (.ty _) (ty_tup ht) (kit_ty (b := "tuple") (r := true) (by decide +kernel)) ?_
    walk_at "go"
    refine iteF ?_
    walk_at "go"
    refine ⟨_, rfl, t, us, rfl, ht, for_enumT (xs := us) (fun i σ H' => Same H H' ∧ ∃ a b, σ = [some (.int (m.n : Nat)), some (.ref t), a, b]) ⟨Same.refl _, _, _, rfl⟩ (fun i σ H' _ ⟨z, _⟩ => (same_tups z).sq ht) ?_ ?_⟩
    · rintro i x p σ H1 hx ⟨z, a, b, rfl⟩ hp
      have il : i < m.ss.length := by rw [← hs.1]; exact (List.getElem?_eq_some_iff.mp hx).1
      obtain ⟨q, eq, hq⟩ := hs.2 i _ (List.getElem?_eq_getElem il)
      rw [hx] at eq
      cases eq
      have z1 : Same H (upd H1 p (.tup [.int (i : Nat), .ref q])) := z.trans (Same.new hp)
      have hq1 := (same_tups z1).sq hq
      have ok1 := o.ok _ (List.getElem_mem il)
      refine k_gt (SqT.of upd_same) rfl ?_
      walk_at "go"
      refine ⟨m.n, q, _, rfl, hq1, ok1, ?_⟩
      walk_at "go"
      refine iteF ?_
      walk_at "go"
      refine k_ite (fun c => ?_) (fun c => iteF ?_)
      · walk_at "go"
        have jl : i - 1 < m.ss.length := by omega
        obtain ⟨q2, eq2, hq2⟩ := hs.2 (i - 1) _ (List.getElem?_eq_getElem jl)
        refine k_slA2 hq1 fun p1 n1 => ?_
        have z2 := z1.trans (Same.new (o := .tup [.int ((m.ss[i]'il).b : Nat), .str ⟨#[(m.ss[i]'il).c]⟩]) n1)
        walk_at "go"
        refine k_ixT ((same_tups z2).sq ht) (v := .ref q2) (at_of (j := i - 1) (by omega) eq2) ?_
        walk_at "go"
        refine k_slA2 ((same_tups z2).sq hq2) fun p2 n2 => ?_
        have z3 := z2.trans (Same.new (o := .tup [.int ((m.ss[i - 1]'jl).b : Nat), .str ⟨#[(m.ss[i - 1]'jl).c]⟩]) n2)
        refine ⟨p1, p2, _, _, _, _, rfl, rfl, SqT.of (Same.new n2 _ _ upd_same), SqT.of upd_same, ?_⟩
        · have up := List.pairwise_iff_getElem.mp o.up (i - 1) i jl il (by omega)
          rw [le2_no up]
          walk_at "go"
          refine iteF ?_
          walk_at "go"
          exact ⟨z3, _, _, rfl⟩
      · walk_at "go"
        exact ⟨z1, _, _, rfl⟩
    · rintro σ H1 ⟨z, _⟩
      exact k H1 z
theorem ok_is_ascending (T : Txt K mg) : FnOk P w K mg base (L2.CX P w) 3 T.a_is_ascending T.fd_is_ascending ["value", "many"] (sp_asc K) := by
  refine T.F_is_ascending.okX sc_is_ascending (fun vs H Q E h => ?_) (fun cdv A outer s H vs Q E hr h => ?_)
  · obtain ⟨v, n, rfl, _⟩ := h
    rfl
  · obtain ⟨v, n, rfl, h⟩ := h
    refine ⟨_, (PSs.nox (pss_cons (ps_if (pt_not (pt_val (pe_callB call_isi (by rfl) T.z_isinstance (by decide +kernel) (pa_cons (pv 0) (pa_cons (pe_bltn (v := .ty "tuple") (by rfl) T.z_tuple (by decide +kernel) rfl) pa_nil)))))
  (pss_one (ps_ret pe_bl))
  pss_nil)
  (pss_cons (ps_set (i := 2) sc_is_ascending.nd rfl (Or.inl rfl) pe_int)
  (pss_cons (ps_for PassesOwn.never rfl (pi_tup (pv 0)) (pg_name (i := 3) sc_is_ascending.nd rfl (Or.inl rfl))
  (pss_cons (ps_if (pt_not (pt_val (pe_call (ok_is_integer_between T) (hr.mono (by decide)) (by rfl) T.m_is_integer_between T.k_is_integer_between T.b_is_integer_between .nil passL (pa_cons (pv 3) (pa_cons (pv 2) (pa_cons (pe_op op_sub (pv 1) pe_int) pa_nil))))))
  (pss_one (ps_ret pe_bl))
  pss_nil)
  (pss_one (ps_set (i := 2) sc_is_ascending.nd rfl (Or.inl rfl) (pe_op op_add (pv 3) pe_int)))))
  (pss_one (ps_ret pe_bl)))))), ?_⟩
    walk_at "begin"
    walk_at "go"
    rcases h with ⟨ty, h1, h2, k⟩ | ⟨t, xs, rfl, ht, hx, k⟩
    · refine k_isi (.ty _) h1 h2 ?_
      walk_at "go"
      refine iteT ?_
      walk_at "go"
      exact k
    · refine k_isi (.ty _) (ty_tup ht) (kit_ty (b := "tuple") (r := true) (by decide +kernel)) ?_
      walk_at "go"
      refine iteF ?_
      walk_at "go"
      refine ⟨t, rfl, ⟨_, ht⟩, ?_⟩
      refine for_tup (xs := xs) (fun i σ H' => H' = H ∧ ∃ (l : Int) (a : Option V), σ = [some (.ref t), some (.int n), some (.int l), a] ∧ ascV n 0 xs = ascV n l (xs.drop i)) ⟨rfl, 0, _, rfl, rfl⟩ (fun i σ H' _ ⟨e, _⟩ => by rw [e]; exact ht) ?_ ?_
      · rintro i x σ H1 hx1 ⟨rfl, l, a, rfl, eq⟩
        have il : i < xs.length := (List.getElem?_eq_some_iff.mp hx1).1
        have dr : xs.drop i = x :: xs.drop (i + 1) := by rw [List.drop_eq_getElem_cons il, (List.getElem?_eq_some_iff.mp hx1).2]
        rw [dr] at eq
        walk_at "go"
        rcases hx x (List.mem_of_getElem? hx1) with ⟨j, rfl⟩ | ⟨ni, nj⟩
        · refine ⟨_, _, _, rfl, .inl ⟨j, rfl, ?_⟩⟩
          by_cases c : l ≤ j ∧ j ≤ n - 1
          · rw [decide_eq_true c]
            walk_at "go"
            refine iteF ?_
            walk_at "go"
            refine ⟨rfl, _, _, rfl, ?_⟩
            rw [eq]
            show (decide (l ≤ j ∧ j ≤ n - 1) && ascV n (j + 1) (xs.drop (i + 1))) = _
            rw [decide_eq_true c]
            rfl
          · rw [decide_eq_false c]
            walk_at "go"
            refine iteT ?_
            walk_at "go"
            have e2 : ascV n 0 xs = false := by
              rw [eq]
              show (decide (l ≤ j ∧ j ≤ n - 1) && ascV n (j + 1) (xs.drop (i + 1))) = _
              rw [decide_eq_false c]
              rfl
            rw [e2] at k
            exact k
        · refine ⟨_, _, _, rfl, .inr ⟨ni, ?_⟩⟩
          walk_at "go"
          refine iteT ?_
          walk_at "go"
          have e2 : ascV n 0 xs = false := by
            rw [eq]
            exact ascV_odd nj
          rw [e2] at k
          exact k
      · rintro σ H1 ⟨rfl, l, a, rfl, eq⟩
        rw [List.drop_length] at eq
        rw [eq] at k
        walk_at "go"
        exact k
theorem ok_check_ends (T : Txt K mg) : FnOk P w K mg base (L2.CX P w) 4 T.a_check_ends T.fd_check_ends ["stands", "ends"] (sp_check_ends K) := by
  refine T.F_check_ends.okX sc_check_ends (fun vs H Q E h => ?_) (fun cdv A outer s H vs Q E hr h => ?_)
  · obtain ⟨t, m, rfl, _⟩ := h
    rfl
  · obtain ⟨t, m, rfl, ht, o, k⟩ := h
    refine ⟨_, (PSs.nox (pss_one (ps_if (pt_not (pt_val (pe_call (ok_is_ascending T) (hr.mono (by decide)) (by rfl) T.m_is_ascending T.k_is_ascending T.b_is_ascending .nil passL (pa_cons (pv 1) (pa_cons (pv 0) pa_nil)))))
  (pss_one ps_never)
  pss_nil))), ?_⟩
    walk_at "begin"
    walk_at "go"
    refine ⟨_, _, rfl, .inr ⟨t, _, rfl, ht, fun x h => ?_, ?_⟩⟩
    · obtain ⟨e, _, rfl⟩ := List.mem_map.mp h
      exact .inl ⟨_, rfl⟩
    rw [show ascV (m.n : Nat) 0 (nats m.es) = true from ascV_nats (l := 0) (fun e h => o.eb e h) o.eu (fun _ _ => Nat.zero_le _)]
    walk_at "go"
    refine iteF ?_
    walk_at "go"
    exact k H (Same.refl _)
theorem ok_Machine_init (T : Txt K mg) : FnOk P w K mg base (L2.CX P w) 6 T.a_Machine_init T.fd_Machine_init ["self", "stands", "steps", "ends"] (sp_init K T.c_Machine) := by
  refine T.F_Machine_init.okX sc_Machine_init (fun vs H Q E h => ?_) (fun cdv A outer s H vs Q E hr h => ?_)
  · obtain ⟨x, dx, t, u, m, rfl, _⟩ := h
    rfl
  · obtain ⟨x, dx, t, u, m, rfl, hx, ⟨⟨us, ht, hs⟩, hu⟩, o, k⟩ := h
    refine ⟨_, (PSs.nox (pss_cons (ps_expr (pe_call (ok_check_stands T) (hr.mono (by decide)) (by rfl) T.m_check_stands T.k_check_stands T.b_check_stands .nil passL (pa_cons (pv 1) pa_nil)))
  (pss_cons (ps_expr (pe_call (ok_check_steps T) (hr.mono (by decide)) (by rfl) T.m_check_steps T.k_check_steps T.b_check_steps .nil passL (pa_cons (pv 1) (pa_cons (pv 2) pa_nil))))
  (pss_cons (ps_expr (pe_call (ok_check_ends T) (hr.mono (by decide)) (by rfl) T.m_check_ends T.k_check_ends T.b_check_ends .nil passL (pa_cons (pv 1) (pa_cons (pv 3) pa_nil))))
  (pss_cons (ps_fld (pv 0) (pv 1) rfl)
  (pss_cons (ps_fld (pv 0) (pv 2) rfl)
  (pss_one (ps_fld (pv 0) (pv 3) rfl)))))))), ?_⟩
    walk_at "begin"
    walk_at "go"
    refine ⟨_, rfl, by have := o.n1; omega, by have := o.n8; omega, ?_⟩
    walk_at "go"
    refine ⟨t, us, m, rfl, ht, hs, o, fun H1 z1 => ?_⟩
    walk_at "go"
    refine ⟨u, m, rfl, (same_tups z1).sq hu, o, fun H2 z2 => ?_⟩
    walk_at "go"
    have e2 : H2 x = some (.ins T.c_Machine dx []) := z2 _ _ (z1 _ _ hx)
    refine ⟨_, rfl, _, rfl, x, _, dx, _, rfl, e2, T.cl_Machine, T.n__stands, (by decide : 0 < 1000), ?_⟩
    refine ⟨_, rfl, _, rfl, x, _, dx, _, rfl, upd_same, T.cl_Machine, T.n__steps, few 1 (by decide) (length_putF _ _ _), ?_⟩
    refine ⟨_, rfl, _, rfl, x, _, dx, _, rfl, upd_same, T.cl_Machine, T.n__ends, few 2 (by decide) (Nat.le_trans (length_putF _ _ _) (Nat.succ_le_succ (length_putF _ _ _))), ?_⟩
    refine k _ (((Keep.of_same (z1.trans z2)).trans Keep.at_).trans (Keep.at_.trans Keep.at_)) ?_
    rw [upd_same]
    rfl
end
/-! ### what is never reached needs no reading -/
theorem ps_any {X : Cx} {st : Stmt} : PS X st (fun _ _ _ => False) := ⟨fun _ _ _ _ _ _ h => h.elim⟩
theorem pss_any {X : Cx} {l : List Stmt} : PSs X l (fun _ _ _ => False) := ⟨fun _ _ _ _ _ _ h => h.elim⟩
theorem pe_any {X : Cx} {e : Expr} : PE X e (fun _ _ _ => False) := ⟨fun _ _ _ _ _ _ h => h.elim⟩
/-! ### an own object whose __init__ may be left by an error -/
def tMakeS (C : Addr) (sp : Sp) (E : L2.St → XK) (t : TA) : TE := fun σ H Q => t σ H fun vs H1 => ∀ x dx, H1 x = none → H1 dx = none → dx ≠ x → sp (.ref x :: vs) (upd (upd H1 dx (.own x)) x (.ins C dx [])) (fun v H2 => v = .non ∧ Q (.ref x) H2) (E σ)
theorem k_makeS {C : Addr} {sp : Sp} {E : L2.St → XK} {t : TA} {σ : L2.St} {H : Hp} {Q : VK} (h : t σ H fun vs H1 => ∀ x dx, H1 x = none → H1 dx = none → dx ≠ x → sp (.ref x :: vs) (upd (upd H1 dx (.own x)) x (.ins C dx [])) (fun v H2 => v = .non ∧ Q (.ref x) H2) (E σ)) : tMakeS C sp E t σ H Q := h
section
variable {X : Cx} {k : Nat} {f C : Addr} {fd : FuncData} {ps : List Str} {sp : Sp} {E : L2.St → XK} {x : Str} {p pos : Pos} {e : Expr} {es : List Expr} {t : TA}
theorem run_makeS {pins : List (Addr × Obj)} {σ : L2.St} {H : Hp} {s : Shared} {Q : VK} {us : List Value} {vs : List V} (M : Mk X.K C f) (F : FnOk X.prog X.w X.K X.mg X.base (L2.CX X.prog X.w) k f fd ps sp) (hr : Room (k + 1) X.A) (hb : Binds X.K fd ps [])
    (hx : PassesAt (L2.CX X.prog X.w) X σ (E σ)) (I : Inv X pins σ H s) (r : Vals vs us)
    (h : ∀ x dx, H x = none → H dx = none → dx ≠ x → sp (.ref x :: vs) (upd (upd H dx (.own x)) x (.ins C dx [])) (fun v H2 => v = .non ∧ Q (.ref x) H2) (E σ)) :
    wpAny (model X.prog X.w) X.A (call (.ref C) us) (EP X pins σ Q) X.xe s := by
  have hq := h (s.heap.objs.size + 1) s.heap.objs.size (I.hok.fresh (Nat.le_succ _)) (I.hok.fresh (Nat.le_refl _)) (Nat.ne_of_lt (Nat.lt_succ_self _))
  have I2 := Inv.made (C := C) I
  have r2 : Vals (V.ref (s.heap.objs.size + 1) :: vs) (Value.ref (s.heap.objs.size + 1) :: us) := .cons rfl r
  have hl : (Value.ref (s.heap.objs.size + 1) :: us ++ []).length = ps.length := by
    have e := r2.length
    rw [F.len _ _ _ _ hq] at e
    rw [List.append_nil]
    exact e.symm
  have b := hb _ (Value.ref (s.heap.objs.size + 1) :: us) I2.kIn hl
  rw [List.append_nil] at b
  refine wpAny_call (make_map (f := f) I.kIn M.makes M.init (beq_iff_eq.mp M.fn) (codeAny_mono (F.run _ X.stack _ _ ⟨Value.ref (s.heap.objs.size + 1) :: us, []⟩ (Value.ref (s.heap.objs.size + 1) :: us) _ _ (E σ) (hr.make C us [])
    (I2.env0.make C us []) b r2 hq) fun r s' hq' => ?_))
  cases r with
  | error e => exact hx pins _ _ e s' I2 hq'
  | ok fl =>
    cases fl with
    | ret u =>
      obtain ⟨v, H', I3, rv, ev, q3⟩ := I2.after hq'
      subst ev
      exact ⟨rv, ⟨V.ref (s.heap.objs.size + 1), H', I3, rfl, q3⟩⟩
    | next => exact False.elim hq'
    | brk => exact False.elim hq'
    | cont => exact False.elim hq'
theorem pe_makeS (M : Mk X.K C f) (F : FnOk X.prog X.w X.K X.mg X.base (L2.CX X.prog X.w) k f fd ps sp) (hr : Room (k + 1) X.A) (hg : Gl X x) (hm : X.mg x = some (.ref C)) (hb : Binds X.K fd ps []) (hx : ∀ σ, PassesAt (L2.CX X.prog X.w) X σ (E σ))
    (ha : PA X (e :: es) t) (hdb : (x == ("__debug__" : Str)) = false := by decide) (he : starEach (e :: es) X.env = (false, eval e X.env) :: starEach es X.env := by rfl) (hpl : (backTo pos (starEach es X.env)).any (·.1) = false := by rfl) :
    PE X (.Call (.Name x p) (e :: es) [] pos) (tMakeS C sp E t) := by
  refine ⟨fun pins s σ H Q I h => ?_⟩
  refine wpAny_Call_Name_kw (ld_glob I hg hm ?_ hdb)
  refine PySem.W.callWith_K (h₀ := X.base) I.ok.mod.kin M.kp (thn (ha.run pos pins s σ H _ I h) fun us s1 ⟨vs, H1, I1, r, q⟩ => ⟨I1.kIn, ?_⟩) he hpl
  exact run_makeS M F hr hb (hx σ) I1 r q
end
theorem exc_rel {K : PySem.W.Frag} {S C : Addr} {b : Bool} (hb : PySem.W.subIn K (.ref C) (.type "BaseException") = some true) (hc : PySem.W.isClsIn K C = true) (ht : PySem.W.typeIn K (.ref C) = some (.type "type")) (hs : PySem.W.subIn K (.ref S) (.ref C) = some b) : PySem.W.exmOne K (.ref S) (.ref C) = some b := by
  have hc' : (PySem.W.clsIn K C).isSome = true := hc
  unfold PySem.W.exmOne PySem.W.kitCls
  simp only [hb, ht, hc', hs, beq_self_eq_true, Bool.and_self, if_true]
theorem FnOk.or {P : Program} {w : World} {K : PySem.W.Frag} {mg : Str → Option Value} {base : Heap} {CX : CXT} {k : Nat} {f : Addr} {fd : FuncData} {ps : List Str} {sp sp' : Sp} (F : FnOk P w K mg base CX k f fd ps sp) (G : FnOk P w K mg base CX k f fd ps sp') :
    FnOk P w K mg base CX k f fd ps (fun vs H Q E => sp vs H Q E ∨ sp' vs H Q E) :=
  ⟨fun vs H Q E q => q.elim (F.len vs H Q E) (G.len vs H Q E), fun A outer s H args us vs Q E hr he hb hv hs => hs.elim (F.run A outer s H args us vs Q E hr he hb hv) (G.run A outer s H args us vs Q E hr he hb hv)⟩
/-! ### a call that an error may leave -/
section
variable {K : PySem.W.Frag} {σ : L2.St} {H : Hp} {Q : VK}
theorem k_callS {sp : Sp} {E : L2.St → XK} {t : TA} (h : t σ H fun vs H1 => sp vs H1 Q (E σ)) : tCallS sp E t σ H Q := h
end
/-! ### a call of one of several defs, picked out of a list -/
def HeldX (P : Program) (w : World) (K : PySem.W.Frag) (mg : Str → Option Value) (base : Heap) (k : Nat) (f : Addr) (sp : Sp) : Prop := ∃ (j : Nat) (fd : FuncData) (ps : List Str), j ≤ k ∧ FnOk P w K mg base (L2.CX P w) j f fd ps sp ∧ PySem.W.keepIn K (.ref f) = true ∧ Binds K fd ps []
def tCallE (H0 : Addr → Sp → Prop) (tf : TE) (E : L2.St → XK) (t : TA) : TE := fun σ H Q => tf σ H fun v H1 => ∃ f sp, v = .ref f ∧ H0 f sp ∧ t σ H1 fun vs H2 => sp vs H2 Q (E σ)
theorem pe_callE {P : Program} {w : World} {K : PySem.W.Frag} {mg : Str → Option Value} {base : Heap} {X : Cx} {k : Nat} {l i e : Expr} {es : List Expr} {ip pos : Pos} {tf : TE} {E : L2.St → XK} {t : TA} (hh : ∀ f sp, HeldX P w K mg base k f sp → HeldX X.prog X.w X.K X.mg X.base k f sp)
    (hf : PE X (.Subscript l i ip) tf) (hr : Room k X.A) (hx : ∀ σ, PassesAt (L2.CX X.prog X.w) X σ (E σ)) (ha : PA X (e :: es) t)
    (he : starEach (e :: es) X.env = (false, eval e X.env) :: starEach es X.env := by rfl) (hpl : (backTo pos (starEach es X.env)).any (·.1) = false := by rfl) :
    PE X (.Call (.Subscript l i ip) (e :: es) [] pos) (tCallE (HeldX P w K mg base k) tf E t) := by
  refine ⟨fun pins s σ H Q I h => ?_⟩
  have ev : eval (.Call (.Subscript l i ip) (e :: es) [] pos) X.env = (do callWith pos (← eval (.Subscript l i ip) X.env) [] (backTo pos (starEach (e :: es) X.env)) (backToKw pos (keywordEach [] X.env))) := rfl
  rw [ev]
  refine wpAny_bind (thn (hf.run pins s σ H _ I h) fun u s0 ⟨v, H0, I0, r0, f, sp, ev, hd, q0⟩ => ?_)
  obtain ⟨j, fd, ps, hj, F, hk, hb⟩ := hh f sp hd
  subst ev
  obtain rfl : u = Value.ref f := r0
  refine PySem.W.callWith_K (h₀ := X.base) I.ok.mod.kin hk (thn (ha.run pos pins s0 σ H0 _ I0 q0) fun us s1 ⟨vs, H1, I1, r, q⟩ => ⟨I1.kIn, ?_⟩) he hpl
  exact run_fnS F (hr.mono hj) hb (hx σ) I1 r q
theorem k_callE {σ : L2.St} {H : Hp} {Q : VK} {H0 : Addr → Sp → Prop} {tf : TE} {E : L2.St → XK} {t : TA} (h : tf σ H fun v H1 => ∃ f sp, v = .ref f ∧ H0 f sp ∧ t σ H1 fun vs H2 => sp vs H2 Q (E σ)) : tCallE H0 tf E t σ H Q := h
/-! ### what is no machine is refused -/
def NoMach (K : PySem.W.Frag) (H : Hp) (v : V) : Prop := ∃ n : String, (fastFind? n).isSome = true ∧ TyX K H v (.type n)
theorem sub_ty {K : PySem.W.Frag} {n : String} {C : Addr} (h : (fastFind? n).isSome = true) : PySem.W.subIn K (.type n) (.ref C) = some false := by
  unfold PySem.W.subIn fastBuiltinMro
  cases e : fastFind? n with
  | none => rw [e] at h; cases h
  | some x =>
    show Option.map (fun l => List.contains l (Value.ref C)) (Option.map (fun x => x.mro.map Value.type) (fastFind? n)) = some false
    rw [e]
    show some ((x.mro.map Value.type).contains (.ref C)) = some false
    congr 1
    rw [List.contains_eq_any_beq, List.any_eq_false]
    intro y hy
    obtain ⟨z, _, rfl⟩ := List.mem_map.mp hy
    simp
def sp_cm (K : PySem.W.Frag) (C B : Addr) : Sp := fun vs H Q E => ∃ v, vs = [v] ∧ ((∃ x dx fs, v = .ref x ∧ H x = some (.ins C dx fs) ∧ Q .non H) ∨ (NoMach K H v ∧ E (.ref B) none H))
def sp_nm (K : PySem.W.Frag) (B : Addr) (n : Nat) : Sp := fun vs H _ E => ∃ v us, vs = v :: us ∧ us.length = n - 1 ∧ NoMach K H v ∧ E (.ref B) none H
def sp_nm2 (K : PySem.W.Frag) (C B : Addr) (n : Nat) : Sp := fun vs H _ E => ∃ v v2 us, vs = v :: v2 :: us ∧ us.length = n - 2 ∧ E (.ref B) none H ∧ (NoMach K H v ∨ ∃ x dx fs, v = .ref x ∧ H x = some (.ins C dx fs) ∧ NoMach K H v2)
theorem one_of {α : Type} {us : List α} (h : us.length = 1) : ∃ a, us = [a] := match us, h with | [a], _ => ⟨a, rfl⟩
theorem two_of {α : Type} {us : List α} (h : us.length = 2) : ∃ a b, us = [a, b] := match us, h with | [a, b], _ => ⟨a, b, rfl⟩
theorem three_of {α : Type} {us : List α} (h : us.length = 3) : ∃ a b c, us = [a, b, c] := match us, h with | [a, b, c], _ => ⟨a, b, c, rfl⟩
section
variable {P : Program} {w : World} {K : PySem.W.Frag} {mg : Str → Option Value} {base : Heap}
theorem ty_Machine (T : Txt K mg) {H : Hp} {x dx : Addr} {fs : List (Str × V)} (h : H x = some (.ins T.c_Machine dx fs)) : TyX K H (.ref x) (.ref T.c_Machine) := .base (.ins h T.cl_Machine T.i1_Machine T.i2_Machine T.i3_Machine T.i4_Machine)
theorem kit_self {C : Addr} : PySem.W.kitOne K (.ref C) (.ref C) = some true := by
  unfold PySem.W.kitOne
  rw [if_pos (by simp)]
theorem kit_not (T : Txt K mg) {n : String} (h : (fastFind? n).isSome = true) : PySem.W.kitOne K (.type n) (.ref T.c_Machine) = some false := by
  have hc : (PySem.W.clsIn K T.c_Machine).isSome = true := T.j1_Machine
  unfold PySem.W.kitOne PySem.W.kitCls
  rw [if_neg (by simp)]
  simp only [hc, T.j2_Machine, beq_self_eq_true, Bool.and_self, if_true]
  exact sub_ty h
theorem ok_check_machine_bad (T : Txt K mg) : FnOk P w K mg base (L2.CX P w) 1 T.a_check_machine T.fd_check_machine ["value"] (sp_cm K T.c_Machine T.c_BadMachine) := by
  refine T.F_check_machine.okX sc_check_machine (fun vs H Q E h => ?_) (fun cdv A outer s H vs Q E hr h => ?_)
  · obtain ⟨v, rfl, _⟩ := h
    rfl
  · obtain ⟨v, rfl, h⟩ := h
    refine ⟨_, (pss_one (ps_if (pt_not (pt_val (pe_callB call_isi (by rfl) T.z_isinstance (by decide +kernel) (pa_cons (pv 0) (pa_cons (pe_glob (v := .ref T.c_Machine) (by rfl) T.m_Machine rfl) pa_nil)))))
  (pss_one (ps_raise rfl (takes_of rfl rfl rfl rfl) (pmk_own PySem.F.excBase_ValueError T.x_BadMachine T.m_BadMachine T.k_BadMachine (raises_own T.b_BadMachine T.t_BadMachine) (by exact rfl))))
  pss_nil)), ?_⟩
    walk_at "begin"
    walk_at "go"
    rcases h with ⟨x, dx, fs, rfl, hx, k⟩ | ⟨⟨n, hn, ht⟩, k⟩
    · refine k_isi (.own _) (ty_Machine T hx) kit_self ?_
      walk_at "go"
      refine iteF ?_
      walk_at "go"
      exact k
    · refine k_isi (.own _) ht (kit_not T hn) ?_
      walk_at "go"
      refine iteT ?_
      walk_at "go"
      exact k
theorem ok_credit_bad (T : Txt K mg) : FnOk P w K mg base (L2.CX P w) 2 T.a_credit T.fd_credit ["machine"] (sp_nm K T.c_BadMachine 1) := by
  refine T.F_credit.okX sc_credit (fun vs H Q E h => ?_) (fun cdv A outer s H vs Q E hr h => ?_)
  · obtain ⟨v, us, rfl, e, _⟩ := h
    exact congrArg (· + 1) e
  · obtain ⟨v, us, rfl, e, hv, k⟩ := h
    obtain rfl := List.eq_nil_of_length_eq_zero e
    refine ⟨_, (pss_cons (ps_expr (pe_callS (ok_check_machine_bad T) (hr.mono (by decide)) (by rfl) T.m_check_machine T.k_check_machine T.b_check_machine (fun σ => passAt (takes_of rfl rfl rfl rfl) σ) (pa_cons (pv 0) pa_nil)))
  pss_any), ?_⟩
    walk_at "begin"
    walk_at "go"
    refine k_callS ?_
    walk_at "go"
    exact ⟨_, rfl, .inr ⟨hv, k⟩⟩
theorem ok_lasting_bad (T : Txt K mg) : FnOk P w K mg base (L2.CX P w) 2 T.a_lasting T.fd_lasting ["machine"] (sp_nm K T.c_BadMachine 1) := by
  refine T.F_lasting.okX sc_lasting (fun vs H Q E h => ?_) (fun cdv A outer s H vs Q E hr h => ?_)
  · obtain ⟨v, us, rfl, e, _⟩ := h
    exact congrArg (· + 1) e
  · obtain ⟨v, us, rfl, e, hv, k⟩ := h
    obtain rfl := List.eq_nil_of_length_eq_zero e
    refine ⟨_, (pss_cons (ps_expr (pe_callS (ok_check_machine_bad T) (hr.mono (by decide)) (by rfl) T.m_check_machine T.k_check_machine T.b_check_machine (fun σ => passAt (takes_of rfl rfl rfl rfl) σ) (pa_cons (pv 0) pa_nil)))
  pss_any), ?_⟩
    walk_at "begin"
    walk_at "go"
    refine k_callS ?_
    walk_at "go"
    exact ⟨_, rfl, .inr ⟨hv, k⟩⟩
theorem ok_needed_bad (T : Txt K mg) : FnOk P w K mg base (L2.CX P w) 2 T.a_needed T.fd_needed ["machine"] (sp_nm K T.c_BadMachine 1) := by
  refine T.F_needed.okX sc_needed (fun vs H Q E h => ?_) (fun cdv A outer s H vs Q E hr h => ?_)
  · obtain ⟨v, us, rfl, e, _⟩ := h
    exact congrArg (· + 1) e
  · obtain ⟨v, us, rfl, e, hv, k⟩ := h
    obtain rfl := List.eq_nil_of_length_eq_zero e
    refine ⟨_, (pss_cons (ps_expr (pe_callS (ok_check_machine_bad T) (hr.mono (by decide)) (by rfl) T.m_check_machine T.k_check_machine T.b_check_machine (fun σ => passAt (takes_of rfl rfl rfl rfl) σ) (pa_cons (pv 0) pa_nil)))
  pss_any), ?_⟩
    walk_at "begin"
    walk_at "go"
    refine k_callS ?_
    walk_at "go"
    exact ⟨_, rfl, .inr ⟨hv, k⟩⟩
theorem ok_bounds_bad (T : Txt K mg) : FnOk P w K mg base (L2.CX P w) 2 T.a_bounds T.fd_bounds ["machine"] (sp_nm K T.c_BadMachine 1) := by
  refine T.F_bounds.okX sc_bounds (fun vs H Q E h => ?_) (fun cdv A outer s H vs Q E hr h => ?_)
  · obtain ⟨v, us, rfl, e, _⟩ := h
    exact congrArg (· + 1) e
  · obtain ⟨v, us, rfl, e, hv, k⟩ := h
    obtain rfl := List.eq_nil_of_length_eq_zero e
    refine ⟨_, (pss_cons (ps_expr (pe_callS (ok_check_machine_bad T) (hr.mono (by decide)) (by rfl) T.m_check_machine T.k_check_machine T.b_check_machine (fun σ => passAt (takes_of rfl rfl rfl rfl) σ) (pa_cons (pv 0) pa_nil)))
  pss_any), ?_⟩
    walk_at "begin"
    walk_at "go"
    refine k_callS ?_
    walk_at "go"
    exact ⟨_, rfl, .inr ⟨hv, k⟩⟩
theorem ok_end_bounds_bad (T : Txt K mg) : FnOk P w K mg base (L2.CX P w) 2 T.a_end_bounds T.fd_end_bounds ["machine"] (sp_nm K T.c_BadMachine 1) := by
  refine T.F_end_bounds.okX sc_end_bounds (fun vs H Q E h => ?_) (fun cdv A outer s H vs Q E hr h => ?_)
  · obtain ⟨v, us, rfl, e, _⟩ := h
    exact congrArg (· + 1) e
  · obtain ⟨v, us, rfl, e, hv, k⟩ := h
    obtain rfl := List.eq_nil_of_length_eq_zero e
    refine ⟨_, (pss_cons (ps_expr (pe_callS (ok_check_machine_bad T) (hr.mono (by decide)) (by rfl) T.m_check_machine T.k_check_machine T.b_check_machine (fun σ => passAt (takes_of rfl rfl rfl rfl) σ) (pa_cons (pv 0) pa_nil)))
  pss_any), ?_⟩
    walk_at "begin"
    walk_at "go"
    refine k_callS ?_
    walk_at "go"
    exact ⟨_, rfl, .inr ⟨hv, k⟩⟩
theorem ok_reached_bad (T : Txt K mg) : FnOk P w K mg base (L2.CX P w) 2 T.a_reached T.fd_reached ["machine"] (sp_nm K T.c_BadMachine 1) := by
  refine T.F_reached.okX sc_reached (fun vs H Q E h => ?_) (fun cdv A outer s H vs Q E hr h => ?_)
  · obtain ⟨v, us, rfl, e, _⟩ := h
    exact congrArg (· + 1) e
  · obtain ⟨v, us, rfl, e, hv, k⟩ := h
    obtain rfl := List.eq_nil_of_length_eq_zero e
    refine ⟨_, (pss_cons (ps_expr (pe_callS (ok_check_machine_bad T) (hr.mono (by decide)) (by rfl) T.m_check_machine T.k_check_machine T.b_check_machine (fun σ => passAt (takes_of rfl rfl rfl rfl) σ) (pa_cons (pv 0) pa_nil)))
  pss_any), ?_⟩
    walk_at "begin"
    walk_at "go"
    refine k_callS ?_
    walk_at "go"
    exact ⟨_, rfl, .inr ⟨hv, k⟩⟩
theorem ok_greatest_mean_bad (T : Txt K mg) : FnOk P w K mg base (L2.CX P w) 2 T.a_greatest_mean T.fd_greatest_mean ["machine"] (sp_nm K T.c_BadMachine 1) := by
  refine T.F_greatest_mean.okX sc_greatest_mean (fun vs H Q E h => ?_) (fun cdv A outer s H vs Q E hr h => ?_)
  · obtain ⟨v, us, rfl, e, _⟩ := h
    exact congrArg (· + 1) e
  · obtain ⟨v, us, rfl, e, hv, k⟩ := h
    obtain rfl := List.eq_nil_of_length_eq_zero e
    refine ⟨_, (pss_cons (ps_expr (pe_callS (ok_check_machine_bad T) (hr.mono (by decide)) (by rfl) T.m_check_machine T.k_check_machine T.b_check_machine (fun σ => passAt (takes_of rfl rfl rfl rfl) σ) (pa_cons (pv 0) pa_nil)))
  pss_any), ?_⟩
    walk_at "begin"
    walk_at "go"
    refine k_callS ?_
    walk_at "go"
    exact ⟨_, rfl, .inr ⟨hv, k⟩⟩
theorem ok_least_mean_bad (T : Txt K mg) : FnOk P w K mg base (L2.CX P w) 2 T.a_least_mean T.fd_least_mean ["machine"] (sp_nm K T.c_BadMachine 1) := by
  refine T.F_least_mean.okX sc_least_mean (fun vs H Q E h => ?_) (fun cdv A outer s H vs Q E hr h => ?_)
  · obtain ⟨v, us, rfl, e, _⟩ := h
    exact congrArg (· + 1) e
  · obtain ⟨v, us, rfl, e, hv, k⟩ := h
    obtain rfl := List.eq_nil_of_length_eq_zero e
    refine ⟨_, (pss_cons (ps_expr (pe_callS (ok_check_machine_bad T) (hr.mono (by decide)) (by rfl) T.m_check_machine T.k_check_machine T.b_check_machine (fun σ => passAt (takes_of rfl rfl rfl rfl) σ) (pa_cons (pv 0) pa_nil)))
  pss_any), ?_⟩
    walk_at "begin"
    walk_at "go"
    refine k_callS ?_
    walk_at "go"
    exact ⟨_, rfl, .inr ⟨hv, k⟩⟩
theorem ok_mean_paper_bad (T : Txt K mg) : FnOk P w K mg base (L2.CX P w) 2 T.a_mean_paper T.fd_mean_paper ["machine"] (sp_nm K T.c_BadMachine 1) := by
  refine T.F_mean_paper.okX sc_mean_paper (fun vs H Q E h => ?_) (fun cdv A outer s H vs Q E hr h => ?_)
  · obtain ⟨v, us, rfl, e, _⟩ := h
    exact congrArg (· + 1) e
  · obtain ⟨v, us, rfl, e, hv, k⟩ := h
    obtain rfl := List.eq_nil_of_length_eq_zero e
    refine ⟨_, (pss_cons (ps_expr (pe_callS (ok_check_machine_bad T) (hr.mono (by decide)) (by rfl) T.m_check_machine T.k_check_machine T.b_check_machine (fun σ => passAt (takes_of rfl rfl rfl rfl) σ) (pa_cons (pv 0) pa_nil)))
  pss_any), ?_⟩
    walk_at "begin"
    walk_at "go"
    refine k_callS ?_
    walk_at "go"
    exact ⟨_, rfl, .inr ⟨hv, k⟩⟩
theorem ok_mends_bad (T : Txt K mg) : FnOk P w K mg base (L2.CX P w) 2 T.a_mends T.fd_mends ["machine"] (sp_nm K T.c_BadMachine 1) := by
  refine T.F_mends.okX sc_mends (fun vs H Q E h => ?_) (fun cdv A outer s H vs Q E hr h => ?_)
  · obtain ⟨v, us, rfl, e, _⟩ := h
    exact congrArg (· + 1) e
  · obtain ⟨v, us, rfl, e, hv, k⟩ := h
    obtain rfl := List.eq_nil_of_length_eq_zero e
    refine ⟨_, (pss_cons (ps_expr (pe_callS (ok_check_machine_bad T) (hr.mono (by decide)) (by rfl) T.m_check_machine T.k_check_machine T.b_check_machine (fun σ => passAt (takes_of rfl rfl rfl rfl) σ) (pa_cons (pv 0) pa_nil)))
  pss_any), ?_⟩
    walk_at "begin"
    walk_at "go"
    refine k_callS ?_
    walk_at "go"
    exact ⟨_, rfl, .inr ⟨hv, k⟩⟩
theorem ok_behind_bad (T : Txt K mg) : FnOk P w K mg base (L2.CX P w) 2 T.a_behind T.fd_behind ["machine", "row"] (sp_nm K T.c_BadMachine 2) := by
  refine T.F_behind.okX sc_behind (fun vs H Q E h => ?_) (fun cdv A outer s H vs Q E hr h => ?_)
  · obtain ⟨v, us, rfl, e, _⟩ := h
    exact congrArg (· + 1) e
  · obtain ⟨v, us, rfl, e, hv, k⟩ := h
    obtain ⟨u0, rfl⟩ := one_of e
    refine ⟨_, (pss_cons (ps_expr (pe_callS (ok_check_machine_bad T) (hr.mono (by decide)) (by rfl) T.m_check_machine T.k_check_machine T.b_check_machine (fun σ => passAt (takes_of rfl rfl rfl rfl) σ) (pa_cons (pv 0) pa_nil)))
  pss_any), ?_⟩
    walk_at "begin"
    walk_at "go"
    refine k_callS ?_
    walk_at "go"
    exact ⟨_, rfl, .inr ⟨hv, k⟩⟩
theorem ok_is_row_bad (T : Txt K mg) : FnOk P w K mg base (L2.CX P w) 2 T.a_is_row T.fd_is_row ["machine", "value"] (sp_nm K T.c_BadMachine 2) := by
  refine T.F_is_row.okX sc_is_row (fun vs H Q E h => ?_) (fun cdv A outer s H vs Q E hr h => ?_)
  · obtain ⟨v, us, rfl, e, _⟩ := h
    exact congrArg (· + 1) e
  · obtain ⟨v, us, rfl, e, hv, k⟩ := h
    obtain ⟨u0, rfl⟩ := one_of e
    refine ⟨_, (pss_cons (ps_expr (pe_callS (ok_check_machine_bad T) (hr.mono (by decide)) (by rfl) T.m_check_machine T.k_check_machine T.b_check_machine (fun σ => passAt (takes_of rfl rfl rfl rfl) σ) (pa_cons (pv 0) pa_nil)))
  pss_any), ?_⟩
    walk_at "begin"
    walk_at "go"
    refine k_callS ?_
    walk_at "go"
    exact ⟨_, rfl, .inr ⟨hv, k⟩⟩
theorem ok_tallies_bad (T : Txt K mg) : FnOk P w K mg base (L2.CX P w) 2 T.a_tallies T.fd_tallies ["machine", "length"] (sp_nm K T.c_BadMachine 2) := by
  refine T.F_tallies.okX sc_tallies (fun vs H Q E h => ?_) (fun cdv A outer s H vs Q E hr h => ?_)
  · obtain ⟨v, us, rfl, e, _⟩ := h
    exact congrArg (· + 1) e
  · obtain ⟨v, us, rfl, e, hv, k⟩ := h
    obtain ⟨u0, rfl⟩ := one_of e
    refine ⟨_, (pss_cons (ps_expr (pe_callS (ok_check_machine_bad T) (hr.mono (by decide)) (by rfl) T.m_check_machine T.k_check_machine T.b_check_machine (fun σ => passAt (takes_of rfl rfl rfl rfl) σ) (pa_cons (pv 0) pa_nil)))
  pss_any), ?_⟩
    walk_at "begin"
    walk_at "go"
    refine k_callS ?_
    walk_at "go"
    exact ⟨_, rfl, .inr ⟨hv, k⟩⟩
theorem ok_right_lasting_bad (T : Txt K mg) : FnOk P w K mg base (L2.CX P w) 2 T.a_right_lasting T.fd_right_lasting ["machine", "value"] (sp_nm K T.c_BadMachine 2) := by
  refine T.F_right_lasting.okX sc_right_lasting (fun vs H Q E h => ?_) (fun cdv A outer s H vs Q E hr h => ?_)
  · obtain ⟨v, us, rfl, e, _⟩ := h
    exact congrArg (· + 1) e
  · obtain ⟨v, us, rfl, e, hv, k⟩ := h
    obtain ⟨u0, rfl⟩ := one_of e
    refine ⟨_, (pss_cons (ps_expr (pe_callS (ok_check_machine_bad T) (hr.mono (by decide)) (by rfl) T.m_check_machine T.k_check_machine T.b_check_machine (fun σ => passAt (takes_of rfl rfl rfl rfl) σ) (pa_cons (pv 0) pa_nil)))
  pss_any), ?_⟩
    walk_at "begin"
    walk_at "go"
    refine k_callS ?_
    walk_at "go"
    exact ⟨_, rfl, .inr ⟨hv, k⟩⟩
theorem ok_right_mean_bad (T : Txt K mg) : FnOk P w K mg base (L2.CX P w) 2 T.a_right_mean T.fd_right_mean ["machine", "value"] (sp_nm K T.c_BadMachine 2) := by
  refine T.F_right_mean.okX sc_right_mean (fun vs H Q E h => ?_) (fun cdv A outer s H vs Q E hr h => ?_)
  · obtain ⟨v, us, rfl, e, _⟩ := h
    exact congrArg (· + 1) e
  · obtain ⟨v, us, rfl, e, hv, k⟩ := h
    obtain ⟨u0, rfl⟩ := one_of e
    refine ⟨_, (pss_cons (ps_expr (pe_callS (ok_check_machine_bad T) (hr.mono (by decide)) (by rfl) T.m_check_machine T.k_check_machine T.b_check_machine (fun σ => passAt (takes_of rfl rfl rfl rfl) σ) (pa_cons (pv 0) pa_nil)))
  pss_any), ?_⟩
    walk_at "begin"
    walk_at "go"
    refine k_callS ?_
    walk_at "go"
    exact ⟨_, rfl, .inr ⟨hv, k⟩⟩
theorem ok_mended_bad (T : Txt K mg) : FnOk P w K mg base (L2.CX P w) 2 T.a_mended T.fd_mended ["machine", "some"] (sp_nm K T.c_BadMachine 2) := by
  refine T.F_mended.okX sc_mended (fun vs H Q E h => ?_) (fun cdv A outer s H vs Q E hr h => ?_)
  · obtain ⟨v, us, rfl, e, _⟩ := h
    exact congrArg (· + 1) e
  · obtain ⟨v, us, rfl, e, hv, k⟩ := h
    obtain ⟨u0, rfl⟩ := one_of e
    refine ⟨_, (pss_cons (ps_expr (pe_callS (ok_check_machine_bad T) (hr.mono (by decide)) (by rfl) T.m_check_machine T.k_check_machine T.b_check_machine (fun σ => passAt (takes_of rfl rfl rfl rfl) σ) (pa_cons (pv 0) pa_nil)))
  pss_any), ?_⟩
    walk_at "begin"
    walk_at "go"
    refine k_callS ?_
    walk_at "go"
    exact ⟨_, rfl, .inr ⟨hv, k⟩⟩
theorem ok_bar_bad (T : Txt K mg) : FnOk P w K mg base (L2.CX P w) 2 T.a_bar T.fd_bar ["machine", "low", "high"] (sp_nm K T.c_BadMachine 3) := by
  refine T.F_bar.okX sc_bar (fun vs H Q E h => ?_) (fun cdv A outer s H vs Q E hr h => ?_)
  · obtain ⟨v, us, rfl, e, _⟩ := h
    exact congrArg (· + 1) e
  · obtain ⟨v, us, rfl, e, hv, k⟩ := h
    obtain ⟨u0, u1, rfl⟩ := two_of e
    refine ⟨_, (pss_cons (ps_expr (pe_callS (ok_check_machine_bad T) (hr.mono (by decide)) (by rfl) T.m_check_machine T.k_check_machine T.b_check_machine (fun σ => passAt (takes_of rfl rfl rfl rfl) σ) (pa_cons (pv 0) pa_nil)))
  pss_any), ?_⟩
    walk_at "begin"
    walk_at "go"
    refine k_callS ?_
    walk_at "go"
    exact ⟨_, rfl, .inr ⟨hv, k⟩⟩
theorem ok_first_leaving_bad (T : Txt K mg) : FnOk P w K mg base (L2.CX P w) 2 T.a_first_leaving T.fd_first_leaving ["machine", "low", "high"] (sp_nm K T.c_BadMachine 3) := by
  refine T.F_first_leaving.okX sc_first_leaving (fun vs H Q E h => ?_) (fun cdv A outer s H vs Q E hr h => ?_)
  · obtain ⟨v, us, rfl, e, _⟩ := h
    exact congrArg (· + 1) e
  · obtain ⟨v, us, rfl, e, hv, k⟩ := h
    obtain ⟨u0, u1, rfl⟩ := two_of e
    refine ⟨_, (pss_cons (ps_expr (pe_callS (ok_check_machine_bad T) (hr.mono (by decide)) (by rfl) T.m_check_machine T.k_check_machine T.b_check_machine (fun σ => passAt (takes_of rfl rfl rfl rfl) σ) (pa_cons (pv 0) pa_nil)))
  pss_any), ?_⟩
    walk_at "begin"
    walk_at "go"
    refine k_callS ?_
    walk_at "go"
    exact ⟨_, rfl, .inr ⟨hv, k⟩⟩
theorem ok_stays_bad (T : Txt K mg) : FnOk P w K mg base (L2.CX P w) 2 T.a_stays T.fd_stays ["machine", "low", "high"] (sp_nm K T.c_BadMachine 3) := by
  refine T.F_stays.okX sc_stays (fun vs H Q E h => ?_) (fun cdv A outer s H vs Q E hr h => ?_)
  · obtain ⟨v, us, rfl, e, _⟩ := h
    exact congrArg (· + 1) e
  · obtain ⟨v, us, rfl, e, hv, k⟩ := h
    obtain ⟨u0, u1, rfl⟩ := two_of e
    refine ⟨_, (pss_cons (ps_expr (pe_callS (ok_check_machine_bad T) (hr.mono (by decide)) (by rfl) T.m_check_machine T.k_check_machine T.b_check_machine (fun σ => passAt (takes_of rfl rfl rfl rfl) σ) (pa_cons (pv 0) pa_nil)))
  pss_any), ?_⟩
    walk_at "begin"
    walk_at "go"
    refine k_callS ?_
    walk_at "go"
    exact ⟨_, rfl, .inr ⟨hv, k⟩⟩
theorem ok_count_bad (T : Txt K mg) : FnOk P w K mg base (L2.CX P w) 2 T.a_count T.fd_count ["machine", "length", "tally"] (sp_nm K T.c_BadMachine 3) := by
  refine T.F_count.okX sc_count (fun vs H Q E h => ?_) (fun cdv A outer s H vs Q E hr h => ?_)
  · obtain ⟨v, us, rfl, e, _⟩ := h
    exact congrArg (· + 1) e
  · obtain ⟨v, us, rfl, e, hv, k⟩ := h
    obtain ⟨u0, u1, rfl⟩ := two_of e
    refine ⟨_, (pss_cons (ps_expr (pe_callS (ok_check_machine_bad T) (hr.mono (by decide)) (by rfl) T.m_check_machine T.k_check_machine T.b_check_machine (fun σ => passAt (takes_of rfl rfl rfl rfl) σ) (pa_cons (pv 0) pa_nil)))
  pss_any), ?_⟩
    walk_at "begin"
    walk_at "go"
    refine k_callS ?_
    walk_at "go"
    exact ⟨_, rfl, .inr ⟨hv, k⟩⟩
theorem ok_right_bar_bad (T : Txt K mg) : FnOk P w K mg base (L2.CX P w) 2 T.a_right_bar T.fd_right_bar ["machine", "low", "high", "value"] (sp_nm K T.c_BadMachine 4) := by
  refine T.F_right_bar.okX sc_right_bar (fun vs H Q E h => ?_) (fun cdv A outer s H vs Q E hr h => ?_)
  · obtain ⟨v, us, rfl, e, _⟩ := h
    exact congrArg (· + 1) e
  · obtain ⟨v, us, rfl, e, hv, k⟩ := h
    obtain ⟨u0, u1, u2, rfl⟩ := three_of e
    refine ⟨_, (pss_cons (ps_expr (pe_callS (ok_check_machine_bad T) (hr.mono (by decide)) (by rfl) T.m_check_machine T.k_check_machine T.b_check_machine (fun σ => passAt (takes_of rfl rfl rfl rfl) σ) (pa_cons (pv 0) pa_nil)))
  pss_any), ?_⟩
    walk_at "begin"
    walk_at "go"
    refine k_callS ?_
    walk_at "go"
    exact ⟨_, rfl, .inr ⟨hv, k⟩⟩
theorem ok_right_paper_bad (T : Txt K mg) : FnOk P w K mg base (L2.CX P w) 2 T.a_right_paper T.fd_right_paper ["machine", "low", "high", "value"] (sp_nm K T.c_BadMachine 4) := by
  refine T.F_right_paper.okX sc_right_paper (fun vs H Q E h => ?_) (fun cdv A outer s H vs Q E hr h => ?_)
  · obtain ⟨v, us, rfl, e, _⟩ := h
    exact congrArg (· + 1) e
  · obtain ⟨v, us, rfl, e, hv, k⟩ := h
    obtain ⟨u0, u1, u2, rfl⟩ := three_of e
    refine ⟨_, (pss_cons (ps_expr (pe_callS (ok_check_machine_bad T) (hr.mono (by decide)) (by rfl) T.m_check_machine T.k_check_machine T.b_check_machine (fun σ => passAt (takes_of rfl rfl rfl rfl) σ) (pa_cons (pv 0) pa_nil)))
  pss_any), ?_⟩
    walk_at "begin"
    walk_at "go"
    refine k_callS ?_
    walk_at "go"
    exact ⟨_, rfl, .inr ⟨hv, k⟩⟩
theorem ok_count_staying_bad (T : Txt K mg) : FnOk P w K mg base (L2.CX P w) 2 T.a_count_staying T.fd_count_staying ["machine", "length", "low", "high"] (sp_nm K T.c_BadMachine 4) := by
  refine T.F_count_staying.okX sc_count_staying (fun vs H Q E h => ?_) (fun cdv A outer s H vs Q E hr h => ?_)
  · obtain ⟨v, us, rfl, e, _⟩ := h
    exact congrArg (· + 1) e
  · obtain ⟨v, us, rfl, e, hv, k⟩ := h
    obtain ⟨u0, u1, u2, rfl⟩ := three_of e
    refine ⟨_, (pss_cons (ps_expr (pe_callS (ok_check_machine_bad T) (hr.mono (by decide)) (by rfl) T.m_check_machine T.k_check_machine T.b_check_machine (fun σ => passAt (takes_of rfl rfl rfl rfl) σ) (pa_cons (pv 0) pa_nil)))
  pss_any), ?_⟩
    walk_at "begin"
    walk_at "go"
    refine k_callS ?_
    walk_at "go"
    exact ⟨_, rfl, .inr ⟨hv, k⟩⟩
theorem ok_write_bad (T : Txt K mg) : FnOk P w K mg base (L2.CX P w) 2 T.a_write T.fd_write ["machine"] (sp_nm K T.c_BadMachine 1) := by
  refine T.F_write.okX sc_write (fun vs H Q E h => ?_) (fun cdv A outer s H vs Q E hr h => ?_)
  · obtain ⟨v, us, rfl, e, _⟩ := h
    exact congrArg (· + 1) e
  · obtain ⟨v, us, rfl, e, hv, k⟩ := h
    obtain rfl := List.eq_nil_of_length_eq_zero e
    refine ⟨_, (pss_cons (ps_expr (pe_callS (ok_check_machine_bad T) (hr.mono (by decide)) (by rfl) T.m_check_machine T.k_check_machine T.b_check_machine (fun σ => passAt (takes_of rfl rfl rfl rfl) σ) (pa_cons (pv 0) pa_nil)))
  pss_any), ?_⟩
    walk_at "begin"
    walk_at "go"
    refine k_callS ?_
    walk_at "go"
    exact ⟨_, rfl, .inr ⟨hv, k⟩⟩
theorem ok_tally_at_bad (T : Txt K mg) : FnOk P w K mg base (L2.CX P w) 2 T.a_tally_at T.fd_tally_at ["machine", "stand", "sign"] (sp_nm K T.c_BadMachine 3) := by
  refine T.F_tally_at.okX sc_tally_at (fun vs H Q E h => ?_) (fun cdv A outer s H vs Q E hr h => ?_)
  · obtain ⟨v, us, rfl, e, _⟩ := h
    exact congrArg (· + 1) e
  · obtain ⟨v, us, rfl, e, hv, k⟩ := h
    obtain ⟨u0, u1, rfl⟩ := two_of e
    refine ⟨_, (pss_cons (ps_expr (pe_callS (ok_check_machine_bad T) (hr.mono (by decide)) (by rfl) T.m_check_machine T.k_check_machine T.b_check_machine (fun σ => passAt (takes_of rfl rfl rfl rfl) σ) (pa_cons (pv 0) pa_nil)))
  pss_any), ?_⟩
    walk_at "begin"
    walk_at "go"
    refine k_callS ?_
    walk_at "go"
    exact ⟨_, rfl, .inr ⟨hv, k⟩⟩
theorem ok_row_at_bad (T : Txt K mg) : FnOk P w K mg base (L2.CX P w) 2 T.a_row_at T.fd_row_at ["machine", "stand", "sign"] (sp_nm K T.c_BadMachine 3) := by
  refine T.F_row_at.okX sc_row_at (fun vs H Q E h => ?_) (fun cdv A outer s H vs Q E hr h => ?_)
  · obtain ⟨v, us, rfl, e, _⟩ := h
    exact congrArg (· + 1) e
  · obtain ⟨v, us, rfl, e, hv, k⟩ := h
    obtain ⟨u0, u1, rfl⟩ := two_of e
    refine ⟨_, (pss_cons (ps_expr (pe_callS (ok_check_machine_bad T) (hr.mono (by decide)) (by rfl) T.m_check_machine T.k_check_machine T.b_check_machine (fun σ => passAt (takes_of rfl rfl rfl rfl) σ) (pa_cons (pv 0) pa_nil)))
  pss_any), ?_⟩
    walk_at "begin"
    walk_at "go"
    refine k_callS ?_
    walk_at "go"
    exact ⟨_, rfl, .inr ⟨hv, k⟩⟩
theorem ok_greatest_at_bad (T : Txt K mg) : FnOk P w K mg base (L2.CX P w) 3 T.a_greatest_at T.fd_greatest_at ["machine", "stand"] (sp_nm K T.c_BadMachine 2) := by
  refine T.F_greatest_at.okX sc_greatest_at (fun vs H Q E h => ?_) (fun cdv A outer s H vs Q E hr h => ?_)
  · obtain ⟨v, us, rfl, e, _⟩ := h
    exact congrArg (· + 1) e
  · obtain ⟨v, us, rfl, e, hv, k⟩ := h
    obtain ⟨u0, rfl⟩ := one_of e
    refine ⟨_, (pss_cons (ps_ret (pe_callS (ok_tally_at_bad T) (hr.mono (by decide)) (by rfl) T.m_tally_at T.k_tally_at T.b_tally_at (fun σ => passAt (takes_of rfl rfl rfl rfl) σ) (pa_cons (pv 0) (pa_cons (pv 1) (pa_cons pe_int pa_nil)))))
  pss_any), ?_⟩
    walk_at "begin"
    walk_at "go"
    refine k_callS ?_
    walk_at "go"
    exact ⟨_, _, rfl, rfl, hv, k⟩
theorem ok_greatest_row_bad (T : Txt K mg) : FnOk P w K mg base (L2.CX P w) 3 T.a_greatest_row T.fd_greatest_row ["machine", "stand"] (sp_nm K T.c_BadMachine 2) := by
  refine T.F_greatest_row.okX sc_greatest_row (fun vs H Q E h => ?_) (fun cdv A outer s H vs Q E hr h => ?_)
  · obtain ⟨v, us, rfl, e, _⟩ := h
    exact congrArg (· + 1) e
  · obtain ⟨v, us, rfl, e, hv, k⟩ := h
    obtain ⟨u0, rfl⟩ := one_of e
    refine ⟨_, (pss_cons (ps_ret (pe_callS (ok_row_at_bad T) (hr.mono (by decide)) (by rfl) T.m_row_at T.k_row_at T.b_row_at (fun σ => passAt (takes_of rfl rfl rfl rfl) σ) (pa_cons (pv 0) (pa_cons (pv 1) (pa_cons pe_int pa_nil)))))
  pss_any), ?_⟩
    walk_at "begin"
    walk_at "go"
    refine k_callS ?_
    walk_at "go"
    exact ⟨_, _, rfl, rfl, hv, k⟩
theorem ok_least_at_bad (T : Txt K mg) : FnOk P w K mg base (L2.CX P w) 3 T.a_least_at T.fd_least_at ["machine", "stand"] (sp_nm K T.c_BadMachine 2) := by
  refine T.F_least_at.okX sc_least_at (fun vs H Q E h => ?_) (fun cdv A outer s H vs Q E hr h => ?_)
  · obtain ⟨v, us, rfl, e, _⟩ := h
    exact congrArg (· + 1) e
  · obtain ⟨v, us, rfl, e, hv, k⟩ := h
    obtain ⟨u0, rfl⟩ := one_of e
    refine ⟨_, (pss_cons (ps_ret (pe_callS (ok_tally_at_bad T) (hr.mono (by decide)) (by rfl) T.m_tally_at T.k_tally_at T.b_tally_at (fun σ => passAt (takes_of rfl rfl rfl rfl) σ) (pa_cons (pv 0) (pa_cons (pv 1) (pa_cons (pe_un un_neg pe_int) pa_nil)))))
  pss_any), ?_⟩
    walk_at "begin"
    walk_at "go"
    refine k_callS ?_
    walk_at "go"
    exact ⟨_, _, rfl, rfl, hv, k⟩
theorem ok_least_row_bad (T : Txt K mg) : FnOk P w K mg base (L2.CX P w) 3 T.a_least_row T.fd_least_row ["machine", "stand"] (sp_nm K T.c_BadMachine 2) := by
  refine T.F_least_row.okX sc_least_row (fun vs H Q E h => ?_) (fun cdv A outer s H vs Q E hr h => ?_)
  · obtain ⟨v, us, rfl, e, _⟩ := h
    exact congrArg (· + 1) e
  · obtain ⟨v, us, rfl, e, hv, k⟩ := h
    obtain ⟨u0, rfl⟩ := one_of e
    refine ⟨_, (pss_cons (ps_ret (pe_callS (ok_row_at_bad T) (hr.mono (by decide)) (by rfl) T.m_row_at T.k_row_at T.b_row_at (fun σ => passAt (takes_of rfl rfl rfl rfl) σ) (pa_cons (pv 0) (pa_cons (pv 1) (pa_cons (pe_un un_neg pe_int) pa_nil)))))
  pss_any), ?_⟩
    walk_at "begin"
    walk_at "go"
    refine k_callS ?_
    walk_at "go"
    exact ⟨_, _, rfl, rfl, hv, k⟩
theorem ok_ends_well_bad (T : Txt K mg) : FnOk P w K mg base (L2.CX P w) 3 T.a_ends_well T.fd_ends_well ["machine", "row"] (sp_nm K T.c_BadMachine 2) := by
  refine T.F_ends_well.okX sc_ends_well (fun vs H Q E h => ?_) (fun cdv A outer s H vs Q E hr h => ?_)
  · obtain ⟨v, us, rfl, e, _⟩ := h
    exact congrArg (· + 1) e
  · obtain ⟨v, us, rfl, e, hv, k⟩ := h
    obtain ⟨u0, rfl⟩ := one_of e
    refine ⟨_, (pss_cons (ps_asg (pe_callS (ok_behind_bad T) (hr.mono (by decide)) (by rfl) T.m_behind T.k_behind T.b_behind (fun σ => passAt (takes_of rfl rfl rfl rfl) σ) (pa_cons (pv 0) (pa_cons (pv 1) pa_nil))) (pg_tup rfl (pgs_cons (pg_name (i := 2) sc_ends_well.nd rfl (Or.inl rfl)) (pgs_cons (pg_name (i := 3) sc_ends_well.nd rfl (Or.inl rfl)) pgs_nil))))
  pss_any), ?_⟩
    walk_at "begin"
    walk_at "go"
    refine k_callS ?_
    walk_at "go"
    exact ⟨_, _, rfl, rfl, hv, k⟩
theorem ok_paper_bad (T : Txt K mg) : FnOk P w K mg base (L2.CX P w) 3 T.a_paper T.fd_paper ["machine", "low", "high"] (sp_nm K T.c_BadMachine 3) := by
  refine T.F_paper.okX sc_paper (fun vs H Q E h => ?_) (fun cdv A outer s H vs Q E hr h => ?_)
  · obtain ⟨v, us, rfl, e, _⟩ := h
    exact congrArg (· + 1) e
  · obtain ⟨v, us, rfl, e, hv, k⟩ := h
    obtain ⟨u0, u1, rfl⟩ := two_of e
    refine ⟨_, (pss_cons (ps_if (pt_not (pt_truth (pe_callS (ok_stays_bad T) (hr.mono (by decide)) (by rfl) T.m_stays T.k_stays T.b_stays (fun σ => passAt (takes_of rfl rfl rfl rfl) σ) (pa_cons (pv 0) (pa_cons (pv 1) (pa_cons (pv 2) pa_nil)))) (fun _ => rfl)))
  (pss_one (ps_ret pe_non))
  pss_nil)
  pss_any), ?_⟩
    walk_at "begin"
    walk_at "go"
    refine k_callS ?_
    walk_at "go"
    exact ⟨_, _, rfl, rfl, hv, k⟩
theorem ok_difference_bad (T : Txt K mg) : FnOk P w K mg base (L2.CX P w) 2 T.a_difference T.fd_difference ["one", "other"] (sp_nm2 K T.c_Machine T.c_BadMachine 2) := by
  refine T.F_difference.okX sc_difference (fun vs H Q E h => ?_) (fun cdv A outer s H vs Q E hr h => ?_)
  · obtain ⟨v, v2, us, rfl, e, _⟩ := h
    exact congrArg (· + 2) e
  · obtain ⟨v, v2, us, rfl, e, k, hv⟩ := h
    obtain rfl := List.eq_nil_of_length_eq_zero e
    refine ⟨_, (pss_cons (ps_expr (pe_callS (ok_check_machine_bad T) (hr.mono (by decide)) (by rfl) T.m_check_machine T.k_check_machine T.b_check_machine (fun σ => passAt (takes_of rfl rfl rfl rfl) σ) (pa_cons (pv 0) pa_nil)))
  (pss_cons (ps_expr (pe_callS (ok_check_machine_bad T) (hr.mono (by decide)) (by rfl) T.m_check_machine T.k_check_machine T.b_check_machine (fun σ => passAt (takes_of rfl rfl rfl rfl) σ) (pa_cons (pv 1) pa_nil)))
  pss_any)), ?_⟩
    walk_at "begin"
    walk_at "go"
    refine k_callS ?_
    walk_at "go"
    rcases hv with hv | ⟨x, dx, fs, rfl, hx, hv⟩
    · exact ⟨_, rfl, .inr ⟨hv, k⟩⟩
    · refine ⟨_, rfl, .inl ⟨x, dx, fs, rfl, hx, ?_⟩⟩
      walk_at "go"
      refine k_callS ?_
      walk_at "go"
      exact ⟨_, rfl, .inr ⟨hv, k⟩⟩
theorem ok_first_apart_bad (T : Txt K mg) : FnOk P w K mg base (L2.CX P w) 2 T.a_first_apart T.fd_first_apart ["one", "other"] (sp_nm2 K T.c_Machine T.c_BadMachine 2) := by
  refine T.F_first_apart.okX sc_first_apart (fun vs H Q E h => ?_) (fun cdv A outer s H vs Q E hr h => ?_)
  · obtain ⟨v, v2, us, rfl, e, _⟩ := h
    exact congrArg (· + 2) e
  · obtain ⟨v, v2, us, rfl, e, k, hv⟩ := h
    obtain rfl := List.eq_nil_of_length_eq_zero e
    refine ⟨_, (pss_cons (ps_expr (pe_callS (ok_check_machine_bad T) (hr.mono (by decide)) (by rfl) T.m_check_machine T.k_check_machine T.b_check_machine (fun σ => passAt (takes_of rfl rfl rfl rfl) σ) (pa_cons (pv 0) pa_nil)))
  (pss_cons (ps_expr (pe_callS (ok_check_machine_bad T) (hr.mono (by decide)) (by rfl) T.m_check_machine T.k_check_machine T.b_check_machine (fun σ => passAt (takes_of rfl rfl rfl rfl) σ) (pa_cons (pv 1) pa_nil)))
  pss_any)), ?_⟩
    walk_at "begin"
    walk_at "go"
    refine k_callS ?_
    walk_at "go"
    rcases hv with hv | ⟨x, dx, fs, rfl, hx, hv⟩
    · exact ⟨_, rfl, .inr ⟨hv, k⟩⟩
    · refine ⟨_, rfl, .inl ⟨x, dx, fs, rfl, hx, ?_⟩⟩
      walk_at "go"
      refine k_callS ?_
      walk_at "go"
      exact ⟨_, rfl, .inr ⟨hv, k⟩⟩
theorem ok_in_step_bad (T : Txt K mg) : FnOk P w K mg base (L2.CX P w) 2 T.a_in_step T.fd_in_step ["one", "other", "most"] (sp_nm2 K T.c_Machine T.c_BadMachine 3) := by
  refine T.F_in_step.okX sc_in_step (fun vs H Q E h => ?_) (fun cdv A outer s H vs Q E hr h => ?_)
  · obtain ⟨v, v2, us, rfl, e, _⟩ := h
    exact congrArg (· + 2) e
  · obtain ⟨v, v2, us, rfl, e, k, hv⟩ := h
    obtain ⟨u0, rfl⟩ := one_of e
    refine ⟨_, (pss_cons (ps_expr (pe_callS (ok_check_machine_bad T) (hr.mono (by decide)) (by rfl) T.m_check_machine T.k_check_machine T.b_check_machine (fun σ => passAt (takes_of rfl rfl rfl rfl) σ) (pa_cons (pv 0) pa_nil)))
  (pss_cons (ps_expr (pe_callS (ok_check_machine_bad T) (hr.mono (by decide)) (by rfl) T.m_check_machine T.k_check_machine T.b_check_machine (fun σ => passAt (takes_of rfl rfl rfl rfl) σ) (pa_cons (pv 1) pa_nil)))
  pss_any)), ?_⟩
    walk_at "begin"
    walk_at "go"
    refine k_callS ?_
    walk_at "go"
    rcases hv with hv | ⟨x, dx, fs, rfl, hx, hv⟩
    · exact ⟨_, rfl, .inr ⟨hv, k⟩⟩
    · refine ⟨_, rfl, .inl ⟨x, dx, fs, rfl, hx, ?_⟩⟩
      walk_at "go"
      refine k_callS ?_
      walk_at "go"
      exact ⟨_, rfl, .inr ⟨hv, k⟩⟩
theorem ok_Meter_init_bad (T : Txt K mg) : FnOk P w K mg base (L2.CX P w) 2 T.a_Meter_init T.fd_Meter_init ["self", "machine"] (fun vs H _ E => ∃ x v, vs = [.ref x, v] ∧ NoMach K H v ∧ E (.ref T.c_BadMachine) none H) := by
  refine T.F_Meter_init.okX sc_Meter_init (fun vs H Q E h => ?_) (fun cdv A outer s H vs Q E hr h => ?_)
  · obtain ⟨x, v, rfl, _⟩ := h
    rfl
  · obtain ⟨x, v, rfl, hv, k⟩ := h
    refine ⟨_, (pss_cons (ps_expr (pe_callS (ok_check_machine_bad T) (hr.mono (by decide)) (by rfl) T.m_check_machine T.k_check_machine T.b_check_machine (fun σ => passAt (takes_of rfl rfl rfl rfl) σ) (pa_cons (pv 1) pa_nil)))
  pss_any), ?_⟩
    walk_at "begin"
    walk_at "go"
    refine k_callS ?_
    walk_at "go"
    exact ⟨_, rfl, .inr ⟨hv, k⟩⟩
end
/-! ### the values that are no machines, and the calls -/
theorem nm_of {K : PySem.W.Frag} {H : Hp} {v : V} {n : String} (h : TyX K H v (.type n)) (f : (fastFind? n).isSome = true := by decide +kernel) : NoMach K H v := ⟨n, f, h⟩
def sp_odd (K : PySem.W.Frag) : Sp := fun vs H Q _ => ∃ a : Addr, vs = [.ref a] ∧ RowOk K H a ∧ ∀ v H', RowOk K H' a → Keep a H H' → (∀ H2, Same H' H2 → NoMach K H2 v) → Q v H'
def sp_lcall (K : PySem.W.Frag) (B : Addr) : Sp := fun vs H _ E => ∃ (i : Int) (v : V), vs = [.int i, v] ∧ 0 ≤ i ∧ i < 37 ∧ (∀ H2, Same H H2 → NoMach K H2 v) ∧ ∀ H2, Same H H2 → E (.ref B) none H2
theorem md0_ok : (MD.mk 1 [] []).Ok := ⟨Nat.le_refl 1, (by decide : 1 ≤ 8), fun s h => (nomatch h), List.Pairwise.nil, Nat.zero_le _, fun s h => (nomatch h), List.Pairwise.nil, Nat.zero_le _⟩
section
variable {P : Program} {w : World} {K : PySem.W.Frag} {mg : Str → Option Value} {base : Heap}
theorem ok_law_odd (T : Txt K mg) : FnOk P w K mg base (L2.CX P w) 2 T.a_law_odd T.fd_law_odd ["_law_row"] (sp_odd K) := by
  refine T.F_law_odd.okX sc_law_odd (fun vs H Q E h => ?_) (fun cdv A outer s H vs Q E hr h => ?_)
  · obtain ⟨a, rfl, _⟩ := h
    rfl
  · obtain ⟨a, rfl, R, k⟩ := h
    refine ⟨_, (PSs.nox (pss_one (ps_ret (pe_ix ix_list (pe_lst (pa_cons pe_non (pa_cons (pe_tup (pa_cons pe_int (pa_cons (pe_tup pa_nil) (pa_cons (pe_tup pa_nil) pa_nil)))) (pa_cons pe_int (pa_cons pe_bl (pa_cons pe_str (pa_cons pe_dnewK pa_nil))))))) (pe_call (ok_law_taken T) (hr.mono (by decide)) (by rfl) T.m_law_taken T.k_law_taken T.b_law_taken .nil passL (pa_cons (pv 0) (pa_cons pe_int pa_nil))) (fun _ _ => rfl))))), ?_⟩
    walk_at "begin"
    walk_at "go"
    refine ⟨by decide, fun p0 h0 => ?_⟩
    walk_at "go"
    refine ⟨by decide, fun p1 h1 => ?_⟩
    walk_at "go"
    refine ⟨(by decide : 3 ≤ sizeLine), fun p2 h2 => ?_⟩
    walk_at "go"
    intro p3 h3
    walk_at "go"
    refine ⟨(by decide : 6 ≤ sizeLine), fun L hL => ?_⟩
    have z1 := (((Same.new (o := .tup []) h0).trans (Same.new (o := .tup []) h1)).trans (Same.new (o := .tup [V.int 1, .ref p0, .ref p1]) h2)).trans (Same.new (o := .dK []) h3)
    have e2 := (Same.new (o := .dK []) h3) _ _ (upd_same (H := upd (upd H p0 (.tup [])) p1 (.tup [])) (a := p2) (o := .tup [V.int 1, .ref p0, .ref p1]))
    have e3 := upd_same (H := upd (upd (upd H p0 (.tup [])) p1 (.tup [])) p2 (.tup [V.int 1, .ref p0, .ref p1])) (a := p3) (o := .dK [])
    generalize upd (upd (upd (upd H p0 (.tup [])) p1 (.tup [])) p2 (.tup [V.int 1, .ref p0, .ref p1])) p3 (.dK []) = H4 at z1 e2 e3 hL ⊢
    have R4 := R.same z1
    have nL := R4.ne hL
    have zL := Same.new (o := .lst [.non, .ref p2, .int 0, .bl true, .str "stands 1", .ref p3]) hL
    have eL := upd_same (H := H4) (a := L) (o := .lst [.non, .ref p2, .int 0, .bl true, .str "stands 1", .ref p3])
    have e2 := zL _ _ e2
    have e3 := zL _ _ e3
    have R5 := R4.same zL
    have z5 := z1.trans zL
    walk_at "go"
    generalize upd H4 L (.lst [.non, .ref p2, .int 0, .bl true, .str "stands 1", .ref p3]) = H5 at z5 eL e2 e3 R5 ⊢
    refine ⟨a, 6, rfl, by decide, by decide, R5, fun x H6 x0 x6 R6 k6 => ?_⟩
    obtain ⟨l5, ea⟩ := R5.lst
    have tu : ∀ {b : Addr} {o : HO}, (∀ l, o ≠ .lst l) → H5 b = some o → H6 b = some o := fun {b o} ne e => k6 _ _ (fun z => by rw [z, ea] at e; exact ne _ (Option.some.inj e).symm) e
    have e2 := tu (fun _ z => by cases z) e2
    have e3 := tu (fun _ z => by cases z) e3
    have eL := k6 _ _ (fun z => nL z.symm) eL
    have K6 : Keep a H H6 := (Keep.of_same z5).trans k6
    have done : ∃ v, atI [V.non, .ref p2, .int 0, .bl true, .str "stands 1", .ref p3] x = some v ∧ ∀ H2, Same H6 H2 → NoMach K H2 v := by
      have h : x = 0 ∨ x = 1 ∨ x = 2 ∨ x = 3 ∨ x = 4 ∨ x = 5 := by omega
      rcases h with rfl | rfl | rfl | rfl | rfl | rfl
      · exact ⟨_, rfl, fun _ _ => nm_of (.base .non)⟩
      · exact ⟨_, rfl, fun _ z => nm_of (.base (.tup (z _ _ e2)))⟩
      · exact ⟨_, rfl, fun _ _ => nm_of (.base (.int _))⟩
      · exact ⟨_, rfl, fun _ _ => nm_of (.base (.bl _))⟩
      · exact ⟨_, rfl, fun _ _ => nm_of (.base (.str _))⟩
      · exact ⟨_, rfl, fun _ z => nm_of (.base (.dK (z _ _ e3)))⟩
    obtain ⟨v, ev, hv⟩ := done
    refine k_ixL (SqL.of eL) ev ?_
    walk_at "go"
    exact k v H6 R6 K6 hv
theorem ok_law_call_bad (T : Txt K mg) : FnOk P w K mg base (L2.CX P w) 8 T.a_law_call T.fd_law_call ["_law_kind", "_law_value"] (sp_lcall K T.c_BadMachine) := by
  refine T.F_law_call.okX sc_law_call (fun vs H Q E h => ?_) (fun cdv A outer s H vs Q E hr h => ?_)
  · obtain ⟨i, v, rfl, _⟩ := h
    rfl
  · obtain ⟨i, v, rfl, i0, i37, hv, k⟩ := h
    refine ⟨_, (pss_one (ps_if (pt_cmpR op_lt (pv 0) pe_int (nomark _))
  (pss_cons (ps_set (i := 2) sc_law_call.nd rfl (Or.inl rfl) (pe_lst (pa_cons (pe_glob (v := .ref T.a_credit) (by rfl) T.m_credit rfl) (pa_cons (pe_glob (v := .ref T.a_lasting) (by rfl) T.m_lasting rfl) (pa_cons (pe_glob (v := .ref T.a_needed) (by rfl) T.m_needed rfl) (pa_cons (pe_glob (v := .ref T.a_bounds) (by rfl) T.m_bounds rfl) (pa_cons (pe_glob (v := .ref T.a_end_bounds) (by rfl) T.m_end_bounds rfl) (pa_cons (pe_glob (v := .ref T.a_reached) (by rfl) T.m_reached rfl) (pa_cons (pe_glob (v := .ref T.a_greatest_mean) (by rfl) T.m_greatest_mean rfl) (pa_cons (pe_glob (v := .ref T.a_least_mean) (by rfl) T.m_least_mean rfl) (pa_cons (pe_glob (v := .ref T.a_mean_paper) (by rfl) T.m_mean_paper rfl) (pa_cons (pe_glob (v := .ref T.a_mends) (by rfl) T.m_mends rfl) pa_nil))))))))))))
  (pss_one (ps_expr (pe_callE (P := P) (w := w) (K := K) (mg := mg) (base := base) (fun _ _ z => z) (pe_ix ix_list (pv 2) (pv 0) (fun _ _ => rfl)) hr (fun σ => passAt (takes_of rfl rfl rfl rfl) σ) (pa_cons (pv 1) pa_nil)))))
  (pss_one (ps_if (pt_cmpR op_lt (pv 0) pe_int (nomark _))
  (pss_cons (ps_set (i := 2) sc_law_call.nd rfl (Or.inl rfl) (pe_lst (pa_cons (pe_glob (v := .ref T.a_greatest_at) (by rfl) T.m_greatest_at rfl) (pa_cons (pe_glob (v := .ref T.a_greatest_row) (by rfl) T.m_greatest_row rfl) (pa_cons (pe_glob (v := .ref T.a_least_at) (by rfl) T.m_least_at rfl) (pa_cons (pe_glob (v := .ref T.a_least_row) (by rfl) T.m_least_row rfl) (pa_cons (pe_glob (v := .ref T.a_behind) (by rfl) T.m_behind rfl) (pa_cons (pe_glob (v := .ref T.a_ends_well) (by rfl) T.m_ends_well rfl) (pa_cons (pe_glob (v := .ref T.a_is_row) (by rfl) T.m_is_row rfl) (pa_cons (pe_glob (v := .ref T.a_tallies) (by rfl) T.m_tallies rfl) pa_nil))))))))))
  (pss_one (ps_expr (pe_callE (P := P) (w := w) (K := K) (mg := mg) (base := base) (fun _ _ z => z) (pe_ix ix_list (pe_op op_cat (pv 2) (pe_lst (pa_cons (pe_glob (v := .ref T.a_right_lasting) (by rfl) T.m_right_lasting rfl) (pa_cons (pe_glob (v := .ref T.a_right_mean) (by rfl) T.m_right_mean rfl) (pa_cons (pe_glob (v := .ref T.a_mended) (by rfl) T.m_mended rfl) (pa_cons (pe_glob (v := .ref T.a_difference) (by rfl) T.m_difference rfl) (pa_cons (pe_glob (v := .ref T.a_first_apart) (by rfl) T.m_first_apart rfl) pa_nil))))))) (pe_op op_sub (pv 0) pe_int) (fun _ _ => rfl)) hr (fun σ => passAt (takes_of rfl rfl rfl rfl) σ) (pa_cons (pv 1) (pa_cons pe_non pa_nil))))))
  (pss_one (ps_if (pt_cmpR op_lt (pv 0) pe_int (nomark _))
  (pss_one (ps_expr (pe_callE (P := P) (w := w) (K := K) (mg := mg) (base := base) (fun _ _ z => z) (pe_ix ix_list (pe_lst (pa_cons (pe_glob (v := .ref T.a_bar) (by rfl) T.m_bar rfl) (pa_cons (pe_glob (v := .ref T.a_first_leaving) (by rfl) T.m_first_leaving rfl) (pa_cons (pe_glob (v := .ref T.a_paper) (by rfl) T.m_paper rfl) (pa_cons (pe_glob (v := .ref T.a_stays) (by rfl) T.m_stays rfl) (pa_cons (pe_glob (v := .ref T.a_in_step) (by rfl) T.m_in_step rfl) (pa_cons (pe_glob (v := .ref T.a_count) (by rfl) T.m_count rfl) pa_nil))))))) (pe_op op_sub (pv 0) pe_int) (fun _ _ => rfl)) hr (fun σ => passAt (takes_of rfl rfl rfl rfl) σ) (pa_cons (pv 1) (pa_cons pe_non (pa_cons pe_non pa_nil))))))
  (pss_one (ps_if (pt_cmpR op_lt (pv 0) pe_int (nomark _))
  (pss_one (ps_expr (pe_callE (P := P) (w := w) (K := K) (mg := mg) (base := base) (fun _ _ z => z) (pe_ix ix_list (pe_lst (pa_cons (pe_glob (v := .ref T.a_right_bar) (by rfl) T.m_right_bar rfl) (pa_cons (pe_glob (v := .ref T.a_right_paper) (by rfl) T.m_right_paper rfl) (pa_cons (pe_glob (v := .ref T.a_count_staying) (by rfl) T.m_count_staying rfl) pa_nil)))) (pe_op op_sub (pv 0) pe_int) (fun _ _ => rfl)) hr (fun σ => passAt (takes_of rfl rfl rfl rfl) σ) (pa_cons (pv 1) (pa_cons pe_non (pa_cons pe_non (pa_cons pe_non pa_nil)))))))
  (pss_one (ps_if (pt_cmpR op_lt (pv 0) pe_int (nomark _))
  (pss_one (ps_expr (pe_callE (P := P) (w := w) (K := K) (mg := mg) (base := base) (fun _ _ z => z) (pe_ix ix_list (pe_lst (pa_cons (pe_glob (v := .ref T.a_difference) (by rfl) T.m_difference rfl) (pa_cons (pe_glob (v := .ref T.a_first_apart) (by rfl) T.m_first_apart rfl) pa_nil))) (pe_op op_sub (pv 0) pe_int) (fun _ _ => rfl)) hr (fun σ => passAt (takes_of rfl rfl rfl rfl) σ) (pa_cons (pe_make T.mk_Machine (ok_Machine_init T) (hr.mono (by decide)) (by rfl) T.m_Machine T.b_Machine_init .nil passL (pa_cons pe_int (pa_cons (pe_tup pa_nil) (pa_cons (pe_tup pa_nil) pa_nil)))) (pa_cons (pv 1) pa_nil)))))
  (pss_one (ps_if (pt_cmpR op_eq (pv 0) pe_int (nomark _))
  (pss_one (ps_expr (pe_callS (ok_in_step_bad T) (hr.mono (by decide)) (by rfl) T.m_in_step T.k_in_step T.b_in_step (fun σ => passAt (takes_of rfl rfl rfl rfl) σ) (pa_cons (pe_make T.mk_Machine (ok_Machine_init T) (hr.mono (by decide)) (by rfl) T.m_Machine T.b_Machine_init .nil passL (pa_cons pe_int (pa_cons (pe_tup pa_nil) (pa_cons (pe_tup pa_nil) pa_nil)))) (pa_cons (pv 1) (pa_cons pe_non pa_nil))))))
  (pss_one (ps_if (pt_cmpR op_eq (pv 0) pe_int (nomark _))
  (pss_one (ps_expr (pe_callS (ok_write_bad T) (hr.mono (by decide)) (by rfl) T.m_write T.k_write T.b_write (fun σ => passAt (takes_of rfl rfl rfl rfl) σ) (pa_cons (pv 1) pa_nil))))
  (pss_one (ps_expr (pe_makeS T.mk_Meter (ok_Meter_init_bad T) (hr.mono (by decide)) (by rfl) T.m_Meter T.b_Meter_init (fun σ => passAt (takes_of rfl rfl rfl rfl) σ) (pa_cons (pv 1) pa_nil)))))))))))))))))), ?_⟩
    walk_at "begin"
    walk_at "go"
    refine k_ite (fun c0 => ?_) (fun c0 => ?_)
    · walk_at "go"
      refine ⟨by show 10 ≤ sizeLine; decide, fun l hl => ?_⟩
      have zl := Same.new (o := .lst [V.ref T.a_credit, V.ref T.a_lasting, V.ref T.a_needed, V.ref T.a_bounds, V.ref T.a_end_bounds, V.ref T.a_reached, V.ref T.a_greatest_mean, V.ref T.a_least_mean, V.ref T.a_mean_paper, V.ref T.a_mends]) hl
      walk_at "go"
      refine k_callE ?_
      walk_at "go"
      have done : ∃ (f : Addr) (sp : Sp), atI [V.ref T.a_credit, V.ref T.a_lasting, V.ref T.a_needed, V.ref T.a_bounds, V.ref T.a_end_bounds, V.ref T.a_reached, V.ref T.a_greatest_mean, V.ref T.a_least_mean, V.ref T.a_mean_paper, V.ref T.a_mends] (i - 0) = some (.ref f) ∧ HeldX P w K mg base 7 f sp ∧ ∀ {H2 : Hp} {Q2 : VK} {E2 : XK}, NoMach K H2 v → E2 (.ref T.c_BadMachine) none H2 → sp ([v]) H2 Q2 E2 := by
        have h : i = 0 ∨ i = 1 ∨ i = 2 ∨ i = 3 ∨ i = 4 ∨ i = 5 ∨ i = 6 ∨ i = 7 ∨ i = 8 ∨ i = 9 := by omega
        rcases h with rfl | rfl | rfl | rfl | rfl | rfl | rfl | rfl | rfl | rfl
        · exact ⟨_, _, rfl, ⟨_, _, _, by decide, ok_credit_bad T, T.k_credit, T.b_credit⟩, fun hv k => ⟨_, _, rfl, rfl, hv, k⟩⟩
        · exact ⟨_, _, rfl, ⟨_, _, _, by decide, ok_lasting_bad T, T.k_lasting, T.b_lasting⟩, fun hv k => ⟨_, _, rfl, rfl, hv, k⟩⟩
        · exact ⟨_, _, rfl, ⟨_, _, _, by decide, ok_needed_bad T, T.k_needed, T.b_needed⟩, fun hv k => ⟨_, _, rfl, rfl, hv, k⟩⟩
        · exact ⟨_, _, rfl, ⟨_, _, _, by decide, ok_bounds_bad T, T.k_bounds, T.b_bounds⟩, fun hv k => ⟨_, _, rfl, rfl, hv, k⟩⟩
        · exact ⟨_, _, rfl, ⟨_, _, _, by decide, ok_end_bounds_bad T, T.k_end_bounds, T.b_end_bounds⟩, fun hv k => ⟨_, _, rfl, rfl, hv, k⟩⟩
        · exact ⟨_, _, rfl, ⟨_, _, _, by decide, ok_reached_bad T, T.k_reached, T.b_reached⟩, fun hv k => ⟨_, _, rfl, rfl, hv, k⟩⟩
        · exact ⟨_, _, rfl, ⟨_, _, _, by decide, ok_greatest_mean_bad T, T.k_greatest_mean, T.b_greatest_mean⟩, fun hv k => ⟨_, _, rfl, rfl, hv, k⟩⟩
        · exact ⟨_, _, rfl, ⟨_, _, _, by decide, ok_least_mean_bad T, T.k_least_mean, T.b_least_mean⟩, fun hv k => ⟨_, _, rfl, rfl, hv, k⟩⟩
        · exact ⟨_, _, rfl, ⟨_, _, _, by decide, ok_mean_paper_bad T, T.k_mean_paper, T.b_mean_paper⟩, fun hv k => ⟨_, _, rfl, rfl, hv, k⟩⟩
        · exact ⟨_, _, rfl, ⟨_, _, _, by decide, ok_mends_bad T, T.k_mends, T.b_mends⟩, fun hv k => ⟨_, _, rfl, rfl, hv, k⟩⟩
      obtain ⟨f, sp, ef, hf, hsp⟩ := done
      rw [Int.sub_zero] at ef
      refine k_ixL (SqL.of upd_same) ef ⟨f, sp, rfl, hf, ?_⟩
      walk_at "go"
      exact hsp (hv _ zl) (k _ zl)
    walk_at "go"
    refine k_ite (fun c1 => ?_) (fun c1 => ?_)
    · walk_at "go"
      refine ⟨by show 8 ≤ sizeLine; decide, fun l hl => ?_⟩
      have zl := Same.new (o := .lst [V.ref T.a_greatest_at, V.ref T.a_greatest_row, V.ref T.a_least_at, V.ref T.a_least_row, V.ref T.a_behind, V.ref T.a_ends_well, V.ref T.a_is_row, V.ref T.a_tallies]) hl
      have el := upd_same (H := H) (a := l) (o := .lst [V.ref T.a_greatest_at, V.ref T.a_greatest_row, V.ref T.a_least_at, V.ref T.a_least_row, V.ref T.a_behind, V.ref T.a_ends_well, V.ref T.a_is_row, V.ref T.a_tallies])
      generalize upd H l (.lst [V.ref T.a_greatest_at, V.ref T.a_greatest_row, V.ref T.a_least_at, V.ref T.a_least_row, V.ref T.a_behind, V.ref T.a_ends_well, V.ref T.a_is_row, V.ref T.a_tallies]) = H1 at zl el ⊢
      walk_at "go"
      refine k_callE ?_
      walk_at "go"
      refine ⟨by show 5 ≤ sizeLine; decide, fun l2 hl2 => ?_⟩
      have zl2 := Same.new (o := .lst [V.ref T.a_right_lasting, V.ref T.a_right_mean, V.ref T.a_mended, V.ref T.a_difference, V.ref T.a_first_apart]) hl2
      have el2 := upd_same (H := H1) (a := l2) (o := .lst [V.ref T.a_right_lasting, V.ref T.a_right_mean, V.ref T.a_mended, V.ref T.a_difference, V.ref T.a_first_apart])
      generalize upd H1 l2 (.lst [V.ref T.a_right_lasting, V.ref T.a_right_mean, V.ref T.a_mended, V.ref T.a_difference, V.ref T.a_first_apart]) = H2 at zl2 el2 ⊢
      refine ⟨l, l2, _, _, rfl, rfl, zl2 _ _ el, el2, (by show 8 + 5 ≤ sizeLine; decide), fun l3 hl3 => ?_⟩
      walk_at "go"
      have done : ∃ (f : Addr) (sp : Sp), atI [V.ref T.a_greatest_at, V.ref T.a_greatest_row, V.ref T.a_least_at, V.ref T.a_least_row, V.ref T.a_behind, V.ref T.a_ends_well, V.ref T.a_is_row, V.ref T.a_tallies, V.ref T.a_right_lasting, V.ref T.a_right_mean, V.ref T.a_mended, V.ref T.a_difference, V.ref T.a_first_apart] (i - 10) = some (.ref f) ∧ HeldX P w K mg base 7 f sp ∧ ∀ {H2 : Hp} {Q2 : VK} {E2 : XK}, NoMach K H2 v → E2 (.ref T.c_BadMachine) none H2 → sp ([v, .non]) H2 Q2 E2 := by
        have h : i = 10 ∨ i = 11 ∨ i = 12 ∨ i = 13 ∨ i = 14 ∨ i = 15 ∨ i = 16 ∨ i = 17 ∨ i = 18 ∨ i = 19 ∨ i = 20 ∨ i = 21 ∨ i = 22 := by omega
        rcases h with rfl | rfl | rfl | rfl | rfl | rfl | rfl | rfl | rfl | rfl | rfl | rfl | rfl
        · exact ⟨_, _, rfl, ⟨_, _, _, by decide, ok_greatest_at_bad T, T.k_greatest_at, T.b_greatest_at⟩, fun hv k => ⟨_, _, rfl, rfl, hv, k⟩⟩
        · exact ⟨_, _, rfl, ⟨_, _, _, by decide, ok_greatest_row_bad T, T.k_greatest_row, T.b_greatest_row⟩, fun hv k => ⟨_, _, rfl, rfl, hv, k⟩⟩
        · exact ⟨_, _, rfl, ⟨_, _, _, by decide, ok_least_at_bad T, T.k_least_at, T.b_least_at⟩, fun hv k => ⟨_, _, rfl, rfl, hv, k⟩⟩
        · exact ⟨_, _, rfl, ⟨_, _, _, by decide, ok_least_row_bad T, T.k_least_row, T.b_least_row⟩, fun hv k => ⟨_, _, rfl, rfl, hv, k⟩⟩
        · exact ⟨_, _, rfl, ⟨_, _, _, by decide, ok_behind_bad T, T.k_behind, T.b_behind⟩, fun hv k => ⟨_, _, rfl, rfl, hv, k⟩⟩
        · exact ⟨_, _, rfl, ⟨_, _, _, by decide, ok_ends_well_bad T, T.k_ends_well, T.b_ends_well⟩, fun hv k => ⟨_, _, rfl, rfl, hv, k⟩⟩
        · exact ⟨_, _, rfl, ⟨_, _, _, by decide, ok_is_row_bad T, T.k_is_row, T.b_is_row⟩, fun hv k => ⟨_, _, rfl, rfl, hv, k⟩⟩
        · exact ⟨_, _, rfl, ⟨_, _, _, by decide, ok_tallies_bad T, T.k_tallies, T.b_tallies⟩, fun hv k => ⟨_, _, rfl, rfl, hv, k⟩⟩
        · exact ⟨_, _, rfl, ⟨_, _, _, by decide, ok_right_lasting_bad T, T.k_right_lasting, T.b_right_lasting⟩, fun hv k => ⟨_, _, rfl, rfl, hv, k⟩⟩
        · exact ⟨_, _, rfl, ⟨_, _, _, by decide, ok_right_mean_bad T, T.k_right_mean, T.b_right_mean⟩, fun hv k => ⟨_, _, rfl, rfl, hv, k⟩⟩
        · exact ⟨_, _, rfl, ⟨_, _, _, by decide, ok_mended_bad T, T.k_mended, T.b_mended⟩, fun hv k => ⟨_, _, rfl, rfl, hv, k⟩⟩
        · exact ⟨_, _, rfl, ⟨_, _, _, by decide, ok_difference_bad T, T.k_difference, T.b_difference⟩, fun hv k => ⟨_, _, _, rfl, rfl, k, .inl hv⟩⟩
        · exact ⟨_, _, rfl, ⟨_, _, _, by decide, ok_first_apart_bad T, T.k_first_apart, T.b_first_apart⟩, fun hv k => ⟨_, _, _, rfl, rfl, k, .inl hv⟩⟩
      obtain ⟨f, sp, ef, hf, hsp⟩ := done
      have zl3 := Same.new (o := .lst [V.ref T.a_greatest_at, V.ref T.a_greatest_row, V.ref T.a_least_at, V.ref T.a_least_row, V.ref T.a_behind, V.ref T.a_ends_well, V.ref T.a_is_row, V.ref T.a_tallies, V.ref T.a_right_lasting, V.ref T.a_right_mean, V.ref T.a_mended, V.ref T.a_difference, V.ref T.a_first_apart]) hl3
      refine k_ixL (SqL.of upd_same) ef ⟨f, sp, rfl, hf, ?_⟩
      walk_at "go"
      exact hsp (hv _ ((zl.trans zl2).trans zl3)) (k _ ((zl.trans zl2).trans zl3))
    walk_at "go"
    refine k_ite (fun c2 => ?_) (fun c2 => ?_)
    · walk_at "go"
      refine k_callE ?_
      walk_at "go"
      refine ⟨by show 6 ≤ sizeLine; decide, fun l hl => ?_⟩
      have zl := Same.new (o := .lst [V.ref T.a_bar, V.ref T.a_first_leaving, V.ref T.a_paper, V.ref T.a_stays, V.ref T.a_in_step, V.ref T.a_count]) hl
      walk_at "go"
      have done : ∃ (f : Addr) (sp : Sp), atI [V.ref T.a_bar, V.ref T.a_first_leaving, V.ref T.a_paper, V.ref T.a_stays, V.ref T.a_in_step, V.ref T.a_count] (i - 23) = some (.ref f) ∧ HeldX P w K mg base 7 f sp ∧ ∀ {H2 : Hp} {Q2 : VK} {E2 : XK}, NoMach K H2 v → E2 (.ref T.c_BadMachine) none H2 → sp ([v, .non, .non]) H2 Q2 E2 := by
        have h : i = 23 ∨ i = 24 ∨ i = 25 ∨ i = 26 ∨ i = 27 ∨ i = 28 := by omega
        rcases h with rfl | rfl | rfl | rfl | rfl | rfl
        · exact ⟨_, _, rfl, ⟨_, _, _, by decide, ok_bar_bad T, T.k_bar, T.b_bar⟩, fun hv k => ⟨_, _, rfl, rfl, hv, k⟩⟩
        · exact ⟨_, _, rfl, ⟨_, _, _, by decide, ok_first_leaving_bad T, T.k_first_leaving, T.b_first_leaving⟩, fun hv k => ⟨_, _, rfl, rfl, hv, k⟩⟩
        · exact ⟨_, _, rfl, ⟨_, _, _, by decide, ok_paper_bad T, T.k_paper, T.b_paper⟩, fun hv k => ⟨_, _, rfl, rfl, hv, k⟩⟩
        · exact ⟨_, _, rfl, ⟨_, _, _, by decide, ok_stays_bad T, T.k_stays, T.b_stays⟩, fun hv k => ⟨_, _, rfl, rfl, hv, k⟩⟩
        · exact ⟨_, _, rfl, ⟨_, _, _, by decide, ok_in_step_bad T, T.k_in_step, T.b_in_step⟩, fun hv k => ⟨_, _, _, rfl, rfl, k, .inl hv⟩⟩
        · exact ⟨_, _, rfl, ⟨_, _, _, by decide, ok_count_bad T, T.k_count, T.b_count⟩, fun hv k => ⟨_, _, rfl, rfl, hv, k⟩⟩
      obtain ⟨f, sp, ef, hf, hsp⟩ := done
      refine k_ixL (SqL.of upd_same) ef ⟨f, sp, rfl, hf, ?_⟩
      walk_at "go"
      exact hsp (hv _ zl) (k _ zl)
    walk_at "go"
    refine k_ite (fun c3 => ?_) (fun c3 => ?_)
    · walk_at "go"
      refine k_callE ?_
      walk_at "go"
      refine ⟨by show 3 ≤ sizeLine; decide, fun l hl => ?_⟩
      have zl := Same.new (o := .lst [V.ref T.a_right_bar, V.ref T.a_right_paper, V.ref T.a_count_staying]) hl
      walk_at "go"
      have done : ∃ (f : Addr) (sp : Sp), atI [V.ref T.a_right_bar, V.ref T.a_right_paper, V.ref T.a_count_staying] (i - 29) = some (.ref f) ∧ HeldX P w K mg base 7 f sp ∧ ∀ {H2 : Hp} {Q2 : VK} {E2 : XK}, NoMach K H2 v → E2 (.ref T.c_BadMachine) none H2 → sp ([v, .non, .non, .non]) H2 Q2 E2 := by
        have h : i = 29 ∨ i = 30 ∨ i = 31 := by omega
        rcases h with rfl | rfl | rfl
        · exact ⟨_, _, rfl, ⟨_, _, _, by decide, ok_right_bar_bad T, T.k_right_bar, T.b_right_bar⟩, fun hv k => ⟨_, _, rfl, rfl, hv, k⟩⟩
        · exact ⟨_, _, rfl, ⟨_, _, _, by decide, ok_right_paper_bad T, T.k_right_paper, T.b_right_paper⟩, fun hv k => ⟨_, _, rfl, rfl, hv, k⟩⟩
        · exact ⟨_, _, rfl, ⟨_, _, _, by decide, ok_count_staying_bad T, T.k_count_staying, T.b_count_staying⟩, fun hv k => ⟨_, _, rfl, rfl, hv, k⟩⟩
      obtain ⟨f, sp, ef, hf, hsp⟩ := done
      refine k_ixL (SqL.of upd_same) ef ⟨f, sp, rfl, hf, ?_⟩
      walk_at "go"
      exact hsp (hv _ zl) (k _ zl)
    walk_at "go"
    refine k_ite (fun c4 => ?_) (fun c4 => ?_)
    · walk_at "go"
      refine k_callE ?_
      walk_at "go"
      refine ⟨by show 2 ≤ sizeLine; decide, fun l hl => ?_⟩
      have zl := Same.new (o := .lst [V.ref T.a_difference, V.ref T.a_first_apart]) hl
      walk_at "go"
      have done : ∃ (f : Addr) (sp : Sp), atI [V.ref T.a_difference, V.ref T.a_first_apart] (i - 32) = some (.ref f) ∧ HeldX P w K mg base 7 f sp ∧ ∀ {H2 : Hp} {Q2 : VK} {E2 : XK} {x dx : Addr} {fs : List (Str × V)}, H2 x = some (.ins T.c_Machine dx fs) → NoMach K H2 v → E2 (.ref T.c_BadMachine) none H2 → sp [.ref x, v] H2 Q2 E2 := by
        have h : i = 32 ∨ i = 33 := by omega
        rcases h with rfl | rfl
        · exact ⟨_, _, rfl, ⟨_, _, _, by decide, ok_difference_bad T, T.k_difference, T.b_difference⟩, fun hx hv k => ⟨_, _, _, rfl, rfl, k, .inr ⟨_, _, _, rfl, hx, hv⟩⟩⟩
        · exact ⟨_, _, rfl, ⟨_, _, _, by decide, ok_first_apart_bad T, T.k_first_apart, T.b_first_apart⟩, fun hx hv k => ⟨_, _, _, rfl, rfl, k, .inr ⟨_, _, _, rfl, hx, hv⟩⟩⟩
      obtain ⟨f, sp, ef, hf, hsp⟩ := done
      refine k_ixL (SqL.of upd_same) ef ⟨f, sp, rfl, hf, ?_⟩
      generalize upd H l (.lst [V.ref T.a_difference, V.ref T.a_first_apart]) = H1 at zl ⊢
      walk_at "go"
      refine ⟨by decide, fun t ht => ?_⟩
      walk_at "go"
      refine ⟨by decide, fun u hu => ?_⟩
      have et := (Same.new (o := .tup []) hu) _ _ (upd_same (H := H1) (a := t) (o := .tup []))
      have eu := upd_same (H := upd H1 t (.tup [])) (a := u) (o := .tup [])
      have zt := (Same.new (o := .tup []) ht).trans (Same.new (o := .tup []) hu)
      generalize upd (upd H1 t (.tup [])) u (.tup []) = H3 at et eu zt ⊢
      walk_at "go"
      intro x dx hx hdx ne
      have z3 : Same H3 (upd (upd H3 dx (.own x)) x (.ins T.c_Machine dx [])) := (Same.new hdx).trans (Same.new (by rw [upd_ne ne.symm]; exact hx))
      refine ⟨x, dx, t, u, MD.mk 1 [] [], rfl, upd_same, ⟨⟨[], .inl (.inl (z3 _ _ et)), rfl, fun i s e => by simp at e⟩, .inl (.inl (z3 _ _ eu))⟩, md0_ok, fun H4 k4 e4 => ⟨rfl, ?_⟩⟩
      have z4 : Same H3 H4 := fun b o e => k4 b o (fun z => by rw [z, hx] at e; cases e) (z3 _ _ e)
      walk_at "go"
      exact hsp e4 (hv _ ((zl.trans zt).trans z4)) (k _ ((zl.trans zt).trans z4))
    walk_at "go"
    refine k_ite (fun c5 => ?_) (fun c5 => ?_)
    · walk_at "go"
      refine k_callS ?_
      walk_at "go"
      refine ⟨by decide, fun t ht => ?_⟩
      walk_at "go"
      refine ⟨by decide, fun u hu => ?_⟩
      have et := (Same.new (o := .tup []) hu) _ _ (upd_same (H := H) (a := t) (o := .tup []))
      have eu := upd_same (H := upd H t (.tup [])) (a := u) (o := .tup [])
      have zt := (Same.new (o := .tup []) ht).trans (Same.new (o := .tup []) hu)
      generalize upd (upd H t (.tup [])) u (.tup []) = H3 at et eu zt ⊢
      walk_at "go"
      intro x dx hx hdx ne
      have z3 : Same H3 (upd (upd H3 dx (.own x)) x (.ins T.c_Machine dx [])) := (Same.new hdx).trans (Same.new (by rw [upd_ne ne.symm]; exact hx))
      refine ⟨x, dx, t, u, MD.mk 1 [] [], rfl, upd_same, ⟨⟨[], .inl (.inl (z3 _ _ et)), rfl, fun i s e => by simp at e⟩, .inl (.inl (z3 _ _ eu))⟩, md0_ok, fun H4 k4 e4 => ⟨rfl, ?_⟩⟩
      have z4 : Same H3 H4 := fun b o e => k4 b o (fun z => by rw [z, hx] at e; cases e) (z3 _ _ e)
      walk_at "go"
      exact ⟨_, _, _, rfl, rfl, k _ (zt.trans z4), .inr ⟨_, _, _, rfl, e4, hv _ (zt.trans z4)⟩⟩
    walk_at "go"
    refine k_ite (fun c6 => ?_) (fun c6 => ?_)
    · walk_at "go"
      refine k_callS ?_
      walk_at "go"
      exact ⟨_, _, rfl, rfl, hv _ (Same.refl _), k _ (Same.refl _)⟩
    · walk_at "go"
      refine k_makeS ?_
      walk_at "go"
      intro x dx hx hdx ne
      have z3 : Same H (upd (upd H dx (.own x)) x (.ins T.c_Meter dx [])) := (Same.new hdx).trans (Same.new (by rw [upd_ne ne.symm]; exact hx))
      exact ⟨_, _, rfl, hv _ z3, k _ z3⟩
def sp_law (K : PySem.W.Frag) : Sp := fun vs H Q _ => ∃ (sc : Addr) (ns : List Int), vs = [.ref sc] ∧ ScAt K H sc (ns.map V.int) ∧ ns.length ≤ 63 ∧ ∀ H', Q (.bl true) H'
theorem ok_law (T : Txt K mg) : FnOk P w K mg base (L2.CX P w) 10 T.a_law T.fd_law ["_law_script"] (sp_law K) := by
  refine T.F_law.okX sc_law (fun vs H Q E h => ?_) (fun cdv A outer s H vs Q E hr h => ?_)
  · obtain ⟨sc, ns, rfl, _⟩ := h
    rfl
  · obtain ⟨sc, ns, rfl, hsc, hns, k⟩ := h
    refine ⟨_, (PSs.nox (pss_cons (ps_set (i := 1) sc_law.nd rfl (Or.inl rfl) (pe_lst (pa_cons (pv 0) (pa_cons pe_int (pa_cons pe_int (pa_cons pe_int pa_nil))))))
  (pss_cons (ps_for PassesOwn.never rfl (pi_range1 (by rfl) T.z_range (pa_cons pe_int pa_nil)) (pg_name (i := 2) sc_law.nd rfl (Or.inl rfl))
  (pss_cons (ps_set (i := 3) sc_law.nd rfl (Or.inl rfl) pe_bl)
  (pss_cons (ps_try_only rfl rfl ⟨rfl, by decide, .inl T.m_BadMachine⟩ takes0 (fun W pn xe tk _ => (pss_one (ps_expr (pe_callS (ok_law_call_bad T) (hr.mono (by decide)) (by rfl) T.m_law_call T.k_law_call T.b_law_call (fun σ => passAt tk σ) (pa_cons (pe_call (ok_law_taken T) (hr.mono (by decide)) (by rfl) T.m_law_taken T.k_law_taken T.b_law_taken .nil passL (pa_cons (pv 1) (pa_cons pe_int pa_nil))) (pa_cons (pe_call (ok_law_odd T) (hr.mono (by decide)) (by rfl) T.m_law_odd T.k_law_odd T.b_law_odd .nil passL (pa_cons (pv 1) pa_nil)) pa_nil)))))) (fun a oe cls d pn _ _ => (pss_one (ps_set (i := 3) sc_law.nd rfl (Or.inl rfl) pe_bl))))
  (pss_one (ps_if (pt_not (pt_val (pv 3)))
  (pss_one (ps_ret pe_bl))
  pss_nil)))))
  (pss_one (ps_ret pe_bl))))), ?_⟩
    walk_at "begin"
    walk_at "go"
    refine ⟨(by decide : 4 ≤ sizeLine), fun a ha => ?_⟩
    have R1 : RowOk K (upd H a (.lst [.ref sc, .int 0, .int 202, .int 0])) a := ⟨sc, ns, 0, 202, 0, upd_same, hsc.same (Same.new ha), hns, by decide, by decide, by decide⟩
    generalize upd H a (.lst [.ref sc, .int 0, .int 202, .int 0]) = H1 at R1 ⊢
    walk_at "go"
    refine k_rg (by decide) (by decide) ?_
    refine for_range (lo := 0) (n := 12) (fun i σ H' => ∃ b2 b3, RowOk K H' a ∧ σ = [some (.ref sc), some (.ref a), b2, b3]) ⟨_, _, R1, rfl⟩ ?_ ?_
    · rintro i σ H2 hi ⟨b2, b3, R2, rfl⟩
      walk_at "go"
      refine k_callS ?_
      walk_at "go"
      refine ⟨a, 37, rfl, by decide, by decide, R2, fun x H3 x0 x1 R3 k3 => ?_⟩
      walk_at "go"
      refine ⟨a, rfl, R3, fun v H4 R4 k4 hv => ?_⟩
      walk_at "go"
      refine ⟨x, v, rfl, x0, x1, hv, fun H5 z5 => ⟨true, T.e_BadMachine, fun _ b hb => ?_, fun q => nomatch q⟩⟩
      walk_at "go"
      refine iteF ?_
      walk_at "go"
      exact ⟨_, _, R4.same z5, rfl⟩
    · rintro σ H2 ⟨b2, b3, R2, rfl⟩
      walk_at "go"
      exact k _
end
/-! ### what the written part says -/
theorem exc_self {K : PySem.W.Frag} {S : Addr} (hb : PySem.W.subIn K (.ref S) (.type "BaseException") = some true) (hc : PySem.W.isClsIn K S = true) (ht : PySem.W.typeIn K (.ref S) = some (.type "type")) (hs : PySem.W.subIn K (.ref S) (.ref S) = some true) : PySem.W.exmOne K (.ref S) (.ref S) = some true := by
  have hc' : (PySem.W.clsIn K S).isSome = true := hc
  unfold PySem.W.exmOne PySem.W.kitCls
  simp only [hb, ht, hc', hs, beq_self_eq_true, Bool.and_self, if_true]
theorem bb_Machine_init (kV doc pm : Value) (an : Option Addr) (cdv ct : Value) (us : List Value) (hl : us.length = 4) : bindArgs (PySem.W.fnOf "__init__" "Machine.__init__" (defArgs s_Machine_init) (defBody s_Machine_init) (defScope s_Machine_init) .none kV doc pm an cdv ct) ⟨us, []⟩ = pure ((["self", "stands", "steps", "ends"] : List Str).zip us) := match us, hl with | [_, _, _, _], _ => rfl
theorem bb_is_whole_number (kV doc pm : Value) (an : Option Addr) (cdv ct : Value) (us : List Value) (hl : us.length = 1) : bindArgs (PySem.W.fnOf "is_whole_number" "is_whole_number" (defArgs s_is_whole_number) (defBody s_is_whole_number) (defScope s_is_whole_number) .none kV doc pm an cdv ct) ⟨us, []⟩ = pure ((["value"] : List Str).zip us) := match us, hl with | [_], _ => rfl
theorem bb_is_integer_between (kV doc pm : Value) (an : Option Addr) (cdv ct : Value) (us : List Value) (hl : us.length = 3) : bindArgs (PySem.W.fnOf "is_integer_between" "is_integer_between" (defArgs s_is_integer_between) (defBody s_is_integer_between) (defScope s_is_integer_between) .none kV doc pm an cdv ct) ⟨us, []⟩ = pure ((["value", "least", "most"] : List Str).zip us) := match us, hl with | [_, _, _], _ => rfl
theorem bb_is_stand (kV doc pm : Value) (an : Option Addr) (cdv ct : Value) (us : List Value) (hl : us.length = 2) : bindArgs (PySem.W.fnOf "_is_stand" "_is_stand" (defArgs s_is_stand) (defBody s_is_stand) (defScope s_is_stand) .none kV doc pm an cdv ct) ⟨us, []⟩ = pure ((["stands", "value"] : List Str).zip us) := match us, hl with | [_, _], _ => rfl
theorem bb_check_stands (kV doc pm : Value) (an : Option Addr) (cdv ct : Value) (us : List Value) (hl : us.length = 1) : bindArgs (PySem.W.fnOf "_check_stands" "_check_stands" (defArgs s_check_stands) (defBody s_check_stands) (defScope s_check_stands) .none kV doc pm an cdv ct) ⟨us, []⟩ = pure ((["stands"] : List Str).zip us) := match us, hl with | [_], _ => rfl
theorem bb_is_step (kV doc pm : Value) (an : Option Addr) (cdv ct : Value) (us : List Value) (hl : us.length = 2) : bindArgs (PySem.W.fnOf "_is_step" "_is_step" (defArgs s_is_step) (defBody s_is_step) (defScope s_is_step) .none kV doc pm an cdv ct) ⟨us, []⟩ = pure ((["stands", "value"] : List Str).zip us) := match us, hl with | [_, _], _ => rfl
theorem bb_check_steps (kV doc pm : Value) (an : Option Addr) (cdv ct : Value) (us : List Value) (hl : us.length = 2) : bindArgs (PySem.W.fnOf "_check_steps" "_check_steps" (defArgs s_check_steps) (defBody s_check_steps) (defScope s_check_steps) .none kV doc pm an cdv ct) ⟨us, []⟩ = pure ((["stands", "steps"] : List Str).zip us) := match us, hl with | [_, _], _ => rfl
theorem bb_is_ascending (kV doc pm : Value) (an : Option Addr) (cdv ct : Value) (us : List Value) (hl : us.length = 2) : bindArgs (PySem.W.fnOf "is_ascending" "is_ascending" (defArgs s_is_ascending) (defBody s_is_ascending) (defScope s_is_ascending) .none kV doc pm an cdv ct) ⟨us, []⟩ = pure ((["value", "many"] : List Str).zip us) := match us, hl with | [_, _], _ => rfl
theorem bb_check_ends (kV doc pm : Value) (an : Option Addr) (cdv ct : Value) (us : List Value) (hl : us.length = 2) : bindArgs (PySem.W.fnOf "_check_ends" "_check_ends" (defArgs s_check_ends) (defBody s_check_ends) (defScope s_check_ends) .none kV doc pm an cdv ct) ⟨us, []⟩ = pure ((["stands", "ends"] : List Str).zip us) := match us, hl with | [_, _], _ => rfl
theorem bb_check_machine (kV doc pm : Value) (an : Option Addr) (cdv ct : Value) (us : List Value) (hl : us.length = 1) : bindArgs (PySem.W.fnOf "check_machine" "check_machine" (defArgs s_check_machine) (defBody s_check_machine) (defScope s_check_machine) .none kV doc pm an cdv ct) ⟨us, []⟩ = pure ((["value"] : List Str).zip us) := match us, hl with | [_], _ => rfl
theorem bb_is_row (kV doc pm : Value) (an : Option Addr) (cdv ct : Value) (us : List Value) (hl : us.length = 2) : bindArgs (PySem.W.fnOf "is_row" "is_row" (defArgs s_is_row) (defBody s_is_row) (defScope s_is_row) .none kV doc pm an cdv ct) ⟨us, []⟩ = pure ((["machine", "value"] : List Str).zip us) := match us, hl with | [_, _], _ => rfl
theorem bb_behind (kV doc pm : Value) (an : Option Addr) (cdv ct : Value) (us : List Value) (hl : us.length = 2) : bindArgs (PySem.W.fnOf "behind" "behind" (defArgs s_behind) (defBody s_behind) (defScope s_behind) .none kV doc pm an cdv ct) ⟨us, []⟩ = pure ((["machine", "row"] : List Str).zip us) := match us, hl with | [_, _], _ => rfl
theorem bb_ends_well (kV doc pm : Value) (an : Option Addr) (cdv ct : Value) (us : List Value) (hl : us.length = 2) : bindArgs (PySem.W.fnOf "ends_well" "ends_well" (defArgs s_ends_well) (defBody s_ends_well) (defScope s_ends_well) .none kV doc pm an cdv ct) ⟨us, []⟩ = pure ((["machine", "row"] : List Str).zip us) := match us, hl with | [_, _], _ => rfl
theorem bb_reached (kV doc pm : Value) (an : Option Addr) (cdv ct : Value) (us : List Value) (hl : us.length = 1) : bindArgs (PySem.W.fnOf "reached" "reached" (defArgs s_reached) (defBody s_reached) (defScope s_reached) .none kV doc pm an cdv ct) ⟨us, []⟩ = pure ((["machine"] : List Str).zip us) := match us, hl with | [_], _ => rfl
theorem bb_tally_at (kV doc pm : Value) (an : Option Addr) (cdv ct : Value) (us : List Value) (hl : us.length = 3) : bindArgs (PySem.W.fnOf "_tally_at" "_tally_at" (defArgs s_tally_at) (defBody s_tally_at) (defScope s_tally_at) .none kV doc pm an cdv ct) ⟨us, []⟩ = pure ((["machine", "stand", "sign"] : List Str).zip us) := match us, hl with | [_, _, _], _ => rfl
theorem bb_row_at (kV doc pm : Value) (an : Option Addr) (cdv ct : Value) (us : List Value) (hl : us.length = 3) : bindArgs (PySem.W.fnOf "_row_at" "_row_at" (defArgs s_row_at) (defBody s_row_at) (defScope s_row_at) .none kV doc pm an cdv ct) ⟨us, []⟩ = pure ((["machine", "stand", "sign"] : List Str).zip us) := match us, hl with | [_, _, _], _ => rfl
theorem bb_greatest_at (kV doc pm : Value) (an : Option Addr) (cdv ct : Value) (us : List Value) (hl : us.length = 2) : bindArgs (PySem.W.fnOf "greatest_at" "greatest_at" (defArgs s_greatest_at) (defBody s_greatest_at) (defScope s_greatest_at) .none kV doc pm an cdv ct) ⟨us, []⟩ = pure ((["machine", "stand"] : List Str).zip us) := match us, hl with | [_, _], _ => rfl
theorem bb_least_at (kV doc pm : Value) (an : Option Addr) (cdv ct : Value) (us : List Value) (hl : us.length = 2) : bindArgs (PySem.W.fnOf "least_at" "least_at" (defArgs s_least_at) (defBody s_least_at) (defScope s_least_at) .none kV doc pm an cdv ct) ⟨us, []⟩ = pure ((["machine", "stand"] : List Str).zip us) := match us, hl with | [_, _], _ => rfl
theorem bb_greatest_row (kV doc pm : Value) (an : Option Addr) (cdv ct : Value) (us : List Value) (hl : us.length = 2) : bindArgs (PySem.W.fnOf "greatest_row" "greatest_row" (defArgs s_greatest_row) (defBody s_greatest_row) (defScope s_greatest_row) .none kV doc pm an cdv ct) ⟨us, []⟩ = pure ((["machine", "stand"] : List Str).zip us) := match us, hl with | [_, _], _ => rfl
theorem bb_least_row (kV doc pm : Value) (an : Option Addr) (cdv ct : Value) (us : List Value) (hl : us.length = 2) : bindArgs (PySem.W.fnOf "least_row" "least_row" (defArgs s_least_row) (defBody s_least_row) (defScope s_least_row) .none kV doc pm an cdv ct) ⟨us, []⟩ = pure ((["machine", "stand"] : List Str).zip us) := match us, hl with | [_, _], _ => rfl
theorem bb_bounds (kV doc pm : Value) (an : Option Addr) (cdv ct : Value) (us : List Value) (hl : us.length = 1) : bindArgs (PySem.W.fnOf "bounds" "bounds" (defArgs s_bounds) (defBody s_bounds) (defScope s_bounds) .none kV doc pm an cdv ct) ⟨us, []⟩ = pure ((["machine"] : List Str).zip us) := match us, hl with | [_], _ => rfl
theorem bb_end_bounds (kV doc pm : Value) (an : Option Addr) (cdv ct : Value) (us : List Value) (hl : us.length = 1) : bindArgs (PySem.W.fnOf "end_bounds" "end_bounds" (defArgs s_end_bounds) (defBody s_end_bounds) (defScope s_end_bounds) .none kV doc pm an cdv ct) ⟨us, []⟩ = pure ((["machine"] : List Str).zip us) := match us, hl with | [_], _ => rfl
theorem bb_stays (kV doc pm : Value) (an : Option Addr) (cdv ct : Value) (us : List Value) (hl : us.length = 3) : bindArgs (PySem.W.fnOf "stays" "stays" (defArgs s_stays) (defBody s_stays) (defScope s_stays) .none kV doc pm an cdv ct) ⟨us, []⟩ = pure ((["machine", "low", "high"] : List Str).zip us) := match us, hl with | [_, _, _], _ => rfl
theorem bb_bar (kV doc pm : Value) (an : Option Addr) (cdv ct : Value) (us : List Value) (hl : us.length = 3) : bindArgs (PySem.W.fnOf "bar" "bar" (defArgs s_bar) (defBody s_bar) (defScope s_bar) .none kV doc pm an cdv ct) ⟨us, []⟩ = pure ((["machine", "low", "high"] : List Str).zip us) := match us, hl with | [_, _, _], _ => rfl
theorem bb_right_bar (kV doc pm : Value) (an : Option Addr) (cdv ct : Value) (us : List Value) (hl : us.length = 4) : bindArgs (PySem.W.fnOf "right_bar" "right_bar" (defArgs s_right_bar) (defBody s_right_bar) (defScope s_right_bar) .none kV doc pm an cdv ct) ⟨us, []⟩ = pure ((["machine", "low", "high", "value"] : List Str).zip us) := match us, hl with | [_, _, _, _], _ => rfl
theorem bb_paper (kV doc pm : Value) (an : Option Addr) (cdv ct : Value) (us : List Value) (hl : us.length = 3) : bindArgs (PySem.W.fnOf "paper" "paper" (defArgs s_paper) (defBody s_paper) (defScope s_paper) .none kV doc pm an cdv ct) ⟨us, []⟩ = pure ((["machine", "low", "high"] : List Str).zip us) := match us, hl with | [_, _, _], _ => rfl
theorem bb_right_paper (kV doc pm : Value) (an : Option Addr) (cdv ct : Value) (us : List Value) (hl : us.length = 4) : bindArgs (PySem.W.fnOf "right_paper" "right_paper" (defArgs s_right_paper) (defBody s_right_paper) (defScope s_right_paper) .none kV doc pm an cdv ct) ⟨us, []⟩ = pure ((["machine", "low", "high", "value"] : List Str).zip us) := match us, hl with | [_, _, _, _], _ => rfl
theorem bb_first_leaving (kV doc pm : Value) (an : Option Addr) (cdv ct : Value) (us : List Value) (hl : us.length = 3) : bindArgs (PySem.W.fnOf "first_leaving" "first_leaving" (defArgs s_first_leaving) (defBody s_first_leaving) (defScope s_first_leaving) .none kV doc pm an cdv ct) ⟨us, []⟩ = pure ((["machine", "low", "high"] : List Str).zip us) := match us, hl with | [_, _, _], _ => rfl
theorem bb_tallies (kV doc pm : Value) (an : Option Addr) (cdv ct : Value) (us : List Value) (hl : us.length = 2) : bindArgs (PySem.W.fnOf "tallies" "tallies" (defArgs s_tallies) (defBody s_tallies) (defScope s_tallies) .none kV doc pm an cdv ct) ⟨us, []⟩ = pure ((["machine", "length"] : List Str).zip us) := match us, hl with | [_, _], _ => rfl
theorem bb_count (kV doc pm : Value) (an : Option Addr) (cdv ct : Value) (us : List Value) (hl : us.length = 3) : bindArgs (PySem.W.fnOf "count" "count" (defArgs s_count) (defBody s_count) (defScope s_count) .none kV doc pm an cdv ct) ⟨us, []⟩ = pure ((["machine", "length", "tally"] : List Str).zip us) := match us, hl with | [_, _, _], _ => rfl
theorem bb_count_staying (kV doc pm : Value) (an : Option Addr) (cdv ct : Value) (us : List Value) (hl : us.length = 4) : bindArgs (PySem.W.fnOf "count_staying" "count_staying" (defArgs s_count_staying) (defBody s_count_staying) (defScope s_count_staying) .none kV doc pm an cdv ct) ⟨us, []⟩ = pure ((["machine", "length", "low", "high"] : List Str).zip us) := match us, hl with | [_, _, _, _], _ => rfl
theorem bb_needed (kV doc pm : Value) (an : Option Addr) (cdv ct : Value) (us : List Value) (hl : us.length = 1) : bindArgs (PySem.W.fnOf "needed" "needed" (defArgs s_needed) (defBody s_needed) (defScope s_needed) .none kV doc pm an cdv ct) ⟨us, []⟩ = pure ((["machine"] : List Str).zip us) := match us, hl with | [_], _ => rfl
theorem bb_lasting (kV doc pm : Value) (an : Option Addr) (cdv ct : Value) (us : List Value) (hl : us.length = 1) : bindArgs (PySem.W.fnOf "lasting" "lasting" (defArgs s_lasting) (defBody s_lasting) (defScope s_lasting) .none kV doc pm an cdv ct) ⟨us, []⟩ = pure ((["machine"] : List Str).zip us) := match us, hl with | [_], _ => rfl
theorem bb_credit (kV doc pm : Value) (an : Option Addr) (cdv ct : Value) (us : List Value) (hl : us.length = 1) : bindArgs (PySem.W.fnOf "credit" "credit" (defArgs s_credit) (defBody s_credit) (defScope s_credit) .none kV doc pm an cdv ct) ⟨us, []⟩ = pure ((["machine"] : List Str).zip us) := match us, hl with | [_], _ => rfl
theorem bb_right_lasting (kV doc pm : Value) (an : Option Addr) (cdv ct : Value) (us : List Value) (hl : us.length = 2) : bindArgs (PySem.W.fnOf "right_lasting" "right_lasting" (defArgs s_right_lasting) (defBody s_right_lasting) (defScope s_right_lasting) .none kV doc pm an cdv ct) ⟨us, []⟩ = pure ((["machine", "value"] : List Str).zip us) := match us, hl with | [_, _], _ => rfl
theorem bb_greatest_mean (kV doc pm : Value) (an : Option Addr) (cdv ct : Value) (us : List Value) (hl : us.length = 1) : bindArgs (PySem.W.fnOf "greatest_mean" "greatest_mean" (defArgs s_greatest_mean) (defBody s_greatest_mean) (defScope s_greatest_mean) .none kV doc pm an cdv ct) ⟨us, []⟩ = pure ((["machine"] : List Str).zip us) := match us, hl with | [_], _ => rfl
theorem bb_least_mean (kV doc pm : Value) (an : Option Addr) (cdv ct : Value) (us : List Value) (hl : us.length = 1) : bindArgs (PySem.W.fnOf "least_mean" "least_mean" (defArgs s_least_mean) (defBody s_least_mean) (defScope s_least_mean) .none kV doc pm an cdv ct) ⟨us, []⟩ = pure ((["machine"] : List Str).zip us) := match us, hl with | [_], _ => rfl
theorem bb_mean_paper (kV doc pm : Value) (an : Option Addr) (cdv ct : Value) (us : List Value) (hl : us.length = 1) : bindArgs (PySem.W.fnOf "mean_paper" "mean_paper" (defArgs s_mean_paper) (defBody s_mean_paper) (defScope s_mean_paper) .none kV doc pm an cdv ct) ⟨us, []⟩ = pure ((["machine"] : List Str).zip us) := match us, hl with | [_], _ => rfl
theorem bb_right_mean (kV doc pm : Value) (an : Option Addr) (cdv ct : Value) (us : List Value) (hl : us.length = 2) : bindArgs (PySem.W.fnOf "right_mean" "right_mean" (defArgs s_right_mean) (defBody s_right_mean) (defScope s_right_mean) .none kV doc pm an cdv ct) ⟨us, []⟩ = pure ((["machine", "value"] : List Str).zip us) := match us, hl with | [_, _], _ => rfl
theorem bb_mends (kV doc pm : Value) (an : Option Addr) (cdv ct : Value) (us : List Value) (hl : us.length = 1) : bindArgs (PySem.W.fnOf "mends" "mends" (defArgs s_mends) (defBody s_mends) (defScope s_mends) .none kV doc pm an cdv ct) ⟨us, []⟩ = pure ((["machine"] : List Str).zip us) := match us, hl with | [_], _ => rfl
theorem bb_mended (kV doc pm : Value) (an : Option Addr) (cdv ct : Value) (us : List Value) (hl : us.length = 2) : bindArgs (PySem.W.fnOf "mended" "mended" (defArgs s_mended) (defBody s_mended) (defScope s_mended) .none kV doc pm an cdv ct) ⟨us, []⟩ = pure ((["machine", "some"] : List Str).zip us) := match us, hl with | [_, _], _ => rfl
theorem bb_Meter_init (kV doc pm : Value) (an : Option Addr) (cdv ct : Value) (us : List Value) (hl : us.length = 2) : bindArgs (PySem.W.fnOf "__init__" "Meter.__init__" (defArgs s_Meter_init) (defBody s_Meter_init) (defScope s_Meter_init) .none kV doc pm an cdv ct) ⟨us, []⟩ = pure ((["self", "machine"] : List Str).zip us) := match us, hl with | [_, _], _ => rfl
theorem bb_difference (kV doc pm : Value) (an : Option Addr) (cdv ct : Value) (us : List Value) (hl : us.length = 2) : bindArgs (PySem.W.fnOf "difference" "difference" (defArgs s_difference) (defBody s_difference) (defScope s_difference) .none kV doc pm an cdv ct) ⟨us, []⟩ = pure ((["one", "other"] : List Str).zip us) := match us, hl with | [_, _], _ => rfl
theorem bb_in_step (kV doc pm : Value) (an : Option Addr) (cdv ct : Value) (us : List Value) (hl : us.length = 3) : bindArgs (PySem.W.fnOf "in_step" "in_step" (defArgs s_in_step) (defBody s_in_step) (defScope s_in_step) .none kV doc pm an cdv ct) ⟨us, []⟩ = pure ((["one", "other", "most"] : List Str).zip us) := match us, hl with | [_, _, _], _ => rfl
theorem bb_first_apart (kV doc pm : Value) (an : Option Addr) (cdv ct : Value) (us : List Value) (hl : us.length = 2) : bindArgs (PySem.W.fnOf "first_apart" "first_apart" (defArgs s_first_apart) (defBody s_first_apart) (defScope s_first_apart) .none kV doc pm an cdv ct) ⟨us, []⟩ = pure ((["one", "other"] : List Str).zip us) := match us, hl with | [_, _], _ => rfl
theorem bb_write (kV doc pm : Value) (an : Option Addr) (cdv ct : Value) (us : List Value) (hl : us.length = 1) : bindArgs (PySem.W.fnOf "write" "write" (defArgs s_write) (defBody s_write) (defScope s_write) .none kV doc pm an cdv ct) ⟨us, []⟩ = pure ((["machine"] : List Str).zip us) := match us, hl with | [_], _ => rfl
theorem bb_law_taken (kV doc pm : Value) (an : Option Addr) (cdv ct : Value) (us : List Value) (hl : us.length = 2) : bindArgs (PySem.W.fnOf "_law_taken" "_law_taken" (defArgs s_law_taken) (defBody s_law_taken) (defScope s_law_taken) .none kV doc pm an cdv ct) ⟨us, []⟩ = pure ((["_law_row", "_law_many"] : List Str).zip us) := match us, hl with | [_, _], _ => rfl
theorem bb_law_odd (kV doc pm : Value) (an : Option Addr) (cdv ct : Value) (us : List Value) (hl : us.length = 1) : bindArgs (PySem.W.fnOf "_law_odd" "_law_odd" (defArgs s_law_odd) (defBody s_law_odd) (defScope s_law_odd) .none kV doc pm an cdv ct) ⟨us, []⟩ = pure ((["_law_row"] : List Str).zip us) := match us, hl with | [_], _ => rfl
theorem bb_law_call (kV doc pm : Value) (an : Option Addr) (cdv ct : Value) (us : List Value) (hl : us.length = 2) : bindArgs (PySem.W.fnOf "_law_call" "_law_call" (defArgs s_law_call) (defBody s_law_call) (defScope s_law_call) .none kV doc pm an cdv ct) ⟨us, []⟩ = pure ((["_law_kind", "_law_value"] : List Str).zip us) := match us, hl with | [_, _], _ => rfl
theorem bb_law (kV doc pm : Value) (an : Option Addr) (cdv ct : Value) (us : List Value) (hl : us.length = 1) : bindArgs (PySem.W.fnOf "law" "law" (defArgs s_law) (defBody s_law) (defScope s_law) .none kV doc pm an cdv ct) ⟨us, []⟩ = pure ((["_law_script"] : List Str).zip us) := match us, hl with | [_], _ => rfl
set_option maxHeartbeats 0 in
def txt_mk {K : PySem.W.Frag} {h : Heap} {mg : Str → Option Value} (X : K.In h) (G : h.Ns mainGlobals mg)
    {a_Machine_init : Addr} {od_Machine_init an_Machine_init : Option Addr} {sl_Machine_init : Array (Option Value)} {oc_Machine_init kV_Machine_init dc_Machine_init pm_Machine_init cd_Machine_init ct_Machine_init : Value}
    {a_is_whole_number : Addr} {od_is_whole_number an_is_whole_number : Option Addr} {sl_is_whole_number : Array (Option Value)} {oc_is_whole_number kV_is_whole_number dc_is_whole_number pm_is_whole_number cd_is_whole_number ct_is_whole_number : Value}
    {a_is_integer_between : Addr} {od_is_integer_between an_is_integer_between : Option Addr} {sl_is_integer_between : Array (Option Value)} {oc_is_integer_between kV_is_integer_between dc_is_integer_between pm_is_integer_between cd_is_integer_between ct_is_integer_between : Value}
    {a_is_stand : Addr} {od_is_stand an_is_stand : Option Addr} {sl_is_stand : Array (Option Value)} {oc_is_stand kV_is_stand dc_is_stand pm_is_stand cd_is_stand ct_is_stand : Value}
    {a_check_stands : Addr} {od_check_stands an_check_stands : Option Addr} {sl_check_stands : Array (Option Value)} {oc_check_stands kV_check_stands dc_check_stands pm_check_stands cd_check_stands ct_check_stands : Value}
    {a_is_step : Addr} {od_is_step an_is_step : Option Addr} {sl_is_step : Array (Option Value)} {oc_is_step kV_is_step dc_is_step pm_is_step cd_is_step ct_is_step : Value}
    {a_check_steps : Addr} {od_check_steps an_check_steps : Option Addr} {sl_check_steps : Array (Option Value)} {oc_check_steps kV_check_steps dc_check_steps pm_check_steps cd_check_steps ct_check_steps : Value}
    {a_is_ascending : Addr} {od_is_ascending an_is_ascending : Option Addr} {sl_is_ascending : Array (Option Value)} {oc_is_ascending kV_is_ascending dc_is_ascending pm_is_ascending cd_is_ascending ct_is_ascending : Value}
    {a_check_ends : Addr} {od_check_ends an_check_ends : Option Addr} {sl_check_ends : Array (Option Value)} {oc_check_ends kV_check_ends dc_check_ends pm_check_ends cd_check_ends ct_check_ends : Value}
    {a_check_machine : Addr} {od_check_machine an_check_machine : Option Addr} {sl_check_machine : Array (Option Value)} {oc_check_machine kV_check_machine dc_check_machine pm_check_machine cd_check_machine ct_check_machine : Value}
    {a_is_row : Addr} {od_is_row an_is_row : Option Addr} {sl_is_row : Array (Option Value)} {oc_is_row kV_is_row dc_is_row pm_is_row cd_is_row ct_is_row : Value}
    {a_behind : Addr} {od_behind an_behind : Option Addr} {sl_behind : Array (Option Value)} {oc_behind kV_behind dc_behind pm_behind cd_behind ct_behind : Value}
    {a_ends_well : Addr} {od_ends_well an_ends_well : Option Addr} {sl_ends_well : Array (Option Value)} {oc_ends_well kV_ends_well dc_ends_well pm_ends_well cd_ends_well ct_ends_well : Value}
    {a_reached : Addr} {od_reached an_reached : Option Addr} {sl_reached : Array (Option Value)} {oc_reached kV_reached dc_reached pm_reached cd_reached ct_reached : Value}
    {a_tally_at : Addr} {od_tally_at an_tally_at : Option Addr} {sl_tally_at : Array (Option Value)} {oc_tally_at kV_tally_at dc_tally_at pm_tally_at cd_tally_at ct_tally_at : Value}
    {a_row_at : Addr} {od_row_at an_row_at : Option Addr} {sl_row_at : Array (Option Value)} {oc_row_at kV_row_at dc_row_at pm_row_at cd_row_at ct_row_at : Value}
    {a_greatest_at : Addr} {od_greatest_at an_greatest_at : Option Addr} {sl_greatest_at : Array (Option Value)} {oc_greatest_at kV_greatest_at dc_greatest_at pm_greatest_at cd_greatest_at ct_greatest_at : Value}
    {a_least_at : Addr} {od_least_at an_least_at : Option Addr} {sl_least_at : Array (Option Value)} {oc_least_at kV_least_at dc_least_at pm_least_at cd_least_at ct_least_at : Value}
    {a_greatest_row : Addr} {od_greatest_row an_greatest_row : Option Addr} {sl_greatest_row : Array (Option Value)} {oc_greatest_row kV_greatest_row dc_greatest_row pm_greatest_row cd_greatest_row ct_greatest_row : Value}
    {a_least_row : Addr} {od_least_row an_least_row : Option Addr} {sl_least_row : Array (Option Value)} {oc_least_row kV_least_row dc_least_row pm_least_row cd_least_row ct_least_row : Value}
    {a_bounds : Addr} {od_bounds an_bounds : Option Addr} {sl_bounds : Array (Option Value)} {oc_bounds kV_bounds dc_bounds pm_bounds cd_bounds ct_bounds : Value}
    {a_end_bounds : Addr} {od_end_bounds an_end_bounds : Option Addr} {sl_end_bounds : Array (Option Value)} {oc_end_bounds kV_end_bounds dc_end_bounds pm_end_bounds cd_end_bounds ct_end_bounds : Value}
    {a_stays : Addr} {od_stays an_stays : Option Addr} {sl_stays : Array (Option Value)} {oc_stays kV_stays dc_stays pm_stays cd_stays ct_stays : Value}
    {a_bar : Addr} {od_bar an_bar : Option Addr} {sl_bar : Array (Option Value)} {oc_bar kV_bar dc_bar pm_bar cd_bar ct_bar : Value}
    {a_right_bar : Addr} {od_right_bar an_right_bar : Option Addr} {sl_right_bar : Array (Option Value)} {oc_right_bar kV_right_bar dc_right_bar pm_right_bar cd_right_bar ct_right_bar : Value}
    {a_paper : Addr} {od_paper an_paper : Option Addr} {sl_paper : Array (Option Value)} {oc_paper kV_paper dc_paper pm_paper cd_paper ct_paper : Value}
    {a_right_paper : Addr} {od_right_paper an_right_paper : Option Addr} {sl_right_paper : Array (Option Value)} {oc_right_paper kV_right_paper dc_right_paper pm_right_paper cd_right_paper ct_right_paper : Value}
    {a_first_leaving : Addr} {od_first_leaving an_first_leaving : Option Addr} {sl_first_leaving : Array (Option Value)} {oc_first_leaving kV_first_leaving dc_first_leaving pm_first_leaving cd_first_leaving ct_first_leaving : Value}
    {a_tallies : Addr} {od_tallies an_tallies : Option Addr} {sl_tallies : Array (Option Value)} {oc_tallies kV_tallies dc_tallies pm_tallies cd_tallies ct_tallies : Value}
    {a_count : Addr} {od_count an_count : Option Addr} {sl_count : Array (Option Value)} {oc_count kV_count dc_count pm_count cd_count ct_count : Value}
    {a_count_staying : Addr} {od_count_staying an_count_staying : Option Addr} {sl_count_staying : Array (Option Value)} {oc_count_staying kV_count_staying dc_count_staying pm_count_staying cd_count_staying ct_count_staying : Value}
    {a_needed : Addr} {od_needed an_needed : Option Addr} {sl_needed : Array (Option Value)} {oc_needed kV_needed dc_needed pm_needed cd_needed ct_needed : Value}
    {a_lasting : Addr} {od_lasting an_lasting : Option Addr} {sl_lasting : Array (Option Value)} {oc_lasting kV_lasting dc_lasting pm_lasting cd_lasting ct_lasting : Value}
    {a_credit : Addr} {od_credit an_credit : Option Addr} {sl_credit : Array (Option Value)} {oc_credit kV_credit dc_credit pm_credit cd_credit ct_credit : Value}
    {a_right_lasting : Addr} {od_right_lasting an_right_lasting : Option Addr} {sl_right_lasting : Array (Option Value)} {oc_right_lasting kV_right_lasting dc_right_lasting pm_right_lasting cd_right_lasting ct_right_lasting : Value}
    {a_greatest_mean : Addr} {od_greatest_mean an_greatest_mean : Option Addr} {sl_greatest_mean : Array (Option Value)} {oc_greatest_mean kV_greatest_mean dc_greatest_mean pm_greatest_mean cd_greatest_mean ct_greatest_mean : Value}
    {a_least_mean : Addr} {od_least_mean an_least_mean : Option Addr} {sl_least_mean : Array (Option Value)} {oc_least_mean kV_least_mean dc_least_mean pm_least_mean cd_least_mean ct_least_mean : Value}
    {a_mean_paper : Addr} {od_mean_paper an_mean_paper : Option Addr} {sl_mean_paper : Array (Option Value)} {oc_mean_paper kV_mean_paper dc_mean_paper pm_mean_paper cd_mean_paper ct_mean_paper : Value}
    {a_right_mean : Addr} {od_right_mean an_right_mean : Option Addr} {sl_right_mean : Array (Option Value)} {oc_right_mean kV_right_mean dc_right_mean pm_right_mean cd_right_mean ct_right_mean : Value}
    {a_mends : Addr} {od_mends an_mends : Option Addr} {sl_mends : Array (Option Value)} {oc_mends kV_mends dc_mends pm_mends cd_mends ct_mends : Value}
    {a_mended : Addr} {od_mended an_mended : Option Addr} {sl_mended : Array (Option Value)} {oc_mended kV_mended dc_mended pm_mended cd_mended ct_mended : Value}
    {a_Meter_init : Addr} {od_Meter_init an_Meter_init : Option Addr} {sl_Meter_init : Array (Option Value)} {oc_Meter_init kV_Meter_init dc_Meter_init pm_Meter_init cd_Meter_init ct_Meter_init : Value}
    {a_difference : Addr} {od_difference an_difference : Option Addr} {sl_difference : Array (Option Value)} {oc_difference kV_difference dc_difference pm_difference cd_difference ct_difference : Value}
    {a_in_step : Addr} {od_in_step an_in_step : Option Addr} {sl_in_step : Array (Option Value)} {oc_in_step kV_in_step dc_in_step pm_in_step cd_in_step ct_in_step : Value}
    {a_first_apart : Addr} {od_first_apart an_first_apart : Option Addr} {sl_first_apart : Array (Option Value)} {oc_first_apart kV_first_apart dc_first_apart pm_first_apart cd_first_apart ct_first_apart : Value}
    {a_write : Addr} {od_write an_write : Option Addr} {sl_write : Array (Option Value)} {oc_write kV_write dc_write pm_write cd_write ct_write : Value}
    {a_law_taken : Addr} {od_law_taken an_law_taken : Option Addr} {sl_law_taken : Array (Option Value)} {oc_law_taken kV_law_taken dc_law_taken pm_law_taken cd_law_taken ct_law_taken : Value}
    {a_law_odd : Addr} {od_law_odd an_law_odd : Option Addr} {sl_law_odd : Array (Option Value)} {oc_law_odd kV_law_odd dc_law_odd pm_law_odd cd_law_odd ct_law_odd : Value}
    {a_law_call : Addr} {od_law_call an_law_call : Option Addr} {sl_law_call : Array (Option Value)} {oc_law_call kV_law_call dc_law_call pm_law_call cd_law_call ct_law_call : Value}
    {a_law : Addr} {od_law an_law : Option Addr} {sl_law : Array (Option Value)} {oc_law kV_law dc_law pm_law cd_law ct_law : Value}
    {c_Machine : Addr}
    {c_Meter : Addr}
    {c_BadMachine : Addr}
    {t_MOST_STANDS : Tok}
    {t_MOST_GAIN : Tok}
    {a_LETTERS : Addr}
    (g_is_whole_number : PySem.W.nsIn K mainGlobals "is_whole_number" = some (some (.ref a_is_whole_number)))
    (g_is_integer_between : PySem.W.nsIn K mainGlobals "is_integer_between" = some (some (.ref a_is_integer_between)))
    (g_is_stand : PySem.W.nsIn K mainGlobals "_is_stand" = some (some (.ref a_is_stand)))
    (g_check_stands : PySem.W.nsIn K mainGlobals "_check_stands" = some (some (.ref a_check_stands)))
    (g_is_step : PySem.W.nsIn K mainGlobals "_is_step" = some (some (.ref a_is_step)))
    (g_check_steps : PySem.W.nsIn K mainGlobals "check_steps_machines" = some (some (.ref a_check_steps)))
    (g_is_ascending : PySem.W.nsIn K mainGlobals "is_ascending" = some (some (.ref a_is_ascending)))
    (g_check_ends : PySem.W.nsIn K mainGlobals "_check_ends" = some (some (.ref a_check_ends)))
    (g_check_machine : PySem.W.nsIn K mainGlobals "check_machine" = some (some (.ref a_check_machine)))
    (g_is_row : PySem.W.nsIn K mainGlobals "is_row" = some (some (.ref a_is_row)))
    (g_behind : PySem.W.nsIn K mainGlobals "behind" = some (some (.ref a_behind)))
    (g_ends_well : PySem.W.nsIn K mainGlobals "ends_well" = some (some (.ref a_ends_well)))
    (g_reached : PySem.W.nsIn K mainGlobals "reached" = some (some (.ref a_reached)))
    (g_tally_at : PySem.W.nsIn K mainGlobals "_tally_at" = some (some (.ref a_tally_at)))
    (g_row_at : PySem.W.nsIn K mainGlobals "_row_at" = some (some (.ref a_row_at)))
    (g_greatest_at : PySem.W.nsIn K mainGlobals "greatest_at" = some (some (.ref a_greatest_at)))
    (g_least_at : PySem.W.nsIn K mainGlobals "least_at" = some (some (.ref a_least_at)))
    (g_greatest_row : PySem.W.nsIn K mainGlobals "greatest_row" = some (some (.ref a_greatest_row)))
    (g_least_row : PySem.W.nsIn K mainGlobals "least_row" = some (some (.ref a_least_row)))
    (g_bounds : PySem.W.nsIn K mainGlobals "bounds" = some (some (.ref a_bounds)))
    (g_end_bounds : PySem.W.nsIn K mainGlobals "end_bounds" = some (some (.ref a_end_bounds)))
    (g_stays : PySem.W.nsIn K mainGlobals "stays" = some (some (.ref a_stays)))
    (g_bar : PySem.W.nsIn K mainGlobals "bar" = some (some (.ref a_bar)))
    (g_right_bar : PySem.W.nsIn K mainGlobals "right_bar" = some (some (.ref a_right_bar)))
    (g_paper : PySem.W.nsIn K mainGlobals "paper" = some (some (.ref a_paper)))
    (g_right_paper : PySem.W.nsIn K mainGlobals "right_paper" = some (some (.ref a_right_paper)))
    (g_first_leaving : PySem.W.nsIn K mainGlobals "first_leaving" = some (some (.ref a_first_leaving)))
    (g_tallies : PySem.W.nsIn K mainGlobals "tallies" = some (some (.ref a_tallies)))
    (g_count : PySem.W.nsIn K mainGlobals "count" = some (some (.ref a_count)))
    (g_count_staying : PySem.W.nsIn K mainGlobals "count_staying" = some (some (.ref a_count_staying)))
    (g_needed : PySem.W.nsIn K mainGlobals "needed" = some (some (.ref a_needed)))
    (g_lasting : PySem.W.nsIn K mainGlobals "lasting" = some (some (.ref a_lasting)))
    (g_credit : PySem.W.nsIn K mainGlobals "credit" = some (some (.ref a_credit)))
    (g_right_lasting : PySem.W.nsIn K mainGlobals "right_lasting" = some (some (.ref a_right_lasting)))
    (g_greatest_mean : PySem.W.nsIn K mainGlobals "greatest_mean" = some (some (.ref a_greatest_mean)))
    (g_least_mean : PySem.W.nsIn K mainGlobals "least_mean" = some (some (.ref a_least_mean)))
    (g_mean_paper : PySem.W.nsIn K mainGlobals "mean_paper" = some (some (.ref a_mean_paper)))
    (g_right_mean : PySem.W.nsIn K mainGlobals "right_mean" = some (some (.ref a_right_mean)))
    (g_mends : PySem.W.nsIn K mainGlobals "mends" = some (some (.ref a_mends)))
    (g_mended : PySem.W.nsIn K mainGlobals "mended" = some (some (.ref a_mended)))
    (g_difference : PySem.W.nsIn K mainGlobals "difference" = some (some (.ref a_difference)))
    (g_in_step : PySem.W.nsIn K mainGlobals "in_step" = some (some (.ref a_in_step)))
    (g_first_apart : PySem.W.nsIn K mainGlobals "first_apart" = some (some (.ref a_first_apart)))
    (g_write : PySem.W.nsIn K mainGlobals "write" = some (some (.ref a_write)))
    (g_law_taken : PySem.W.nsIn K mainGlobals "_law_taken" = some (some (.ref a_law_taken)))
    (g_law_odd : PySem.W.nsIn K mainGlobals "_law_odd" = some (some (.ref a_law_odd)))
    (g_law_call : PySem.W.nsIn K mainGlobals "_law_call" = some (some (.ref a_law_call)))
    (g_law : PySem.W.nsIn K mainGlobals "law" = some (some (.ref a_law)))
    (g_Machine : PySem.W.nsIn K mainGlobals "Machine" = some (some (.ref c_Machine)))
    (g_Meter : PySem.W.nsIn K mainGlobals "Meter" = some (some (.ref c_Meter)))
    (g_BadMachine : PySem.W.nsIn K mainGlobals "BadMachine" = some (some (.ref c_BadMachine)))
    (g_MOST_STANDS : PySem.W.nsIn K mainGlobals "MOST_STANDS" = some (some (.int 8 t_MOST_STANDS)))
    (g_MOST_GAIN : PySem.W.nsIn K mainGlobals "MOST_GAIN" = some (some (.int 1000000000000000000000000000000 t_MOST_GAIN)))
    (g_LETTERS : PySem.W.nsIn K mainGlobals "LETTERS" = some (some (.ref a_LETTERS)))
    (zz_bool : PySem.W.nsIn K mainGlobals "bool" = some none)
    (zz_enumerate : PySem.W.nsIn K mainGlobals "enumerate" = some none)
    (zz_int : PySem.W.nsIn K mainGlobals "int" = some none)
    (zz_isinstance : PySem.W.nsIn K mainGlobals "isinstance" = some none)
    (zz_len : PySem.W.nsIn K mainGlobals "len" = some none)
    (zz_list : PySem.W.nsIn K mainGlobals "list" = some none)
    (zz_range : PySem.W.nsIn K mainGlobals "range" = some none)
    (zz_str : PySem.W.nsIn K mainGlobals "str" = some none)
    (zz_tuple : PySem.W.nsIn K mainGlobals "tuple" = some none)
    (l_Machine_init : K.lookup a_Machine_init = some ⟨oc_Machine_init, od_Machine_init, .func (PySem.W.fnOf "__init__" "Machine.__init__" (defArgs s_Machine_init) (defBody s_Machine_init) (defScope s_Machine_init) .none kV_Machine_init dc_Machine_init pm_Machine_init an_Machine_init cd_Machine_init ct_Machine_init), sl_Machine_init⟩)
    (c_Machine_init : PySem.W.codeIn K cd_Machine_init "Machine.__init__" = true)
    (kk_Machine_init : PySem.W.keepIn K (.ref a_Machine_init) = true)
    (l_is_whole_number : K.lookup a_is_whole_number = some ⟨oc_is_whole_number, od_is_whole_number, .func (PySem.W.fnOf "is_whole_number" "is_whole_number" (defArgs s_is_whole_number) (defBody s_is_whole_number) (defScope s_is_whole_number) .none kV_is_whole_number dc_is_whole_number pm_is_whole_number an_is_whole_number cd_is_whole_number ct_is_whole_number), sl_is_whole_number⟩)
    (c_is_whole_number : PySem.W.codeIn K cd_is_whole_number "is_whole_number" = true)
    (kk_is_whole_number : PySem.W.keepIn K (.ref a_is_whole_number) = true)
    (l_is_integer_between : K.lookup a_is_integer_between = some ⟨oc_is_integer_between, od_is_integer_between, .func (PySem.W.fnOf "is_integer_between" "is_integer_between" (defArgs s_is_integer_between) (defBody s_is_integer_between) (defScope s_is_integer_between) .none kV_is_integer_between dc_is_integer_between pm_is_integer_between an_is_integer_between cd_is_integer_between ct_is_integer_between), sl_is_integer_between⟩)
    (c_is_integer_between : PySem.W.codeIn K cd_is_integer_between "is_integer_between" = true)
    (kk_is_integer_between : PySem.W.keepIn K (.ref a_is_integer_between) = true)
    (l_is_stand : K.lookup a_is_stand = some ⟨oc_is_stand, od_is_stand, .func (PySem.W.fnOf "_is_stand" "_is_stand" (defArgs s_is_stand) (defBody s_is_stand) (defScope s_is_stand) .none kV_is_stand dc_is_stand pm_is_stand an_is_stand cd_is_stand ct_is_stand), sl_is_stand⟩)
    (c_is_stand : PySem.W.codeIn K cd_is_stand "_is_stand" = true)
    (kk_is_stand : PySem.W.keepIn K (.ref a_is_stand) = true)
    (l_check_stands : K.lookup a_check_stands = some ⟨oc_check_stands, od_check_stands, .func (PySem.W.fnOf "_check_stands" "_check_stands" (defArgs s_check_stands) (defBody s_check_stands) (defScope s_check_stands) .none kV_check_stands dc_check_stands pm_check_stands an_check_stands cd_check_stands ct_check_stands), sl_check_stands⟩)
    (c_check_stands : PySem.W.codeIn K cd_check_stands "_check_stands" = true)
    (kk_check_stands : PySem.W.keepIn K (.ref a_check_stands) = true)
    (l_is_step : K.lookup a_is_step = some ⟨oc_is_step, od_is_step, .func (PySem.W.fnOf "_is_step" "_is_step" (defArgs s_is_step) (defBody s_is_step) (defScope s_is_step) .none kV_is_step dc_is_step pm_is_step an_is_step cd_is_step ct_is_step), sl_is_step⟩)
    (c_is_step : PySem.W.codeIn K cd_is_step "_is_step" = true)
    (kk_is_step : PySem.W.keepIn K (.ref a_is_step) = true)
    (l_check_steps : K.lookup a_check_steps = some ⟨oc_check_steps, od_check_steps, .func (PySem.W.fnOf "_check_steps" "_check_steps" (defArgs s_check_steps) (defBody s_check_steps) (defScope s_check_steps) .none kV_check_steps dc_check_steps pm_check_steps an_check_steps cd_check_steps ct_check_steps), sl_check_steps⟩)
    (c_check_steps : PySem.W.codeIn K cd_check_steps "_check_steps" = true)
    (kk_check_steps : PySem.W.keepIn K (.ref a_check_steps) = true)
    (l_is_ascending : K.lookup a_is_ascending = some ⟨oc_is_ascending, od_is_ascending, .func (PySem.W.fnOf "is_ascending" "is_ascending" (defArgs s_is_ascending) (defBody s_is_ascending) (defScope s_is_ascending) .none kV_is_ascending dc_is_ascending pm_is_ascending an_is_ascending cd_is_ascending ct_is_ascending), sl_is_ascending⟩)
    (c_is_ascending : PySem.W.codeIn K cd_is_ascending "is_ascending" = true)
    (kk_is_ascending : PySem.W.keepIn K (.ref a_is_ascending) = true)
    (l_check_ends : K.lookup a_check_ends = some ⟨oc_check_ends, od_check_ends, .func (PySem.W.fnOf "_check_ends" "_check_ends" (defArgs s_check_ends) (defBody s_check_ends) (defScope s_check_ends) .none kV_check_ends dc_check_ends pm_check_ends an_check_ends cd_check_ends ct_check_ends), sl_check_ends⟩)
    (c_check_ends : PySem.W.codeIn K cd_check_ends "_check_ends" = true)
    (kk_check_ends : PySem.W.keepIn K (.ref a_check_ends) = true)
    (l_check_machine : K.lookup a_check_machine = some ⟨oc_check_machine, od_check_machine, .func (PySem.W.fnOf "check_machine" "check_machine" (defArgs s_check_machine) (defBody s_check_machine) (defScope s_check_machine) .none kV_check_machine dc_check_machine pm_check_machine an_check_machine cd_check_machine ct_check_machine), sl_check_machine⟩)
    (c_check_machine : PySem.W.codeIn K cd_check_machine "check_machine" = true)
    (kk_check_machine : PySem.W.keepIn K (.ref a_check_machine) = true)
    (l_is_row : K.lookup a_is_row = some ⟨oc_is_row, od_is_row, .func (PySem.W.fnOf "is_row" "is_row" (defArgs s_is_row) (defBody s_is_row) (defScope s_is_row) .none kV_is_row dc_is_row pm_is_row an_is_row cd_is_row ct_is_row), sl_is_row⟩)
    (c_is_row : PySem.W.codeIn K cd_is_row "is_row" = true)
    (kk_is_row : PySem.W.keepIn K (.ref a_is_row) = true)
    (l_behind : K.lookup a_behind = some ⟨oc_behind, od_behind, .func (PySem.W.fnOf "behind" "behind" (defArgs s_behind) (defBody s_behind) (defScope s_behind) .none kV_behind dc_behind pm_behind an_behind cd_behind ct_behind), sl_behind⟩)
    (c_behind : PySem.W.codeIn K cd_behind "behind" = true)
    (kk_behind : PySem.W.keepIn K (.ref a_behind) = true)
    (l_ends_well : K.lookup a_ends_well = some ⟨oc_ends_well, od_ends_well, .func (PySem.W.fnOf "ends_well" "ends_well" (defArgs s_ends_well) (defBody s_ends_well) (defScope s_ends_well) .none kV_ends_well dc_ends_well pm_ends_well an_ends_well cd_ends_well ct_ends_well), sl_ends_well⟩)
    (c_ends_well : PySem.W.codeIn K cd_ends_well "ends_well" = true)
    (kk_ends_well : PySem.W.keepIn K (.ref a_ends_well) = true)
    (l_reached : K.lookup a_reached = some ⟨oc_reached, od_reached, .func (PySem.W.fnOf "reached" "reached" (defArgs s_reached) (defBody s_reached) (defScope s_reached) .none kV_reached dc_reached pm_reached an_reached cd_reached ct_reached), sl_reached⟩)
    (c_reached : PySem.W.codeIn K cd_reached "reached" = true)
    (kk_reached : PySem.W.keepIn K (.ref a_reached) = true)
    (l_tally_at : K.lookup a_tally_at = some ⟨oc_tally_at, od_tally_at, .func (PySem.W.fnOf "_tally_at" "_tally_at" (defArgs s_tally_at) (defBody s_tally_at) (defScope s_tally_at) .none kV_tally_at dc_tally_at pm_tally_at an_tally_at cd_tally_at ct_tally_at), sl_tally_at⟩)
    (c_tally_at : PySem.W.codeIn K cd_tally_at "_tally_at" = true)
    (kk_tally_at : PySem.W.keepIn K (.ref a_tally_at) = true)
    (l_row_at : K.lookup a_row_at = some ⟨oc_row_at, od_row_at, .func (PySem.W.fnOf "_row_at" "_row_at" (defArgs s_row_at) (defBody s_row_at) (defScope s_row_at) .none kV_row_at dc_row_at pm_row_at an_row_at cd_row_at ct_row_at), sl_row_at⟩)
    (c_row_at : PySem.W.codeIn K cd_row_at "_row_at" = true)
    (kk_row_at : PySem.W.keepIn K (.ref a_row_at) = true)
    (l_greatest_at : K.lookup a_greatest_at = some ⟨oc_greatest_at, od_greatest_at, .func (PySem.W.fnOf "greatest_at" "greatest_at" (defArgs s_greatest_at) (defBody s_greatest_at) (defScope s_greatest_at) .none kV_greatest_at dc_greatest_at pm_greatest_at an_greatest_at cd_greatest_at ct_greatest_at), sl_greatest_at⟩)
    (c_greatest_at : PySem.W.codeIn K cd_greatest_at "greatest_at" = true)
    (kk_greatest_at : PySem.W.keepIn K (.ref a_greatest_at) = true)
    (l_least_at : K.lookup a_least_at = some ⟨oc_least_at, od_least_at, .func (PySem.W.fnOf "least_at" "least_at" (defArgs s_least_at) (defBody s_least_at) (defScope s_least_at) .none kV_least_at dc_least_at pm_least_at an_least_at cd_least_at ct_least_at), sl_least_at⟩)
    (c_least_at : PySem.W.codeIn K cd_least_at "least_at" = true)
    (kk_least_at : PySem.W.keepIn K (.ref a_least_at) = true)
    (l_greatest_row : K.lookup a_greatest_row = some ⟨oc_greatest_row, od_greatest_row, .func (PySem.W.fnOf "greatest_row" "greatest_row" (defArgs s_greatest_row) (defBody s_greatest_row) (defScope s_greatest_row) .none kV_greatest_row dc_greatest_row pm_greatest_row an_greatest_row cd_greatest_row ct_greatest_row), sl_greatest_row⟩)
    (c_greatest_row : PySem.W.codeIn K cd_greatest_row "greatest_row" = true)
    (kk_greatest_row : PySem.W.keepIn K (.ref a_greatest_row) = true)
    (l_least_row : K.lookup a_least_row = some ⟨oc_least_row, od_least_row, .func (PySem.W.fnOf "least_row" "least_row" (defArgs s_least_row) (defBody s_least_row) (defScope s_least_row) .none kV_least_row dc_least_row pm_least_row an_least_row cd_least_row ct_least_row), sl_least_row⟩)
    (c_least_row : PySem.W.codeIn K cd_least_row "least_row" = true)
    (kk_least_row : PySem.W.keepIn K (.ref a_least_row) = true)
    (l_bounds : K.lookup a_bounds = some ⟨oc_bounds, od_bounds, .func (PySem.W.fnOf "bounds" "bounds" (defArgs s_bounds) (defBody s_bounds) (defScope s_bounds) .none kV_bounds dc_bounds pm_bounds an_bounds cd_bounds ct_bounds), sl_bounds⟩)
    (c_bounds : PySem.W.codeIn K cd_bounds "bounds" = true)
    (kk_bounds : PySem.W.keepIn K (.ref a_bounds) = true)
    (l_end_bounds : K.lookup a_end_bounds = some ⟨oc_end_bounds, od_end_bounds, .func (PySem.W.fnOf "end_bounds" "end_bounds" (defArgs s_end_bounds) (defBody s_end_bounds) (defScope s_end_bounds) .none kV_end_bounds dc_end_bounds pm_end_bounds an_end_bounds cd_end_bounds ct_end_bounds), sl_end_bounds⟩)
    (c_end_bounds : PySem.W.codeIn K cd_end_bounds "end_bounds" = true)
    (kk_end_bounds : PySem.W.keepIn K (.ref a_end_bounds) = true)
    (l_stays : K.lookup a_stays = some ⟨oc_stays, od_stays, .func (PySem.W.fnOf "stays" "stays" (defArgs s_stays) (defBody s_stays) (defScope s_stays) .none kV_stays dc_stays pm_stays an_stays cd_stays ct_stays), sl_stays⟩)
    (c_stays : PySem.W.codeIn K cd_stays "stays" = true)
    (kk_stays : PySem.W.keepIn K (.ref a_stays) = true)
    (l_bar : K.lookup a_bar = some ⟨oc_bar, od_bar, .func (PySem.W.fnOf "bar" "bar" (defArgs s_bar) (defBody s_bar) (defScope s_bar) .none kV_bar dc_bar pm_bar an_bar cd_bar ct_bar), sl_bar⟩)
    (c_bar : PySem.W.codeIn K cd_bar "bar" = true)
    (kk_bar : PySem.W.keepIn K (.ref a_bar) = true)
    (l_right_bar : K.lookup a_right_bar = some ⟨oc_right_bar, od_right_bar, .func (PySem.W.fnOf "right_bar" "right_bar" (defArgs s_right_bar) (defBody s_right_bar) (defScope s_right_bar) .none kV_right_bar dc_right_bar pm_right_bar an_right_bar cd_right_bar ct_right_bar), sl_right_bar⟩)
    (c_right_bar : PySem.W.codeIn K cd_right_bar "right_bar" = true)
    (kk_right_bar : PySem.W.keepIn K (.ref a_right_bar) = true)
    (l_paper : K.lookup a_paper = some ⟨oc_paper, od_paper, .func (PySem.W.fnOf "paper" "paper" (defArgs s_paper) (defBody s_paper) (defScope s_paper) .none kV_paper dc_paper pm_paper an_paper cd_paper ct_paper), sl_paper⟩)
    (c_paper : PySem.W.codeIn K cd_paper "paper" = true)
    (kk_paper : PySem.W.keepIn K (.ref a_paper) = true)
    (l_right_paper : K.lookup a_right_paper = some ⟨oc_right_paper, od_right_paper, .func (PySem.W.fnOf "right_paper" "right_paper" (defArgs s_right_paper) (defBody s_right_paper) (defScope s_right_paper) .none kV_right_paper dc_right_paper pm_right_paper an_right_paper cd_right_paper ct_right_paper), sl_right_paper⟩)
    (c_right_paper : PySem.W.codeIn K cd_right_paper "right_paper" = true)
    (kk_right_paper : PySem.W.keepIn K (.ref a_right_paper) = true)
    (l_first_leaving : K.lookup a_first_leaving = some ⟨oc_first_leaving, od_first_leaving, .func (PySem.W.fnOf "first_leaving" "first_leaving" (defArgs s_first_leaving) (defBody s_first_leaving) (defScope s_first_leaving) .none kV_first_leaving dc_first_leaving pm_first_leaving an_first_leaving cd_first_leaving ct_first_leaving), sl_first_leaving⟩)
    (c_first_leaving : PySem.W.codeIn K cd_first_leaving "first_leaving" = true)
    (kk_first_leaving : PySem.W.keepIn K (.ref a_first_leaving) = true)
    (l_tallies : K.lookup a_tallies = some ⟨oc_tallies, od_tallies, .func (PySem.W.fnOf "tallies" "tallies" (defArgs s_tallies) (defBody s_tallies) (defScope s_tallies) .none kV_tallies dc_tallies pm_tallies an_tallies cd_tallies ct_tallies), sl_tallies⟩)
    (c_tallies : PySem.W.codeIn K cd_tallies "tallies" = true)
    (kk_tallies : PySem.W.keepIn K (.ref a_tallies) = true)
    (l_count : K.lookup a_count = some ⟨oc_count, od_count, .func (PySem.W.fnOf "count" "count" (defArgs s_count) (defBody s_count) (defScope s_count) .none kV_count dc_count pm_count an_count cd_count ct_count), sl_count⟩)
    (c_count : PySem.W.codeIn K cd_count "count" = true)
    (kk_count : PySem.W.keepIn K (.ref a_count) = true)
    (l_count_staying : K.lookup a_count_staying = some ⟨oc_count_staying, od_count_staying, .func (PySem.W.fnOf "count_staying" "count_staying" (defArgs s_count_staying) (defBody s_count_staying) (defScope s_count_staying) .none kV_count_staying dc_count_staying pm_count_staying an_count_staying cd_count_staying ct_count_staying), sl_count_staying⟩)
    (c_count_staying : PySem.W.codeIn K cd_count_staying "count_staying" = true)
    (kk_count_staying : PySem.W.keepIn K (.ref a_count_staying) = true)
    (l_needed : K.lookup a_needed = some ⟨oc_needed, od_needed, .func (PySem.W.fnOf "needed" "needed" (defArgs s_needed) (defBody s_needed) (defScope s_needed) .none kV_needed dc_needed pm_needed an_needed cd_needed ct_needed), sl_needed⟩)
    (c_needed : PySem.W.codeIn K cd_needed "needed" = true)
    (kk_needed : PySem.W.keepIn K (.ref a_needed) = true)
    (l_lasting : K.lookup a_lasting = some ⟨oc_lasting, od_lasting, .func (PySem.W.fnOf "lasting" "lasting" (defArgs s_lasting) (defBody s_lasting) (defScope s_lasting) .none kV_lasting dc_lasting pm_lasting an_lasting cd_lasting ct_lasting), sl_lasting⟩)
    (c_lasting : PySem.W.codeIn K cd_lasting "lasting" = true)
    (kk_lasting : PySem.W.keepIn K (.ref a_lasting) = true)
    (l_credit : K.lookup a_credit = some ⟨oc_credit, od_credit, .func (PySem.W.fnOf "credit" "credit" (defArgs s_credit) (defBody s_credit) (defScope s_credit) .none kV_credit dc_credit pm_credit an_credit cd_credit ct_credit), sl_credit⟩)
    (c_credit : PySem.W.codeIn K cd_credit "credit" = true)
    (kk_credit : PySem.W.keepIn K (.ref a_credit) = true)
    (l_right_lasting : K.lookup a_right_lasting = some ⟨oc_right_lasting, od_right_lasting, .func (PySem.W.fnOf "right_lasting" "right_lasting" (defArgs s_right_lasting) (defBody s_right_lasting) (defScope s_right_lasting) .none kV_right_lasting dc_right_lasting pm_right_lasting an_right_lasting cd_right_lasting ct_right_lasting), sl_right_lasting⟩)
    (c_right_lasting : PySem.W.codeIn K cd_right_lasting "right_lasting" = true)
    (kk_right_lasting : PySem.W.keepIn K (.ref a_right_lasting) = true)
    (l_greatest_mean : K.lookup a_greatest_mean = some ⟨oc_greatest_mean, od_greatest_mean, .func (PySem.W.fnOf "greatest_mean" "greatest_mean" (defArgs s_greatest_mean) (defBody s_greatest_mean) (defScope s_greatest_mean) .none kV_greatest_mean dc_greatest_mean pm_greatest_mean an_greatest_mean cd_greatest_mean ct_greatest_mean), sl_greatest_mean⟩)
    (c_greatest_mean : PySem.W.codeIn K cd_greatest_mean "greatest_mean" = true)
    (kk_greatest_mean : PySem.W.keepIn K (.ref a_greatest_mean) = true)
    (l_least_mean : K.lookup a_least_mean = some ⟨oc_least_mean, od_least_mean, .func (PySem.W.fnOf "least_mean" "least_mean" (defArgs s_least_mean) (defBody s_least_mean) (defScope s_least_mean) .none kV_least_mean dc_least_mean pm_least_mean an_least_mean cd_least_mean ct_least_mean), sl_least_mean⟩)
    (c_least_mean : PySem.W.codeIn K cd_least_mean "least_mean" = true)
    (kk_least_mean : PySem.W.keepIn K (.ref a_least_mean) = true)
    (l_mean_paper : K.lookup a_mean_paper = some ⟨oc_mean_paper, od_mean_paper, .func (PySem.W.fnOf "mean_paper" "mean_paper" (defArgs s_mean_paper) (defBody s_mean_paper) (defScope s_mean_paper) .none kV_mean_paper dc_mean_paper pm_mean_paper an_mean_paper cd_mean_paper ct_mean_paper), sl_mean_paper⟩)
    (c_mean_paper : PySem.W.codeIn K cd_mean_paper "mean_paper" = true)
    (kk_mean_paper : PySem.W.keepIn K (.ref a_mean_paper) = true)
    (l_right_mean : K.lookup a_right_mean = some ⟨oc_right_mean, od_right_mean, .func (PySem.W.fnOf "right_mean" "right_mean" (defArgs s_right_mean) (defBody s_right_mean) (defScope s_right_mean) .none kV_right_mean dc_right_mean pm_right_mean an_right_mean cd_right_mean ct_right_mean), sl_right_mean⟩)
    (c_right_mean : PySem.W.codeIn K cd_right_mean "right_mean" = true)
    (kk_right_mean : PySem.W.keepIn K (.ref a_right_mean) = true)
    (l_mends : K.lookup a_mends = some ⟨oc_mends, od_mends, .func (PySem.W.fnOf "mends" "mends" (defArgs s_mends) (defBody s_mends) (defScope s_mends) .none kV_mends dc_mends pm_mends an_mends cd_mends ct_mends), sl_mends⟩)
    (c_mends : PySem.W.codeIn K cd_mends "mends" = true)
    (kk_mends : PySem.W.keepIn K (.ref a_mends) = true)
    (l_mended : K.lookup a_mended = some ⟨oc_mended, od_mended, .func (PySem.W.fnOf "mended" "mended" (defArgs s_mended) (defBody s_mended) (defScope s_mended) .none kV_mended dc_mended pm_mended an_mended cd_mended ct_mended), sl_mended⟩)
    (c_mended : PySem.W.codeIn K cd_mended "mended" = true)
    (kk_mended : PySem.W.keepIn K (.ref a_mended) = true)
    (l_Meter_init : K.lookup a_Meter_init = some ⟨oc_Meter_init, od_Meter_init, .func (PySem.W.fnOf "__init__" "Meter.__init__" (defArgs s_Meter_init) (defBody s_Meter_init) (defScope s_Meter_init) .none kV_Meter_init dc_Meter_init pm_Meter_init an_Meter_init cd_Meter_init ct_Meter_init), sl_Meter_init⟩)
    (c_Meter_init : PySem.W.codeIn K cd_Meter_init "Meter.__init__" = true)
    (kk_Meter_init : PySem.W.keepIn K (.ref a_Meter_init) = true)
    (l_difference : K.lookup a_difference = some ⟨oc_difference, od_difference, .func (PySem.W.fnOf "difference" "difference" (defArgs s_difference) (defBody s_difference) (defScope s_difference) .none kV_difference dc_difference pm_difference an_difference cd_difference ct_difference), sl_difference⟩)
    (c_difference : PySem.W.codeIn K cd_difference "difference" = true)
    (kk_difference : PySem.W.keepIn K (.ref a_difference) = true)
    (l_in_step : K.lookup a_in_step = some ⟨oc_in_step, od_in_step, .func (PySem.W.fnOf "in_step" "in_step" (defArgs s_in_step) (defBody s_in_step) (defScope s_in_step) .none kV_in_step dc_in_step pm_in_step an_in_step cd_in_step ct_in_step), sl_in_step⟩)
    (c_in_step : PySem.W.codeIn K cd_in_step "in_step" = true)
    (kk_in_step : PySem.W.keepIn K (.ref a_in_step) = true)
    (l_first_apart : K.lookup a_first_apart = some ⟨oc_first_apart, od_first_apart, .func (PySem.W.fnOf "first_apart" "first_apart" (defArgs s_first_apart) (defBody s_first_apart) (defScope s_first_apart) .none kV_first_apart dc_first_apart pm_first_apart an_first_apart cd_first_apart ct_first_apart), sl_first_apart⟩)
    (c_first_apart : PySem.W.codeIn K cd_first_apart "first_apart" = true)
    (kk_first_apart : PySem.W.keepIn K (.ref a_first_apart) = true)
    (l_write : K.lookup a_write = some ⟨oc_write, od_write, .func (PySem.W.fnOf "write" "write" (defArgs s_write) (defBody s_write) (defScope s_write) .none kV_write dc_write pm_write an_write cd_write ct_write), sl_write⟩)
    (c_write : PySem.W.codeIn K cd_write "write" = true)
    (kk_write : PySem.W.keepIn K (.ref a_write) = true)
    (l_law_taken : K.lookup a_law_taken = some ⟨oc_law_taken, od_law_taken, .func (PySem.W.fnOf "_law_taken" "_law_taken" (defArgs s_law_taken) (defBody s_law_taken) (defScope s_law_taken) .none kV_law_taken dc_law_taken pm_law_taken an_law_taken cd_law_taken ct_law_taken), sl_law_taken⟩)
    (c_law_taken : PySem.W.codeIn K cd_law_taken "_law_taken" = true)
    (kk_law_taken : PySem.W.keepIn K (.ref a_law_taken) = true)
    (l_law_odd : K.lookup a_law_odd = some ⟨oc_law_odd, od_law_odd, .func (PySem.W.fnOf "_law_odd" "_law_odd" (defArgs s_law_odd) (defBody s_law_odd) (defScope s_law_odd) .none kV_law_odd dc_law_odd pm_law_odd an_law_odd cd_law_odd ct_law_odd), sl_law_odd⟩)
    (c_law_odd : PySem.W.codeIn K cd_law_odd "_law_odd" = true)
    (kk_law_odd : PySem.W.keepIn K (.ref a_law_odd) = true)
    (l_law_call : K.lookup a_law_call = some ⟨oc_law_call, od_law_call, .func (PySem.W.fnOf "_law_call" "_law_call" (defArgs s_law_call) (defBody s_law_call) (defScope s_law_call) .none kV_law_call dc_law_call pm_law_call an_law_call cd_law_call ct_law_call), sl_law_call⟩)
    (c_law_call : PySem.W.codeIn K cd_law_call "_law_call" = true)
    (kk_law_call : PySem.W.keepIn K (.ref a_law_call) = true)
    (l_law : K.lookup a_law = some ⟨oc_law, od_law, .func (PySem.W.fnOf "law" "law" (defArgs s_law) (defBody s_law) (defScope s_law) .none kV_law dc_law pm_law an_law cd_law ct_law), sl_law⟩)
    (c_law : PySem.W.codeIn K cd_law "law" = true)
    (kk_law : PySem.W.keepIn K (.ref a_law) = true)
    (pg_Machine : PySem.W.plainGet K c_Machine Str.empty = true)
    (hd_Machine : PySem.W.hasDictIn K c_Machine = true)
    (po_Machine : PySem.W.plainOver K c_Machine = true)
    (sa_Machine : PySem.W.findIn K (.ref c_Machine) "__setattr__" = some (some (.builtin "object.__setattr__")))
    (mi_Machine : PySem.W.makesIn K c_Machine = true)
    (kc_Machine : PySem.W.keepIn K (.ref c_Machine) = true)
    (fi_Machine : PySem.W.findIn K (.ref c_Machine) "__init__" = some (some (.ref a_Machine_init)))
    (if_Machine : PySem.W.isFn K (.ref a_Machine_init) = true)
    (nf_stands : PySem.W.findIn K (.ref c_Machine) "_stands" = some none)
    (nf_steps : PySem.W.findIn K (.ref c_Machine) "_steps" = some none)
    (nf_ends : PySem.W.findIn K (.ref c_Machine) "_ends" = some none)
    (x_i1_Machine : PySem.W.findIn K (.ref c_Machine) "__class__" = some (some (.builtin "object.__class__")))
    (x_i2_Machine : PySem.W.specialIn K (.builtin "object.__class__") "__get__" = some (some (.builtin "getset_descriptor.__get__")))
    (x_i3_Machine : PySem.W.takesIn K (.builtin "object.__class__") = some true)
    (x_i4_Machine : PySem.W.mroIn K c_Machine (.type "object") = some true)
    (x_j1_Machine : PySem.W.isClsIn K c_Machine = true)
    (x_j2_Machine : PySem.W.typeIn K (.ref c_Machine) = some (.type "type"))
    (pg_Meter : PySem.W.plainGet K c_Meter Str.empty = true)
    (hd_Meter : PySem.W.hasDictIn K c_Meter = true)
    (po_Meter : PySem.W.plainOver K c_Meter = true)
    (sa_Meter : PySem.W.findIn K (.ref c_Meter) "__setattr__" = some (some (.builtin "object.__setattr__")))
    (mi_Meter : PySem.W.makesIn K c_Meter = true)
    (kc_Meter : PySem.W.keepIn K (.ref c_Meter) = true)
    (fi_Meter : PySem.W.findIn K (.ref c_Meter) "__init__" = some (some (.ref a_Meter_init)))
    (if_Meter : PySem.W.isFn K (.ref a_Meter_init) = true)
    (xx_BadMachine : PySem.W.excIn K c_BadMachine [.type "ValueError", .type "Exception", .type "BaseException", .type "object"] "ValueError.__new__" = true)
    (xk_BadMachine : PySem.W.keepIn K (.ref c_BadMachine) = true)
    (xb_BadMachine : PySem.W.subIn K (.ref c_BadMachine) (.type "BaseException") = some true)
    (xt_BadMachine : PySem.W.typeIn K (.ref c_BadMachine) = some (.type "type"))
    (xi_BadMachine : PySem.W.isClsIn K c_BadMachine = true)
    (xs_BadMachine : PySem.W.subIn K (.ref c_BadMachine) (.ref c_BadMachine) = some true)
    (l_LETTERS : ∀ H : Hp, SqT K H a_LETTERS [V.str "a", V.str "b", V.str "c", V.str "d"]) : Txt K mg :=
  Txt.mk (K := K) (mg := mg)
    (a_Machine_init)
    (_)
    (fun_mk (st := s_Machine_init) l_Machine_init c_Machine_init kk_Machine_init)
    ((fun_mk (st := s_Machine_init) l_Machine_init c_Machine_init kk_Machine_init).binds (ps := ["self", "stands", "steps", "ends"]) bb_Machine_init)
    (kk_Machine_init)
    (a_is_whole_number)
    (_)
    (fun_mk (st := s_is_whole_number) l_is_whole_number c_is_whole_number kk_is_whole_number)
    ((fun_mk (st := s_is_whole_number) l_is_whole_number c_is_whole_number kk_is_whole_number).binds (ps := ["value"]) bb_is_whole_number)
    (kk_is_whole_number)
    (PySem.W.mg_of X G g_is_whole_number)
    (a_is_integer_between)
    (_)
    (fun_mk (st := s_is_integer_between) l_is_integer_between c_is_integer_between kk_is_integer_between)
    ((fun_mk (st := s_is_integer_between) l_is_integer_between c_is_integer_between kk_is_integer_between).binds (ps := ["value", "least", "most"]) bb_is_integer_between)
    (kk_is_integer_between)
    (PySem.W.mg_of X G g_is_integer_between)
    (a_is_stand)
    (_)
    (fun_mk (st := s_is_stand) l_is_stand c_is_stand kk_is_stand)
    ((fun_mk (st := s_is_stand) l_is_stand c_is_stand kk_is_stand).binds (ps := ["stands", "value"]) bb_is_stand)
    (kk_is_stand)
    (PySem.W.mg_of X G g_is_stand)
    (a_check_stands)
    (_)
    (fun_mk (st := s_check_stands) l_check_stands c_check_stands kk_check_stands)
    ((fun_mk (st := s_check_stands) l_check_stands c_check_stands kk_check_stands).binds (ps := ["stands"]) bb_check_stands)
    (kk_check_stands)
    (PySem.W.mg_of X G g_check_stands)
    (a_is_step)
    (_)
    (fun_mk (st := s_is_step) l_is_step c_is_step kk_is_step)
    ((fun_mk (st := s_is_step) l_is_step c_is_step kk_is_step).binds (ps := ["stands", "value"]) bb_is_step)
    (kk_is_step)
    (PySem.W.mg_of X G g_is_step)
    (a_check_steps)
    (_)
    (fun_mk (st := s_check_steps) l_check_steps c_check_steps kk_check_steps)
    ((fun_mk (st := s_check_steps) l_check_steps c_check_steps kk_check_steps).binds (ps := ["stands", "steps"]) bb_check_steps)
    (kk_check_steps)
    (PySem.W.mg_of X G g_check_steps)
    (a_is_ascending)
    (_)
    (fun_mk (st := s_is_ascending) l_is_ascending c_is_ascending kk_is_ascending)
    ((fun_mk (st := s_is_ascending) l_is_ascending c_is_ascending kk_is_ascending).binds (ps := ["value", "many"]) bb_is_ascending)
    (kk_is_ascending)
    (PySem.W.mg_of X G g_is_ascending)
    (a_check_ends)
    (_)
    (fun_mk (st := s_check_ends) l_check_ends c_check_ends kk_check_ends)
    ((fun_mk (st := s_check_ends) l_check_ends c_check_ends kk_check_ends).binds (ps := ["stands", "ends"]) bb_check_ends)
    (kk_check_ends)
    (PySem.W.mg_of X G g_check_ends)
    (a_check_machine)
    (_)
    (fun_mk (st := s_check_machine) l_check_machine c_check_machine kk_check_machine)
    ((fun_mk (st := s_check_machine) l_check_machine c_check_machine kk_check_machine).binds (ps := ["value"]) bb_check_machine)
    (kk_check_machine)
    (PySem.W.mg_of X G g_check_machine)
    (a_is_row)
    (_)
    (fun_mk (st := s_is_row) l_is_row c_is_row kk_is_row)
    ((fun_mk (st := s_is_row) l_is_row c_is_row kk_is_row).binds (ps := ["machine", "value"]) bb_is_row)
    (kk_is_row)
    (PySem.W.mg_of X G g_is_row)
    (a_behind)
    (_)
    (fun_mk (st := s_behind) l_behind c_behind kk_behind)
    ((fun_mk (st := s_behind) l_behind c_behind kk_behind).binds (ps := ["machine", "row"]) bb_behind)
    (kk_behind)
    (PySem.W.mg_of X G g_behind)
    (a_ends_well)
    (_)
    (fun_mk (st := s_ends_well) l_ends_well c_ends_well kk_ends_well)
    ((fun_mk (st := s_ends_well) l_ends_well c_ends_well kk_ends_well).binds (ps := ["machine", "row"]) bb_ends_well)
    (kk_ends_well)
    (PySem.W.mg_of X G g_ends_well)
    (a_reached)
    (_)
    (fun_mk (st := s_reached) l_reached c_reached kk_reached)
    ((fun_mk (st := s_reached) l_reached c_reached kk_reached).binds (ps := ["machine"]) bb_reached)
    (kk_reached)
    (PySem.W.mg_of X G g_reached)
    (a_tally_at)
    (_)
    (fun_mk (st := s_tally_at) l_tally_at c_tally_at kk_tally_at)
    ((fun_mk (st := s_tally_at) l_tally_at c_tally_at kk_tally_at).binds (ps := ["machine", "stand", "sign"]) bb_tally_at)
    (kk_tally_at)
    (PySem.W.mg_of X G g_tally_at)
    (a_row_at)
    (_)
    (fun_mk (st := s_row_at) l_row_at c_row_at kk_row_at)
    ((fun_mk (st := s_row_at) l_row_at c_row_at kk_row_at).binds (ps := ["machine", "stand", "sign"]) bb_row_at)
    (kk_row_at)
    (PySem.W.mg_of X G g_row_at)
    (a_greatest_at)
    (_)
    (fun_mk (st := s_greatest_at) l_greatest_at c_greatest_at kk_greatest_at)
    ((fun_mk (st := s_greatest_at) l_greatest_at c_greatest_at kk_greatest_at).binds (ps := ["machine", "stand"]) bb_greatest_at)
    (kk_greatest_at)
    (PySem.W.mg_of X G g_greatest_at)
    (a_least_at)
    (_)
    (fun_mk (st := s_least_at) l_least_at c_least_at kk_least_at)
    ((fun_mk (st := s_least_at) l_least_at c_least_at kk_least_at).binds (ps := ["machine", "stand"]) bb_least_at)
    (kk_least_at)
    (PySem.W.mg_of X G g_least_at)
    (a_greatest_row)
    (_)
    (fun_mk (st := s_greatest_row) l_greatest_row c_greatest_row kk_greatest_row)
    ((fun_mk (st := s_greatest_row) l_greatest_row c_greatest_row kk_greatest_row).binds (ps := ["machine", "stand"]) bb_greatest_row)
    (kk_greatest_row)
    (PySem.W.mg_of X G g_greatest_row)
    (a_least_row)
    (_)
    (fun_mk (st := s_least_row) l_least_row c_least_row kk_least_row)
    ((fun_mk (st := s_least_row) l_least_row c_least_row kk_least_row).binds (ps := ["machine", "stand"]) bb_least_row)
    (kk_least_row)
    (PySem.W.mg_of X G g_least_row)
    (a_bounds)
    (_)
    (fun_mk (st := s_bounds) l_bounds c_bounds kk_bounds)
    ((fun_mk (st := s_bounds) l_bounds c_bounds kk_bounds).binds (ps := ["machine"]) bb_bounds)
    (kk_bounds)
    (PySem.W.mg_of X G g_bounds)
    (a_end_bounds)
    (_)
    (fun_mk (st := s_end_bounds) l_end_bounds c_end_bounds kk_end_bounds)
    ((fun_mk (st := s_end_bounds) l_end_bounds c_end_bounds kk_end_bounds).binds (ps := ["machine"]) bb_end_bounds)
    (kk_end_bounds)
    (PySem.W.mg_of X G g_end_bounds)
    (a_stays)
    (_)
    (fun_mk (st := s_stays) l_stays c_stays kk_stays)
    ((fun_mk (st := s_stays) l_stays c_stays kk_stays).binds (ps := ["machine", "low", "high"]) bb_stays)
    (kk_stays)
    (PySem.W.mg_of X G g_stays)
    (a_bar)
    (_)
    (fun_mk (st := s_bar) l_bar c_bar kk_bar)
    ((fun_mk (st := s_bar) l_bar c_bar kk_bar).binds (ps := ["machine", "low", "high"]) bb_bar)
    (kk_bar)
    (PySem.W.mg_of X G g_bar)
    (a_right_bar)
    (_)
    (fun_mk (st := s_right_bar) l_right_bar c_right_bar kk_right_bar)
    ((fun_mk (st := s_right_bar) l_right_bar c_right_bar kk_right_bar).binds (ps := ["machine", "low", "high", "value"]) bb_right_bar)
    (kk_right_bar)
    (PySem.W.mg_of X G g_right_bar)
    (a_paper)
    (_)
    (fun_mk (st := s_paper) l_paper c_paper kk_paper)
    ((fun_mk (st := s_paper) l_paper c_paper kk_paper).binds (ps := ["machine", "low", "high"]) bb_paper)
    (kk_paper)
    (PySem.W.mg_of X G g_paper)
    (a_right_paper)
    (_)
    (fun_mk (st := s_right_paper) l_right_paper c_right_paper kk_right_paper)
    ((fun_mk (st := s_right_paper) l_right_paper c_right_paper kk_right_paper).binds (ps := ["machine", "low", "high", "value"]) bb_right_paper)
    (kk_right_paper)
    (PySem.W.mg_of X G g_right_paper)
    (a_first_leaving)
    (_)
    (fun_mk (st := s_first_leaving) l_first_leaving c_first_leaving kk_first_leaving)
    ((fun_mk (st := s_first_leaving) l_first_leaving c_first_leaving kk_first_leaving).binds (ps := ["machine", "low", "high"]) bb_first_leaving)
    (kk_first_leaving)
    (PySem.W.mg_of X G g_first_leaving)
    (a_tallies)
    (_)
    (fun_mk (st := s_tallies) l_tallies c_tallies kk_tallies)
    ((fun_mk (st := s_tallies) l_tallies c_tallies kk_tallies).binds (ps := ["machine", "length"]) bb_tallies)
    (kk_tallies)
    (PySem.W.mg_of X G g_tallies)
    (a_count)
    (_)
    (fun_mk (st := s_count) l_count c_count kk_count)
    ((fun_mk (st := s_count) l_count c_count kk_count).binds (ps := ["machine", "length", "tally"]) bb_count)
    (kk_count)
    (PySem.W.mg_of X G g_count)
    (a_count_staying)
    (_)
    (fun_mk (st := s_count_staying) l_count_staying c_count_staying kk_count_staying)
    ((fun_mk (st := s_count_staying) l_count_staying c_count_staying kk_count_staying).binds (ps := ["machine", "length", "low", "high"]) bb_count_staying)
    (kk_count_staying)
    (PySem.W.mg_of X G g_count_staying)
    (a_needed)
    (_)
    (fun_mk (st := s_needed) l_needed c_needed kk_needed)
    ((fun_mk (st := s_needed) l_needed c_needed kk_needed).binds (ps := ["machine"]) bb_needed)
    (kk_needed)
    (PySem.W.mg_of X G g_needed)
    (a_lasting)
    (_)
    (fun_mk (st := s_lasting) l_lasting c_lasting kk_lasting)
    ((fun_mk (st := s_lasting) l_lasting c_lasting kk_lasting).binds (ps := ["machine"]) bb_lasting)
    (kk_lasting)
    (PySem.W.mg_of X G g_lasting)
    (a_credit)
    (_)
    (fun_mk (st := s_credit) l_credit c_credit kk_credit)
    ((fun_mk (st := s_credit) l_credit c_credit kk_credit).binds (ps := ["machine"]) bb_credit)
    (kk_credit)
    (PySem.W.mg_of X G g_credit)
    (a_right_lasting)
    (_)
    (fun_mk (st := s_right_lasting) l_right_lasting c_right_lasting kk_right_lasting)
    ((fun_mk (st := s_right_lasting) l_right_lasting c_right_lasting kk_right_lasting).binds (ps := ["machine", "value"]) bb_right_lasting)
    (kk_right_lasting)
    (PySem.W.mg_of X G g_right_lasting)
    (a_greatest_mean)
    (_)
    (fun_mk (st := s_greatest_mean) l_greatest_mean c_greatest_mean kk_greatest_mean)
    ((fun_mk (st := s_greatest_mean) l_greatest_mean c_greatest_mean kk_greatest_mean).binds (ps := ["machine"]) bb_greatest_mean)
    (kk_greatest_mean)
    (PySem.W.mg_of X G g_greatest_mean)
    (a_least_mean)
    (_)
    (fun_mk (st := s_least_mean) l_least_mean c_least_mean kk_least_mean)
    ((fun_mk (st := s_least_mean) l_least_mean c_least_mean kk_least_mean).binds (ps := ["machine"]) bb_least_mean)
    (kk_least_mean)
    (PySem.W.mg_of X G g_least_mean)
    (a_mean_paper)
    (_)
    (fun_mk (st := s_mean_paper) l_mean_paper c_mean_paper kk_mean_paper)
    ((fun_mk (st := s_mean_paper) l_mean_paper c_mean_paper kk_mean_paper).binds (ps := ["machine"]) bb_mean_paper)
    (kk_mean_paper)
    (PySem.W.mg_of X G g_mean_paper)
    (a_right_mean)
    (_)
    (fun_mk (st := s_right_mean) l_right_mean c_right_mean kk_right_mean)
    ((fun_mk (st := s_right_mean) l_right_mean c_right_mean kk_right_mean).binds (ps := ["machine", "value"]) bb_right_mean)
    (kk_right_mean)
    (PySem.W.mg_of X G g_right_mean)
    (a_mends)
    (_)
    (fun_mk (st := s_mends) l_mends c_mends kk_mends)
    ((fun_mk (st := s_mends) l_mends c_mends kk_mends).binds (ps := ["machine"]) bb_mends)
    (kk_mends)
    (PySem.W.mg_of X G g_mends)
    (a_mended)
    (_)
    (fun_mk (st := s_mended) l_mended c_mended kk_mended)
    ((fun_mk (st := s_mended) l_mended c_mended kk_mended).binds (ps := ["machine", "some"]) bb_mended)
    (kk_mended)
    (PySem.W.mg_of X G g_mended)
    (a_Meter_init)
    (_)
    (fun_mk (st := s_Meter_init) l_Meter_init c_Meter_init kk_Meter_init)
    ((fun_mk (st := s_Meter_init) l_Meter_init c_Meter_init kk_Meter_init).binds (ps := ["self", "machine"]) bb_Meter_init)
    (kk_Meter_init)
    (a_difference)
    (_)
    (fun_mk (st := s_difference) l_difference c_difference kk_difference)
    ((fun_mk (st := s_difference) l_difference c_difference kk_difference).binds (ps := ["one", "other"]) bb_difference)
    (kk_difference)
    (PySem.W.mg_of X G g_difference)
    (a_in_step)
    (_)
    (fun_mk (st := s_in_step) l_in_step c_in_step kk_in_step)
    ((fun_mk (st := s_in_step) l_in_step c_in_step kk_in_step).binds (ps := ["one", "other", "most"]) bb_in_step)
    (kk_in_step)
    (PySem.W.mg_of X G g_in_step)
    (a_first_apart)
    (_)
    (fun_mk (st := s_first_apart) l_first_apart c_first_apart kk_first_apart)
    ((fun_mk (st := s_first_apart) l_first_apart c_first_apart kk_first_apart).binds (ps := ["one", "other"]) bb_first_apart)
    (kk_first_apart)
    (PySem.W.mg_of X G g_first_apart)
    (a_write)
    (_)
    (fun_mk (st := s_write) l_write c_write kk_write)
    ((fun_mk (st := s_write) l_write c_write kk_write).binds (ps := ["machine"]) bb_write)
    (kk_write)
    (PySem.W.mg_of X G g_write)
    (a_law_taken)
    (_)
    (fun_mk (st := s_law_taken) l_law_taken c_law_taken kk_law_taken)
    ((fun_mk (st := s_law_taken) l_law_taken c_law_taken kk_law_taken).binds (ps := ["_law_row", "_law_many"]) bb_law_taken)
    (kk_law_taken)
    (PySem.W.mg_of X G g_law_taken)
    (a_law_odd)
    (_)
    (fun_mk (st := s_law_odd) l_law_odd c_law_odd kk_law_odd)
    ((fun_mk (st := s_law_odd) l_law_odd c_law_odd kk_law_odd).binds (ps := ["_law_row"]) bb_law_odd)
    (kk_law_odd)
    (PySem.W.mg_of X G g_law_odd)
    (a_law_call)
    (_)
    (fun_mk (st := s_law_call) l_law_call c_law_call kk_law_call)
    ((fun_mk (st := s_law_call) l_law_call c_law_call kk_law_call).binds (ps := ["_law_kind", "_law_value"]) bb_law_call)
    (kk_law_call)
    (PySem.W.mg_of X G g_law_call)
    (a_law)
    (_)
    (fun_mk (st := s_law) l_law c_law kk_law)
    ((fun_mk (st := s_law) l_law c_law kk_law).binds (ps := ["_law_script"]) bb_law)
    (kk_law)
    (PySem.W.mg_of X G g_law)
    (c_Machine)
    (⟨pg_Machine, hd_Machine, po_Machine, sa_Machine⟩)
    (PySem.W.mg_of X G g_Machine)
    (⟨mi_Machine, fi_Machine, if_Machine, kc_Machine⟩)
    (nf_stands)
    (nf_steps)
    (nf_ends)
    (x_i1_Machine)
    (x_i2_Machine)
    (x_i3_Machine)
    (x_i4_Machine)
    (x_j1_Machine)
    (x_j2_Machine)
    (c_Meter)
    (⟨pg_Meter, hd_Meter, po_Meter, sa_Meter⟩)
    (PySem.W.mg_of X G g_Meter)
    (⟨mi_Meter, fi_Meter, if_Meter, kc_Meter⟩)
    (c_BadMachine)
    (PySem.W.mg_of X G g_BadMachine)
    (xx_BadMachine)
    (xk_BadMachine)
    (xb_BadMachine)
    (xt_BadMachine)
    (exc_self xb_BadMachine xi_BadMachine xt_BadMachine xs_BadMachine)
    (.int 8 t_MOST_STANDS)
    (PySem.W.mg_of X G g_MOST_STANDS)
    (⟨_, rfl⟩)
    (.int 1000000000000000000000000000000 t_MOST_GAIN)
    (PySem.W.mg_of X G g_MOST_GAIN)
    (⟨_, rfl⟩)
    (a_LETTERS)
    (PySem.W.mg_of X G g_LETTERS)
    (rfl)
    (l_LETTERS)
    (PySem.W.mg_none_of X G zz_bool)
    (PySem.W.mg_none_of X G zz_enumerate)
    (PySem.W.mg_none_of X G zz_int)
    (PySem.W.mg_none_of X G zz_isinstance)
    (PySem.W.mg_none_of X G zz_len)
    (PySem.W.mg_none_of X G zz_list)
    (PySem.W.mg_none_of X G zz_range)
    (PySem.W.mg_none_of X G zz_str)
    (PySem.W.mg_none_of X G zz_tuple)
    (fun s v => .of_eq rfl)
theorem all_mk {l : PySem.W.OpenLaw} {w : World} {K : PySem.W.Frag} {mg : Str → Option Value} {fa : Addr} (T : Txt K mg) (hfa : mg "law" = some (.ref fa)) :
    ∃ fd : FuncData, (∀ (s : Shared) (v : Value), BindsTo s fd ⟨[v], []⟩ [("_law_script", v)]) ∧ ∀ base : Heap, K.In base → base.Ns mainGlobals mg → FnOk l.prog w K mg base (L2.CX l.prog w) 10 fa fd ["_law_script"] (sp_law K) := by
  have e := hfa.symm.trans T.m_law
  cases e
  exact ⟨T.fd_law, T.bs_law, fun _ _ _ => ok_law T⟩
/-! ### what the facts say -/
section
open He
theorem txt_of {K : PySem.W.Frag} {h : Heap} {mg : Str → Option Value} (X : K.In h) (G : h.Ns mainGlobals mg) (he : (exs K).all (fun b => b) = true) (hf : ∀ (i : Nat) (d : FnA), fns[i]? = some d → FnSaid K d) : Nonempty (Txt K mg) := by
  have e0 := row_ok he 0 (b := (ex_0 K).all fun b => b) rfl
  have e1 := row_ok he 1 (b := (ex_1 K).all fun b => b) rfl
  have e2 := row_ok he 2 (b := (ex_2 K).all fun b => b) rfl
  have e3 := row_ok he 3 (b := (ex_3 K).all fun b => b) rfl
  have e4 := row_ok he 4 (b := (ex_4 K).all fun b => b) rfl
  have e5 := row_ok he 5 (b := (ex_5 K).all fun b => b) rfl
  obtain ⟨oc_Machine_init, od_Machine_init, sl_Machine_init, kV_Machine_init, dc_Machine_init, pm_Machine_init, an_Machine_init, cd_Machine_init, ct_Machine_init, l_Machine_init, c_Machine_init⟩ := hf 0 fd_Machine_init rfl
  obtain ⟨oc_is_whole_number, od_is_whole_number, sl_is_whole_number, kV_is_whole_number, dc_is_whole_number, pm_is_whole_number, an_is_whole_number, cd_is_whole_number, ct_is_whole_number, l_is_whole_number, c_is_whole_number⟩ := hf 1 fd_is_whole_number rfl
  obtain ⟨oc_is_integer_between, od_is_integer_between, sl_is_integer_between, kV_is_integer_between, dc_is_integer_between, pm_is_integer_between, an_is_integer_between, cd_is_integer_between, ct_is_integer_between, l_is_integer_between, c_is_integer_between⟩ := hf 2 fd_is_integer_between rfl
  obtain ⟨oc_is_stand, od_is_stand, sl_is_stand, kV_is_stand, dc_is_stand, pm_is_stand, an_is_stand, cd_is_stand, ct_is_stand, l_is_stand, c_is_stand⟩ := hf 3 fd_is_stand rfl
  obtain ⟨oc_check_stands, od_check_stands, sl_check_stands, kV_check_stands, dc_check_stands, pm_check_stands, an_check_stands, cd_check_stands, ct_check_stands, l_check_stands, c_check_stands⟩ := hf 4 fd_check_stands rfl
  obtain ⟨oc_is_step, od_is_step, sl_is_step, kV_is_step, dc_is_step, pm_is_step, an_is_step, cd_is_step, ct_is_step, l_is_step, c_is_step⟩ := hf 5 fd_is_step rfl
  obtain ⟨oc_check_steps, od_check_steps, sl_check_steps, kV_check_steps, dc_check_steps, pm_check_steps, an_check_steps, cd_check_steps, ct_check_steps, l_check_steps, c_check_steps⟩ := hf 6 fd_check_steps rfl
  obtain ⟨oc_is_ascending, od_is_ascending, sl_is_ascending, kV_is_ascending, dc_is_ascending, pm_is_ascending, an_is_ascending, cd_is_ascending, ct_is_ascending, l_is_ascending, c_is_ascending⟩ := hf 7 fd_is_ascending rfl
  obtain ⟨oc_check_ends, od_check_ends, sl_check_ends, kV_check_ends, dc_check_ends, pm_check_ends, an_check_ends, cd_check_ends, ct_check_ends, l_check_ends, c_check_ends⟩ := hf 8 fd_check_ends rfl
  obtain ⟨oc_check_machine, od_check_machine, sl_check_machine, kV_check_machine, dc_check_machine, pm_check_machine, an_check_machine, cd_check_machine, ct_check_machine, l_check_machine, c_check_machine⟩ := hf 9 fd_check_machine rfl
  obtain ⟨oc_is_row, od_is_row, sl_is_row, kV_is_row, dc_is_row, pm_is_row, an_is_row, cd_is_row, ct_is_row, l_is_row, c_is_row⟩ := hf 10 fd_is_row rfl
  obtain ⟨oc_behind, od_behind, sl_behind, kV_behind, dc_behind, pm_behind, an_behind, cd_behind, ct_behind, l_behind, c_behind⟩ := hf 11 fd_behind rfl
  obtain ⟨oc_ends_well, od_ends_well, sl_ends_well, kV_ends_well, dc_ends_well, pm_ends_well, an_ends_well, cd_ends_well, ct_ends_well, l_ends_well, c_ends_well⟩ := hf 12 fd_ends_well rfl
  obtain ⟨oc_reached, od_reached, sl_reached, kV_reached, dc_reached, pm_reached, an_reached, cd_reached, ct_reached, l_reached, c_reached⟩ := hf 13 fd_reached rfl
  obtain ⟨oc_tally_at, od_tally_at, sl_tally_at, kV_tally_at, dc_tally_at, pm_tally_at, an_tally_at, cd_tally_at, ct_tally_at, l_tally_at, c_tally_at⟩ := hf 14 fd_tally_at rfl
  obtain ⟨oc_row_at, od_row_at, sl_row_at, kV_row_at, dc_row_at, pm_row_at, an_row_at, cd_row_at, ct_row_at, l_row_at, c_row_at⟩ := hf 15 fd_row_at rfl
  obtain ⟨oc_greatest_at, od_greatest_at, sl_greatest_at, kV_greatest_at, dc_greatest_at, pm_greatest_at, an_greatest_at, cd_greatest_at, ct_greatest_at, l_greatest_at, c_greatest_at⟩ := hf 16 fd_greatest_at rfl
  obtain ⟨oc_least_at, od_least_at, sl_least_at, kV_least_at, dc_least_at, pm_least_at, an_least_at, cd_least_at, ct_least_at, l_least_at, c_least_at⟩ := hf 17 fd_least_at rfl
  obtain ⟨oc_greatest_row, od_greatest_row, sl_greatest_row, kV_greatest_row, dc_greatest_row, pm_greatest_row, an_greatest_row, cd_greatest_row, ct_greatest_row, l_greatest_row, c_greatest_row⟩ := hf 18 fd_greatest_row rfl
  obtain ⟨oc_least_row, od_least_row, sl_least_row, kV_least_row, dc_least_row, pm_least_row, an_least_row, cd_least_row, ct_least_row, l_least_row, c_least_row⟩ := hf 19 fd_least_row rfl
  obtain ⟨oc_bounds, od_bounds, sl_bounds, kV_bounds, dc_bounds, pm_bounds, an_bounds, cd_bounds, ct_bounds, l_bounds, c_bounds⟩ := hf 20 fd_bounds rfl
  obtain ⟨oc_end_bounds, od_end_bounds, sl_end_bounds, kV_end_bounds, dc_end_bounds, pm_end_bounds, an_end_bounds, cd_end_bounds, ct_end_bounds, l_end_bounds, c_end_bounds⟩ := hf 21 fd_end_bounds rfl
  obtain ⟨oc_stays, od_stays, sl_stays, kV_stays, dc_stays, pm_stays, an_stays, cd_stays, ct_stays, l_stays, c_stays⟩ := hf 22 fd_stays rfl
  obtain ⟨oc_bar, od_bar, sl_bar, kV_bar, dc_bar, pm_bar, an_bar, cd_bar, ct_bar, l_bar, c_bar⟩ := hf 23 fd_bar rfl
  obtain ⟨oc_right_bar, od_right_bar, sl_right_bar, kV_right_bar, dc_right_bar, pm_right_bar, an_right_bar, cd_right_bar, ct_right_bar, l_right_bar, c_right_bar⟩ := hf 24 fd_right_bar rfl
  obtain ⟨oc_paper, od_paper, sl_paper, kV_paper, dc_paper, pm_paper, an_paper, cd_paper, ct_paper, l_paper, c_paper⟩ := hf 25 fd_paper rfl
  obtain ⟨oc_right_paper, od_right_paper, sl_right_paper, kV_right_paper, dc_right_paper, pm_right_paper, an_right_paper, cd_right_paper, ct_right_paper, l_right_paper, c_right_paper⟩ := hf 26 fd_right_paper rfl
  obtain ⟨oc_first_leaving, od_first_leaving, sl_first_leaving, kV_first_leaving, dc_first_leaving, pm_first_leaving, an_first_leaving, cd_first_leaving, ct_first_leaving, l_first_leaving, c_first_leaving⟩ := hf 27 fd_first_leaving rfl
  obtain ⟨oc_tallies, od_tallies, sl_tallies, kV_tallies, dc_tallies, pm_tallies, an_tallies, cd_tallies, ct_tallies, l_tallies, c_tallies⟩ := hf 28 fd_tallies rfl
  obtain ⟨oc_count, od_count, sl_count, kV_count, dc_count, pm_count, an_count, cd_count, ct_count, l_count, c_count⟩ := hf 29 fd_count rfl
  obtain ⟨oc_count_staying, od_count_staying, sl_count_staying, kV_count_staying, dc_count_staying, pm_count_staying, an_count_staying, cd_count_staying, ct_count_staying, l_count_staying, c_count_staying⟩ := hf 30 fd_count_staying rfl
  obtain ⟨oc_needed, od_needed, sl_needed, kV_needed, dc_needed, pm_needed, an_needed, cd_needed, ct_needed, l_needed, c_needed⟩ := hf 31 fd_needed rfl
  obtain ⟨oc_lasting, od_lasting, sl_lasting, kV_lasting, dc_lasting, pm_lasting, an_lasting, cd_lasting, ct_lasting, l_lasting, c_lasting⟩ := hf 32 fd_lasting rfl
  obtain ⟨oc_credit, od_credit, sl_credit, kV_credit, dc_credit, pm_credit, an_credit, cd_credit, ct_credit, l_credit, c_credit⟩ := hf 33 fd_credit rfl
  obtain ⟨oc_right_lasting, od_right_lasting, sl_right_lasting, kV_right_lasting, dc_right_lasting, pm_right_lasting, an_right_lasting, cd_right_lasting, ct_right_lasting, l_right_lasting, c_right_lasting⟩ := hf 34 fd_right_lasting rfl
  obtain ⟨oc_greatest_mean, od_greatest_mean, sl_greatest_mean, kV_greatest_mean, dc_greatest_mean, pm_greatest_mean, an_greatest_mean, cd_greatest_mean, ct_greatest_mean, l_greatest_mean, c_greatest_mean⟩ := hf 35 fd_greatest_mean rfl
  obtain ⟨oc_least_mean, od_least_mean, sl_least_mean, kV_least_mean, dc_least_mean, pm_least_mean, an_least_mean, cd_least_mean, ct_least_mean, l_least_mean, c_least_mean⟩ := hf 36 fd_least_mean rfl
  obtain ⟨oc_mean_paper, od_mean_paper, sl_mean_paper, kV_mean_paper, dc_mean_paper, pm_mean_paper, an_mean_paper, cd_mean_paper, ct_mean_paper, l_mean_paper, c_mean_paper⟩ := hf 37 fd_mean_paper rfl
  obtain ⟨oc_right_mean, od_right_mean, sl_right_mean, kV_right_mean, dc_right_mean, pm_right_mean, an_right_mean, cd_right_mean, ct_right_mean, l_right_mean, c_right_mean⟩ := hf 38 fd_right_mean rfl
  obtain ⟨oc_mends, od_mends, sl_mends, kV_mends, dc_mends, pm_mends, an_mends, cd_mends, ct_mends, l_mends, c_mends⟩ := hf 39 fd_mends rfl
  obtain ⟨oc_mended, od_mended, sl_mended, kV_mended, dc_mended, pm_mended, an_mended, cd_mended, ct_mended, l_mended, c_mended⟩ := hf 40 fd_mended rfl
  obtain ⟨oc_Meter_init, od_Meter_init, sl_Meter_init, kV_Meter_init, dc_Meter_init, pm_Meter_init, an_Meter_init, cd_Meter_init, ct_Meter_init, l_Meter_init, c_Meter_init⟩ := hf 41 fd_Meter_init rfl
  obtain ⟨oc_difference, od_difference, sl_difference, kV_difference, dc_difference, pm_difference, an_difference, cd_difference, ct_difference, l_difference, c_difference⟩ := hf 42 fd_difference rfl
  obtain ⟨oc_in_step, od_in_step, sl_in_step, kV_in_step, dc_in_step, pm_in_step, an_in_step, cd_in_step, ct_in_step, l_in_step, c_in_step⟩ := hf 43 fd_in_step rfl
  obtain ⟨oc_first_apart, od_first_apart, sl_first_apart, kV_first_apart, dc_first_apart, pm_first_apart, an_first_apart, cd_first_apart, ct_first_apart, l_first_apart, c_first_apart⟩ := hf 44 fd_first_apart rfl
  obtain ⟨oc_write, od_write, sl_write, kV_write, dc_write, pm_write, an_write, cd_write, ct_write, l_write, c_write⟩ := hf 45 fd_write rfl
  obtain ⟨oc_law_taken, od_law_taken, sl_law_taken, kV_law_taken, dc_law_taken, pm_law_taken, an_law_taken, cd_law_taken, ct_law_taken, l_law_taken, c_law_taken⟩ := hf 46 fd_law_taken rfl
  obtain ⟨oc_law_odd, od_law_odd, sl_law_odd, kV_law_odd, dc_law_odd, pm_law_odd, an_law_odd, cd_law_odd, ct_law_odd, l_law_odd, c_law_odd⟩ := hf 47 fd_law_odd rfl
  obtain ⟨oc_law_call, od_law_call, sl_law_call, kV_law_call, dc_law_call, pm_law_call, an_law_call, cd_law_call, ct_law_call, l_law_call, c_law_call⟩ := hf 48 fd_law_call rfl
  obtain ⟨oc_law, od_law, sl_law, kV_law, dc_law, pm_law, an_law, cd_law, ct_law, l_law, c_law⟩ := hf 49 fd_law rfl
  obtain ⟨t_MOST_STANDS, g_MOST_STANDS⟩ := int_k (row_ok e2 1 (b := (Fa.int "MOST_STANDS" (8)).ok K) rfl)
  obtain ⟨t_MOST_GAIN, g_MOST_GAIN⟩ := int_k (row_ok e2 2 (b := (Fa.int "MOST_GAIN" (1000000000000000000000000000000)).ok K) rfl)
  exact ⟨txt_mk X G
    (of_decide_eq_true (row_ok e0 0 (b := decide (PySem.W.nsIn K mainGlobals "is_whole_number" = some (some (.ref (fAd K ("is_whole_number", none)))))) rfl))
    (of_decide_eq_true (row_ok e0 1 (b := decide (PySem.W.nsIn K mainGlobals "is_integer_between" = some (some (.ref (fAd K ("is_integer_between", none)))))) rfl))
    (of_decide_eq_true (row_ok e0 2 (b := decide (PySem.W.nsIn K mainGlobals "_is_stand" = some (some (.ref (fAd K ("_is_stand", none)))))) rfl))
    (of_decide_eq_true (row_ok e0 3 (b := decide (PySem.W.nsIn K mainGlobals "_check_stands" = some (some (.ref (fAd K ("_check_stands", none)))))) rfl))
    (of_decide_eq_true (row_ok e0 4 (b := decide (PySem.W.nsIn K mainGlobals "_is_step" = some (some (.ref (fAd K ("_is_step", none)))))) rfl))
    (of_decide_eq_true (row_ok e0 5 (b := decide (PySem.W.nsIn K mainGlobals "check_steps_machines" = some (some (.ref (fAd K ("check_steps_machines", none)))))) rfl))
    (of_decide_eq_true (row_ok e0 6 (b := decide (PySem.W.nsIn K mainGlobals "is_ascending" = some (some (.ref (fAd K ("is_ascending", none)))))) rfl))
    (of_decide_eq_true (row_ok e0 7 (b := decide (PySem.W.nsIn K mainGlobals "_check_ends" = some (some (.ref (fAd K ("_check_ends", none)))))) rfl))
    (of_decide_eq_true (row_ok e0 8 (b := decide (PySem.W.nsIn K mainGlobals "check_machine" = some (some (.ref (fAd K ("check_machine", none)))))) rfl))
    (of_decide_eq_true (row_ok e0 9 (b := decide (PySem.W.nsIn K mainGlobals "is_row" = some (some (.ref (fAd K ("is_row", none)))))) rfl))
    (of_decide_eq_true (row_ok e0 10 (b := decide (PySem.W.nsIn K mainGlobals "behind" = some (some (.ref (fAd K ("behind", none)))))) rfl))
    (of_decide_eq_true (row_ok e0 11 (b := decide (PySem.W.nsIn K mainGlobals "ends_well" = some (some (.ref (fAd K ("ends_well", none)))))) rfl))
    (of_decide_eq_true (row_ok e0 12 (b := decide (PySem.W.nsIn K mainGlobals "reached" = some (some (.ref (fAd K ("reached", none)))))) rfl))
    (of_decide_eq_true (row_ok e0 13 (b := decide (PySem.W.nsIn K mainGlobals "_tally_at" = some (some (.ref (fAd K ("_tally_at", none)))))) rfl))
    (of_decide_eq_true (row_ok e0 14 (b := decide (PySem.W.nsIn K mainGlobals "_row_at" = some (some (.ref (fAd K ("_row_at", none)))))) rfl))
    (of_decide_eq_true (row_ok e0 15 (b := decide (PySem.W.nsIn K mainGlobals "greatest_at" = some (some (.ref (fAd K ("greatest_at", none)))))) rfl))
    (of_decide_eq_true (row_ok e0 16 (b := decide (PySem.W.nsIn K mainGlobals "least_at" = some (some (.ref (fAd K ("least_at", none)))))) rfl))
    (of_decide_eq_true (row_ok e0 17 (b := decide (PySem.W.nsIn K mainGlobals "greatest_row" = some (some (.ref (fAd K ("greatest_row", none)))))) rfl))
    (of_decide_eq_true (row_ok e0 18 (b := decide (PySem.W.nsIn K mainGlobals "least_row" = some (some (.ref (fAd K ("least_row", none)))))) rfl))
    (of_decide_eq_true (row_ok e0 19 (b := decide (PySem.W.nsIn K mainGlobals "bounds" = some (some (.ref (fAd K ("bounds", none)))))) rfl))
    (of_decide_eq_true (row_ok e0 20 (b := decide (PySem.W.nsIn K mainGlobals "end_bounds" = some (some (.ref (fAd K ("end_bounds", none)))))) rfl))
    (of_decide_eq_true (row_ok e0 21 (b := decide (PySem.W.nsIn K mainGlobals "stays" = some (some (.ref (fAd K ("stays", none)))))) rfl))
    (of_decide_eq_true (row_ok e0 22 (b := decide (PySem.W.nsIn K mainGlobals "bar" = some (some (.ref (fAd K ("bar", none)))))) rfl))
    (of_decide_eq_true (row_ok e0 23 (b := decide (PySem.W.nsIn K mainGlobals "right_bar" = some (some (.ref (fAd K ("right_bar", none)))))) rfl))
    (of_decide_eq_true (row_ok e0 24 (b := decide (PySem.W.nsIn K mainGlobals "paper" = some (some (.ref (fAd K ("paper", none)))))) rfl))
    (of_decide_eq_true (row_ok e1 0 (b := decide (PySem.W.nsIn K mainGlobals "right_paper" = some (some (.ref (fAd K ("right_paper", none)))))) rfl))
    (of_decide_eq_true (row_ok e1 1 (b := decide (PySem.W.nsIn K mainGlobals "first_leaving" = some (some (.ref (fAd K ("first_leaving", none)))))) rfl))
    (of_decide_eq_true (row_ok e1 2 (b := decide (PySem.W.nsIn K mainGlobals "tallies" = some (some (.ref (fAd K ("tallies", none)))))) rfl))
    (of_decide_eq_true (row_ok e1 3 (b := decide (PySem.W.nsIn K mainGlobals "count" = some (some (.ref (fAd K ("count", none)))))) rfl))
    (of_decide_eq_true (row_ok e1 4 (b := decide (PySem.W.nsIn K mainGlobals "count_staying" = some (some (.ref (fAd K ("count_staying", none)))))) rfl))
    (of_decide_eq_true (row_ok e1 5 (b := decide (PySem.W.nsIn K mainGlobals "needed" = some (some (.ref (fAd K ("needed", none)))))) rfl))
    (of_decide_eq_true (row_ok e1 6 (b := decide (PySem.W.nsIn K mainGlobals "lasting" = some (some (.ref (fAd K ("lasting", none)))))) rfl))
    (of_decide_eq_true (row_ok e1 7 (b := decide (PySem.W.nsIn K mainGlobals "credit" = some (some (.ref (fAd K ("credit", none)))))) rfl))
    (of_decide_eq_true (row_ok e1 8 (b := decide (PySem.W.nsIn K mainGlobals "right_lasting" = some (some (.ref (fAd K ("right_lasting", none)))))) rfl))
    (of_decide_eq_true (row_ok e1 9 (b := decide (PySem.W.nsIn K mainGlobals "greatest_mean" = some (some (.ref (fAd K ("greatest_mean", none)))))) rfl))
    (of_decide_eq_true (row_ok e1 10 (b := decide (PySem.W.nsIn K mainGlobals "least_mean" = some (some (.ref (fAd K ("least_mean", none)))))) rfl))
    (of_decide_eq_true (row_ok e1 11 (b := decide (PySem.W.nsIn K mainGlobals "mean_paper" = some (some (.ref (fAd K ("mean_paper", none)))))) rfl))
    (of_decide_eq_true (row_ok e1 12 (b := decide (PySem.W.nsIn K mainGlobals "right_mean" = some (some (.ref (fAd K ("right_mean", none)))))) rfl))
    (of_decide_eq_true (row_ok e1 13 (b := decide (PySem.W.nsIn K mainGlobals "mends" = some (some (.ref (fAd K ("mends", none)))))) rfl))
    (of_decide_eq_true (row_ok e1 14 (b := decide (PySem.W.nsIn K mainGlobals "mended" = some (some (.ref (fAd K ("mended", none)))))) rfl))
    (of_decide_eq_true (row_ok e1 15 (b := decide (PySem.W.nsIn K mainGlobals "difference" = some (some (.ref (fAd K ("difference", none)))))) rfl))
    (of_decide_eq_true (row_ok e1 16 (b := decide (PySem.W.nsIn K mainGlobals "in_step" = some (some (.ref (fAd K ("in_step", none)))))) rfl))
    (of_decide_eq_true (row_ok e1 17 (b := decide (PySem.W.nsIn K mainGlobals "first_apart" = some (some (.ref (fAd K ("first_apart", none)))))) rfl))
    (of_decide_eq_true (row_ok e1 18 (b := decide (PySem.W.nsIn K mainGlobals "write" = some (some (.ref (fAd K ("write", none)))))) rfl))
    (of_decide_eq_true (row_ok e1 19 (b := decide (PySem.W.nsIn K mainGlobals "_law_taken" = some (some (.ref (fAd K ("_law_taken", none)))))) rfl))
    (of_decide_eq_true (row_ok e1 20 (b := decide (PySem.W.nsIn K mainGlobals "_law_odd" = some (some (.ref (fAd K ("_law_odd", none)))))) rfl))
    (of_decide_eq_true (row_ok e1 21 (b := decide (PySem.W.nsIn K mainGlobals "_law_call" = some (some (.ref (fAd K ("_law_call", none)))))) rfl))
    (of_decide_eq_true (row_ok e1 22 (b := decide (PySem.W.nsIn K mainGlobals "law" = some (some (.ref (fAd K ("law", none)))))) rfl))
    (of_decide_eq_true (row_ok e1 23 (b := decide (PySem.W.nsIn K mainGlobals "Machine" = some (some (.ref (ga K "Machine"))))) rfl))
    (of_decide_eq_true (row_ok e1 24 (b := decide (PySem.W.nsIn K mainGlobals "Meter" = some (some (.ref (ga K "Meter"))))) rfl))
    (of_decide_eq_true (row_ok e2 0 (b := decide (PySem.W.nsIn K mainGlobals "BadMachine" = some (some (.ref (ga K "BadMachine"))))) rfl))
    g_MOST_STANDS
    g_MOST_GAIN
    (of_decide_eq_true (row_ok e2 3 (b := decide (PySem.W.nsIn K mainGlobals "LETTERS" = some (some (.ref (ga K "LETTERS"))))) rfl))
    (of_decide_eq_true (row_ok e2 4 (b := decide (PySem.W.nsIn K mainGlobals "bool" = some none)) rfl))
    (of_decide_eq_true (row_ok e2 5 (b := decide (PySem.W.nsIn K mainGlobals "enumerate" = some none)) rfl))
    (of_decide_eq_true (row_ok e2 6 (b := decide (PySem.W.nsIn K mainGlobals "int" = some none)) rfl))
    (of_decide_eq_true (row_ok e2 7 (b := decide (PySem.W.nsIn K mainGlobals "isinstance" = some none)) rfl))
    (of_decide_eq_true (row_ok e2 8 (b := decide (PySem.W.nsIn K mainGlobals "len" = some none)) rfl))
    (of_decide_eq_true (row_ok e2 9 (b := decide (PySem.W.nsIn K mainGlobals "list" = some none)) rfl))
    (of_decide_eq_true (row_ok e2 10 (b := decide (PySem.W.nsIn K mainGlobals "range" = some none)) rfl))
    (of_decide_eq_true (row_ok e2 11 (b := decide (PySem.W.nsIn K mainGlobals "str" = some none)) rfl))
    (of_decide_eq_true (row_ok e2 12 (b := decide (PySem.W.nsIn K mainGlobals "tuple" = some none)) rfl))
    l_Machine_init
    c_Machine_init
    (of_decide_eq_true (row_ok e2 13 (b := decide (PySem.W.keepIn K (.ref (fAd K ("Machine", some "__init__"))) = true)) rfl))
    l_is_whole_number
    c_is_whole_number
    (of_decide_eq_true (row_ok e2 14 (b := decide (PySem.W.keepIn K (.ref (fAd K ("is_whole_number", none))) = true)) rfl))
    l_is_integer_between
    c_is_integer_between
    (of_decide_eq_true (row_ok e2 15 (b := decide (PySem.W.keepIn K (.ref (fAd K ("is_integer_between", none))) = true)) rfl))
    l_is_stand
    c_is_stand
    (of_decide_eq_true (row_ok e2 16 (b := decide (PySem.W.keepIn K (.ref (fAd K ("_is_stand", none))) = true)) rfl))
    l_check_stands
    c_check_stands
    (of_decide_eq_true (row_ok e2 17 (b := decide (PySem.W.keepIn K (.ref (fAd K ("_check_stands", none))) = true)) rfl))
    l_is_step
    c_is_step
    (of_decide_eq_true (row_ok e2 18 (b := decide (PySem.W.keepIn K (.ref (fAd K ("_is_step", none))) = true)) rfl))
    l_check_steps
    c_check_steps
    (of_decide_eq_true (row_ok e2 19 (b := decide (PySem.W.keepIn K (.ref (fAd K ("check_steps_machines", none))) = true)) rfl))
    l_is_ascending
    c_is_ascending
    (of_decide_eq_true (row_ok e2 20 (b := decide (PySem.W.keepIn K (.ref (fAd K ("is_ascending", none))) = true)) rfl))
    l_check_ends
    c_check_ends
    (of_decide_eq_true (row_ok e2 21 (b := decide (PySem.W.keepIn K (.ref (fAd K ("_check_ends", none))) = true)) rfl))
    l_check_machine
    c_check_machine
    (of_decide_eq_true (row_ok e2 22 (b := decide (PySem.W.keepIn K (.ref (fAd K ("check_machine", none))) = true)) rfl))
    l_is_row
    c_is_row
    (of_decide_eq_true (row_ok e2 23 (b := decide (PySem.W.keepIn K (.ref (fAd K ("is_row", none))) = true)) rfl))
    l_behind
    c_behind
    (of_decide_eq_true (row_ok e2 24 (b := decide (PySem.W.keepIn K (.ref (fAd K ("behind", none))) = true)) rfl))
    l_ends_well
    c_ends_well
    (of_decide_eq_true (row_ok e3 0 (b := decide (PySem.W.keepIn K (.ref (fAd K ("ends_well", none))) = true)) rfl))
    l_reached
    c_reached
    (of_decide_eq_true (row_ok e3 1 (b := decide (PySem.W.keepIn K (.ref (fAd K ("reached", none))) = true)) rfl))
    l_tally_at
    c_tally_at
    (of_decide_eq_true (row_ok e3 2 (b := decide (PySem.W.keepIn K (.ref (fAd K ("_tally_at", none))) = true)) rfl))
    l_row_at
    c_row_at
    (of_decide_eq_true (row_ok e3 3 (b := decide (PySem.W.keepIn K (.ref (fAd K ("_row_at", none))) = true)) rfl))
    l_greatest_at
    c_greatest_at
    (of_decide_eq_true (row_ok e3 4 (b := decide (PySem.W.keepIn K (.ref (fAd K ("greatest_at", none))) = true)) rfl))
    l_least_at
    c_least_at
    (of_decide_eq_true (row_ok e3 5 (b := decide (PySem.W.keepIn K (.ref (fAd K ("least_at", none))) = true)) rfl))
    l_greatest_row
    c_greatest_row
    (of_decide_eq_true (row_ok e3 6 (b := decide (PySem.W.keepIn K (.ref (fAd K ("greatest_row", none))) = true)) rfl))
    l_least_row
    c_least_row
    (of_decide_eq_true (row_ok e3 7 (b := decide (PySem.W.keepIn K (.ref (fAd K ("least_row", none))) = true)) rfl))
    l_bounds
    c_bounds
    (of_decide_eq_true (row_ok e3 8 (b := decide (PySem.W.keepIn K (.ref (fAd K ("bounds", none))) = true)) rfl))
    l_end_bounds
    c_end_bounds
    (of_decide_eq_true (row_ok e3 9 (b := decide (PySem.W.keepIn K (.ref (fAd K ("end_bounds", none))) = true)) rfl))
    l_stays
    c_stays
    (of_decide_eq_true (row_ok e3 10 (b := decide (PySem.W.keepIn K (.ref (fAd K ("stays", none))) = true)) rfl))
    l_bar
    c_bar
    (of_decide_eq_true (row_ok e3 11 (b := decide (PySem.W.keepIn K (.ref (fAd K ("bar", none))) = true)) rfl))
    l_right_bar
    c_right_bar
    (of_decide_eq_true (row_ok e3 12 (b := decide (PySem.W.keepIn K (.ref (fAd K ("right_bar", none))) = true)) rfl))
    l_paper
    c_paper
    (of_decide_eq_true (row_ok e3 13 (b := decide (PySem.W.keepIn K (.ref (fAd K ("paper", none))) = true)) rfl))
    l_right_paper
    c_right_paper
    (of_decide_eq_true (row_ok e3 14 (b := decide (PySem.W.keepIn K (.ref (fAd K ("right_paper", none))) = true)) rfl))
    l_first_leaving
    c_first_leaving
    (of_decide_eq_true (row_ok e3 15 (b := decide (PySem.W.keepIn K (.ref (fAd K ("first_leaving", none))) = true)) rfl))
    l_tallies
    c_tallies
    (of_decide_eq_true (row_ok e3 16 (b := decide (PySem.W.keepIn K (.ref (fAd K ("tallies", none))) = true)) rfl))
    l_count
    c_count
    (of_decide_eq_true (row_ok e3 17 (b := decide (PySem.W.keepIn K (.ref (fAd K ("count", none))) = true)) rfl))
    l_count_staying
    c_count_staying
    (of_decide_eq_true (row_ok e3 18 (b := decide (PySem.W.keepIn K (.ref (fAd K ("count_staying", none))) = true)) rfl))
    l_needed
    c_needed
    (of_decide_eq_true (row_ok e3 19 (b := decide (PySem.W.keepIn K (.ref (fAd K ("needed", none))) = true)) rfl))
    l_lasting
    c_lasting
    (of_decide_eq_true (row_ok e3 20 (b := decide (PySem.W.keepIn K (.ref (fAd K ("lasting", none))) = true)) rfl))
    l_credit
    c_credit
    (of_decide_eq_true (row_ok e3 21 (b := decide (PySem.W.keepIn K (.ref (fAd K ("credit", none))) = true)) rfl))
    l_right_lasting
    c_right_lasting
    (of_decide_eq_true (row_ok e3 22 (b := decide (PySem.W.keepIn K (.ref (fAd K ("right_lasting", none))) = true)) rfl))
    l_greatest_mean
    c_greatest_mean
    (of_decide_eq_true (row_ok e3 23 (b := decide (PySem.W.keepIn K (.ref (fAd K ("greatest_mean", none))) = true)) rfl))
    l_least_mean
    c_least_mean
    (of_decide_eq_true (row_ok e3 24 (b := decide (PySem.W.keepIn K (.ref (fAd K ("least_mean", none))) = true)) rfl))
    l_mean_paper
    c_mean_paper
    (of_decide_eq_true (row_ok e4 0 (b := decide (PySem.W.keepIn K (.ref (fAd K ("mean_paper", none))) = true)) rfl))
    l_right_mean
    c_right_mean
    (of_decide_eq_true (row_ok e4 1 (b := decide (PySem.W.keepIn K (.ref (fAd K ("right_mean", none))) = true)) rfl))
    l_mends
    c_mends
    (of_decide_eq_true (row_ok e4 2 (b := decide (PySem.W.keepIn K (.ref (fAd K ("mends", none))) = true)) rfl))
    l_mended
    c_mended
    (of_decide_eq_true (row_ok e4 3 (b := decide (PySem.W.keepIn K (.ref (fAd K ("mended", none))) = true)) rfl))
    l_Meter_init
    c_Meter_init
    (of_decide_eq_true (row_ok e4 4 (b := decide (PySem.W.keepIn K (.ref (fAd K ("Meter", some "__init__"))) = true)) rfl))
    l_difference
    c_difference
    (of_decide_eq_true (row_ok e4 5 (b := decide (PySem.W.keepIn K (.ref (fAd K ("difference", none))) = true)) rfl))
    l_in_step
    c_in_step
    (of_decide_eq_true (row_ok e4 6 (b := decide (PySem.W.keepIn K (.ref (fAd K ("in_step", none))) = true)) rfl))
    l_first_apart
    c_first_apart
    (of_decide_eq_true (row_ok e4 7 (b := decide (PySem.W.keepIn K (.ref (fAd K ("first_apart", none))) = true)) rfl))
    l_write
    c_write
    (of_decide_eq_true (row_ok e4 8 (b := decide (PySem.W.keepIn K (.ref (fAd K ("write", none))) = true)) rfl))
    l_law_taken
    c_law_taken
    (of_decide_eq_true (row_ok e4 9 (b := decide (PySem.W.keepIn K (.ref (fAd K ("_law_taken", none))) = true)) rfl))
    l_law_odd
    c_law_odd
    (of_decide_eq_true (row_ok e4 10 (b := decide (PySem.W.keepIn K (.ref (fAd K ("_law_odd", none))) = true)) rfl))
    l_law_call
    c_law_call
    (of_decide_eq_true (row_ok e4 11 (b := decide (PySem.W.keepIn K (.ref (fAd K ("_law_call", none))) = true)) rfl))
    l_law
    c_law
    (of_decide_eq_true (row_ok e4 12 (b := decide (PySem.W.keepIn K (.ref (fAd K ("law", none))) = true)) rfl))
    (of_decide_eq_true (row_ok e4 13 (b := decide (PySem.W.plainGet K (ga K "Machine") Str.empty = true)) rfl))
    (of_decide_eq_true (row_ok e4 14 (b := decide (PySem.W.hasDictIn K (ga K "Machine") = true)) rfl))
    (of_decide_eq_true (row_ok e4 15 (b := decide (PySem.W.plainOver K (ga K "Machine") = true)) rfl))
    (of_decide_eq_true (row_ok e4 16 (b := decide (PySem.W.findIn K (.ref (ga K "Machine")) "__setattr__" = some (some (.builtin "object.__setattr__")))) rfl))
    (of_decide_eq_true (row_ok e4 17 (b := decide (PySem.W.makesIn K (ga K "Machine") = true)) rfl))
    (of_decide_eq_true (row_ok e4 18 (b := decide (PySem.W.keepIn K (.ref (ga K "Machine")) = true)) rfl))
    (of_decide_eq_true (row_ok e4 19 (b := decide (PySem.W.findIn K (.ref (ga K "Machine")) "__init__" = some (some (.ref (fAd K ("Machine", some "__init__")))))) rfl))
    (of_decide_eq_true (row_ok e4 20 (b := decide (PySem.W.isFn K (.ref (fAd K ("Machine", some "__init__"))) = true)) rfl))
    (of_decide_eq_true (row_ok e4 21 (b := decide (PySem.W.findIn K (.ref (ga K "Machine")) "_stands" = some none)) rfl))
    (of_decide_eq_true (row_ok e4 22 (b := decide (PySem.W.findIn K (.ref (ga K "Machine")) "_steps" = some none)) rfl))
    (of_decide_eq_true (row_ok e4 23 (b := decide (PySem.W.findIn K (.ref (ga K "Machine")) "_ends" = some none)) rfl))
    (of_decide_eq_true (row_ok e4 24 (b := decide (PySem.W.findIn K (.ref (ga K "Machine")) "__class__" = some (some (.builtin "object.__class__")))) rfl))
    (of_decide_eq_true (row_ok e5 0 (b := decide (PySem.W.specialIn K (.builtin "object.__class__") "__get__" = some (some (.builtin "getset_descriptor.__get__")))) rfl))
    (of_decide_eq_true (row_ok e5 1 (b := decide (PySem.W.takesIn K (.builtin "object.__class__") = some true)) rfl))
    (of_decide_eq_true (row_ok e5 2 (b := decide (PySem.W.mroIn K (ga K "Machine") (.type "object") = some true)) rfl))
    (of_decide_eq_true (row_ok e5 3 (b := decide (PySem.W.isClsIn K (ga K "Machine") = true)) rfl))
    (of_decide_eq_true (row_ok e5 4 (b := decide (PySem.W.typeIn K (.ref (ga K "Machine")) = some (.type "type"))) rfl))
    (of_decide_eq_true (row_ok e5 5 (b := decide (PySem.W.plainGet K (ga K "Meter") Str.empty = true)) rfl))
    (of_decide_eq_true (row_ok e5 6 (b := decide (PySem.W.hasDictIn K (ga K "Meter") = true)) rfl))
    (of_decide_eq_true (row_ok e5 7 (b := decide (PySem.W.plainOver K (ga K "Meter") = true)) rfl))
    (of_decide_eq_true (row_ok e5 8 (b := decide (PySem.W.findIn K (.ref (ga K "Meter")) "__setattr__" = some (some (.builtin "object.__setattr__")))) rfl))
    (of_decide_eq_true (row_ok e5 9 (b := decide (PySem.W.makesIn K (ga K "Meter") = true)) rfl))
    (of_decide_eq_true (row_ok e5 10 (b := decide (PySem.W.keepIn K (.ref (ga K "Meter")) = true)) rfl))
    (of_decide_eq_true (row_ok e5 11 (b := decide (PySem.W.findIn K (.ref (ga K "Meter")) "__init__" = some (some (.ref (fAd K ("Meter", some "__init__")))))) rfl))
    (of_decide_eq_true (row_ok e5 12 (b := decide (PySem.W.isFn K (.ref (fAd K ("Meter", some "__init__"))) = true)) rfl))
    (of_decide_eq_true (row_ok e5 13 (b := decide (PySem.W.excIn K (ga K "BadMachine") [.type "ValueError", .type "Exception", .type "BaseException", .type "object"] "ValueError.__new__" = true)) rfl))
    (of_decide_eq_true (row_ok e5 14 (b := decide (PySem.W.keepIn K (.ref (ga K "BadMachine")) = true)) rfl))
    (of_decide_eq_true (row_ok e5 15 (b := decide (PySem.W.subIn K (.ref (ga K "BadMachine")) (.type "BaseException") = some true)) rfl))
    (of_decide_eq_true (row_ok e5 16 (b := decide (PySem.W.typeIn K (.ref (ga K "BadMachine")) = some (.type "type"))) rfl))
    (of_decide_eq_true (row_ok e5 17 (b := decide (PySem.W.isClsIn K (ga K "BadMachine") = true)) rfl))
    (of_decide_eq_true (row_ok e5 18 (b := decide (PySem.W.subIn K (.ref (ga K "BadMachine")) (.ref (ga K "BadMachine")) = some true)) rfl))
    (fun H => tupB_ok (row_ok e5 19 (b := tupB K "LETTERS" [.str "a", .str "b", .str "c", .str "d"]) rfl) H)⟩
end
theorem walkH {l : PySem.W.OpenLaw} {q : Program} {loose : List Str} {XP : (Str → Option Value) → Heap → Prop} {YP : World → Heap → Prop} {d : DefRec} (hn : l.most = some 63) (hdf : d.params.defaults = [])
    (F : ∀ (w : World) (mg : Str → Option Value) (fa : Addr) (h : Heap), YP w h → h.Ns mainGlobals mg → mg d.name = some (.ref fa) → ∃ K : PySem.W.Frag, K.In h ∧
      ∃ fd : FuncData, (∀ (s : Shared) (u : Value), BindsTo s fd ⟨[u], []⟩ [("_law_script", u)]) ∧ ∀ base : Heap, K.In base → base.Ns mainGlobals mg → FnOk l.prog w K mg base (L2.CX l.prog w) 10 fa fd ["_law_script"] (sp_law K)) :
    PySem.W.WalkO q loose XP YP l.row.toRowW d [] (fun f vs => PySem.call f vs) := by
  refine Att.attach_call hn hdf fun w s₀ s₁ mg mb fa o pm cd doc a vs ns G Y ho hd hcd hmg hobj hints hlen hg => ?_
  obtain ⟨K, KX, fd, hb, hF⟩ := F w mg fa _ Y G.T.g hmg
  refine law_call KX G.T.g G.T.b G.T.builtins G.T.nolimit hg hobj hints (Nat.le_trans hlen (by decide)) ⟨rfl, by decide, by decide⟩ hF hb (fun H hO hS => ⟨a, ns, rfl, by
      rcases hS with (e | ⟨o, e⟩) | h
      · rcases hO a with z | ⟨_, _, z⟩
        · rw [e] at z; cases z
        · rw [e] at z; cases z
      · exact .inl ⟨o, e⟩
      · exact .inr fun _ => .inr h, hlen, fun _ => rfl⟩) fun H e s' h => ?_
  obtain ⟨_, _, _, _, _, _, _, _, _, _, _, _, z⟩ := h
  exact z.elim
end Sv
open PySem PySem.W PySem.Calls PyProof.Rows in
set_option maxRecDepth 100000 in
set_option maxHeartbeats 0 in
theorem PySem.Challenge.cw_staytallies_k02_no_machines_holds : PySem.Challenge.rw_staytallies_k02_no_machines.Holds := by
  w_on; o_law
  refine HandSHeadRun.head_imp (r := Sv.R) (q := Sv.qv) (H := Sv.hk) (ob := Sv.ob) (M := 20000) (loose := Sv.los) (d := HandSHeadRun.topDef Sv.R.prog 138) (kwd := []) Sv.ob_eq Sv.run_at (by kernel_rfl) (by kernel_rfl) (by kernel_rfl) (by rfl) (by first | assumption | decide +kernel) (by decide +kernel) ⟨rfl, rfl, rfl, rfl, rfl, by decide +kernel⟩ ?hw ?hc
  case hw => w_witness2
  case hc =>
    refine Sv.walkH (l := PySem.Challenge.rw_staytallies_k02_no_machines) rfl (by kernel_rfl) ?F
    intro w mg fa h Y G hmg
    obtain ⟨K, KX, he, hf⟩ := Y
    have hmg2 : mg "law" = some (.ref fa) := by
      have e : (HandSHeadRun.topDef Sv.R.prog 138).name = ("law" : PySem.Str) := by kernel_rfl
      rw [← e]
      exact hmg
    obtain ⟨T⟩ := Sv.txt_of KX G he hf
    exact ⟨K, KX, Sv.all_mk T hmg2⟩
#print axioms PySem.Challenge.cw_staytallies_k02_no_machines_holds
