import PyProof.Rows.All
import Wide.All
import OpenK.AllK
import Wide.FinOn
import HandS.ForMost
import HandS.ForExc
import HandS.Wide
import HandS.Property
import HandS.IsInst
import HandS.TupAny
import HandS.TupLe
import HandS.Style
import HandS.Flow
import HandS.ExcInit
import HandS.ExcField
import HandS.OwnEq
import KE.GoesMore
import HandS.Codes
import HandS.DictComp
import HandS.Walk
import HandS.SortInts
import HandS.TupMul
import HandS.Gcd
import PySem.Challenge.RW_staytallies_k04_whole_extremes
set_option Elab.async false
set_option linter.all false
set_option maxRecDepth 100000
set_option maxHeartbeats 4000000
namespace Sv
open PySem L2
def top (i : Nat) : Stmt := PySem.Challenge.pw_staytallies_k04_whole_extremes.main.body.getD i (.Pass ⟨0, 0, 0, 0⟩)
abbrev s_led_to : Stmt := (top 9)
abbrev s_longer_rows : Stmt := (top 10)
abbrev s_improved : Stmt := (top 11)
abbrev s_best_rows : Stmt := (top 12)
abbrev s_best_of : Stmt := (top 13)
abbrev s_least_and_greatest : Stmt := (top 14)
abbrev s_Machine_init : Stmt := (inClass (top 19) 0)
abbrev s_Machine_stands : Stmt := (inClass (top 19) 1)
abbrev s_Machine_steps : Stmt := (inClass (top 19) 2)
abbrev s_Machine_ends : Stmt := (inClass (top 19) 3)
abbrev s_is_whole_number : Stmt := (top 20)
abbrev s_is_integer_between : Stmt := (top 21)
abbrev s_is_stand : Stmt := (top 22)
abbrev s_check_stands : Stmt := (top 23)
abbrev s_is_step : Stmt := (top 24)
abbrev s_check_steps : Stmt := (top 25)
abbrev s_is_ascending : Stmt := (top 26)
abbrev s_check_ends : Stmt := (top 27)
abbrev s_check_machine : Stmt := (top 28)
abbrev s_check_stand : Stmt := (top 29)
abbrev s_reached : Stmt := (top 30)
abbrev s_tally_at : Stmt := (top 32)
abbrev s_greatest_at : Stmt := (top 33)
abbrev s_least_at : Stmt := (top 34)
abbrev s_bounds : Stmt := (top 35)
abbrev s_end_bounds : Stmt := (top 36)
abbrev s_law_taken : Stmt := (top 38)
abbrev s_law_parts : Stmt := (top 39)
abbrev s_law_machine : Stmt := (top 40)
abbrev s_law_next : Stmt := (top 41)
abbrev s_law_reached : Stmt := (top 42)
abbrev s_law_bests : Stmt := (top 43)
abbrev s_law_most : Stmt := (top 44)
abbrev s_law_refused : Stmt := (top 45)
abbrev s_law_edge : Stmt := (top 46)
abbrev s_law : Stmt := (top 47)
theorem sc_led_to : FnScope ["steps", "begins", "found", "waiting", "stand", "begun", "_", "end"] ["steps", "begins"] (defScope s_led_to) := ⟨rfl, rfl, rfl, by decide +kernel, rfl, by decide +kernel, by decide +kernel⟩
theorem sc_longer_rows : FnScope ["steps", "sign", "rows", "longer", "begun", "letter", "end", "gain", "tally", "row"] ["steps", "sign", "rows"] (defScope s_longer_rows) := ⟨rfl, rfl, rfl, by decide +kernel, rfl, by decide +kernel, by decide +kernel⟩
theorem sc_improved : FnScope ["rows", "best", "stand"] ["rows", "best"] (defScope s_improved) := ⟨rfl, rfl, rfl, by decide +kernel, rfl, by decide +kernel, by decide +kernel⟩
theorem sc_best_rows : FnScope ["many", "steps", "sign", "best", "rows", "_", "improved", "stand", "endless"] ["many", "steps", "sign"] (defScope s_best_rows) := ⟨rfl, rfl, rfl, by decide +kernel, rfl, by decide +kernel, by decide +kernel⟩
theorem sc_best_of : FnScope ["many", "steps", "sign", "stands", "best", "tallies", "stand"] ["many", "steps", "sign", "stands"] (defScope s_best_of) := ⟨rfl, rfl, rfl, by decide +kernel, rfl, by decide +kernel, by decide +kernel⟩
theorem sc_least_and_greatest : FnScope ["many", "steps", "stands"] ["many", "steps", "stands"] (defScope s_least_and_greatest) := ⟨rfl, rfl, rfl, by decide +kernel, rfl, by decide +kernel, by decide +kernel⟩
theorem sc_Machine_init : FnScope ["self", "stands", "steps", "ends"] ["self", "stands", "steps", "ends"] (defScope s_Machine_init) := ⟨rfl, rfl, rfl, by decide +kernel, rfl, by decide +kernel, by decide +kernel⟩
theorem sc_Machine_stands : FnScope ["self"] ["self"] (defScope s_Machine_stands) := ⟨rfl, rfl, rfl, by decide +kernel, rfl, by decide +kernel, by decide +kernel⟩
theorem sc_Machine_steps : FnScope ["self"] ["self"] (defScope s_Machine_steps) := ⟨rfl, rfl, rfl, by decide +kernel, rfl, by decide +kernel, by decide +kernel⟩
theorem sc_Machine_ends : FnScope ["self"] ["self"] (defScope s_Machine_ends) := ⟨rfl, rfl, rfl, by decide +kernel, rfl, by decide +kernel, by decide +kernel⟩
theorem sc_is_whole_number : FnScope ["value"] ["value"] (defScope s_is_whole_number) := ⟨rfl, rfl, rfl, by decide +kernel, rfl, by decide +kernel, by decide +kernel⟩
theorem sc_is_integer_between : FnScope ["value", "least", "most"] ["value", "least", "most"] (defScope s_is_integer_between) := ⟨rfl, rfl, rfl, by decide +kernel, rfl, by decide +kernel, by decide +kernel⟩
theorem sc_is_stand : FnScope ["stands", "value"] ["stands", "value"] (defScope s_is_stand) := ⟨rfl, rfl, rfl, by decide +kernel, rfl, by decide +kernel, by decide +kernel⟩
theorem sc_check_stands : FnScope ["stands"] ["stands"] (defScope s_check_stands) := ⟨rfl, rfl, rfl, by decide +kernel, rfl, by decide +kernel, by decide +kernel⟩
theorem sc_is_step : FnScope ["stands", "value", "begun", "letter", "end", "gain"] ["stands", "value"] (defScope s_is_step) := ⟨rfl, rfl, rfl, by decide +kernel, rfl, by decide +kernel, by decide +kernel⟩
theorem sc_check_steps : FnScope ["stands", "steps", "index", "step"] ["stands", "steps"] (defScope s_check_steps) := ⟨rfl, rfl, rfl, by decide +kernel, rfl, by decide +kernel, by decide +kernel⟩
theorem sc_is_ascending : FnScope ["value", "many", "least", "number"] ["value", "many"] (defScope s_is_ascending) := ⟨rfl, rfl, rfl, by decide +kernel, rfl, by decide +kernel, by decide +kernel⟩
theorem sc_check_ends : FnScope ["stands", "ends"] ["stands", "ends"] (defScope s_check_ends) := ⟨rfl, rfl, rfl, by decide +kernel, rfl, by decide +kernel, by decide +kernel⟩
theorem sc_check_machine : FnScope ["value"] ["value"] (defScope s_check_machine) := ⟨rfl, rfl, rfl, by decide +kernel, rfl, by decide +kernel, by decide +kernel⟩
theorem sc_check_stand : FnScope ["machine", "value"] ["machine", "value"] (defScope s_check_stand) := ⟨rfl, rfl, rfl, by decide +kernel, rfl, by decide +kernel, by decide +kernel⟩
theorem sc_reached : FnScope ["machine"] ["machine"] (defScope s_reached) := ⟨rfl, rfl, rfl, by decide +kernel, rfl, by decide +kernel, by decide +kernel⟩
theorem sc_tally_at : FnScope ["machine", "stand", "sign", "best", "tally"] ["machine", "stand", "sign"] (defScope s_tally_at) := ⟨rfl, rfl, rfl, by decide +kernel, rfl, by decide +kernel, by decide +kernel⟩
theorem sc_greatest_at : FnScope ["machine", "stand"] ["machine", "stand"] (defScope s_greatest_at) := ⟨rfl, rfl, rfl, by decide +kernel, rfl, by decide +kernel, by decide +kernel⟩
theorem sc_least_at : FnScope ["machine", "stand"] ["machine", "stand"] (defScope s_least_at) := ⟨rfl, rfl, rfl, by decide +kernel, rfl, by decide +kernel, by decide +kernel⟩
theorem sc_bounds : FnScope ["machine"] ["machine"] (defScope s_bounds) := ⟨rfl, rfl, rfl, by decide +kernel, rfl, by decide +kernel, by decide +kernel⟩
theorem sc_end_bounds : FnScope ["machine", "stands", "stand"] ["machine"] (defScope s_end_bounds) := ⟨rfl, rfl, rfl, by decide +kernel, rfl, by decide +kernel, by decide +kernel⟩
theorem sc_law_taken : FnScope ["_law_row", "_law_many", "_law_found", "_law_cell"] ["_law_row", "_law_many"] (defScope s_law_taken) := ⟨rfl, rfl, rfl, by decide +kernel, rfl, by decide +kernel, by decide +kernel⟩
theorem sc_law_parts : FnScope ["_law_row", "_law_stands", "_law_size", "_law_many", "_law_kind", "_law_heights", "_law_steps", "_law_letters", "_law_begun", "_law_letter", "_law_end", "_law_gain", "_law_ends", "_law_stand"] ["_law_row", "_law_stands", "_law_size"] (defScope s_law_parts) := ⟨rfl, rfl, rfl, by decide +kernel, rfl, by decide +kernel, by decide +kernel⟩
theorem sc_law_machine : FnScope ["_law_d"] ["_law_d"] (defScope s_law_machine) := ⟨rfl, rfl, rfl, by decide +kernel, rfl, by decide +kernel, by decide +kernel⟩
theorem sc_law_next : FnScope ["_law_d", "_law_stand", "_law_begun", "_law_letter", "_law_end", "_law_gain"] ["_law_d", "_law_stand"] (defScope s_law_next) := ⟨rfl, rfl, rfl, by decide +kernel, rfl, by decide +kernel, by decide +kernel⟩
theorem sc_law_reached : FnScope ["_law_d", "_law_found", "_law_stand", "_law_here", "_law_letter", "_law_end", "_law_gain"] ["_law_d"] (defScope s_law_reached) := ⟨rfl, rfl, rfl, by decide +kernel, rfl, by decide +kernel, by decide +kernel⟩
theorem sc_law_bests : FnScope ["_law_d", "_law_sign", "_law_lengths", "_law_found", "_law_here", "_law_turn", "_law_later", "_law_stand", "_law_letter", "_law_end", "_law_gain", "_law_tally"] ["_law_d", "_law_sign", "_law_lengths"] (defScope s_law_bests) := ⟨rfl, rfl, rfl, by decide +kernel, rfl, by decide +kernel, by decide +kernel⟩
theorem sc_law_most : FnScope ["_law_d", "_law_sign", "_law_many", "_law_found", "_law_levels", "_law_stands", "_law_stand", "_law_loose", "_law_begun", "_law_letter", "_law_end", "_law_gain", "_law_turn", "_law_level"] ["_law_d", "_law_sign"] (defScope s_law_most) := ⟨rfl, rfl, rfl, by decide +kernel, rfl, by decide +kernel, by decide +kernel⟩
theorem sc_law_refused : FnScope ["_law_kind", "_law_machine_here", "_law_stand", "_law_raised"] ["_law_kind", "_law_machine_here", "_law_stand"] (defScope s_law_refused) := ⟨rfl, rfl, rfl, by decide +kernel, rfl, by decide +kernel, by decide +kernel⟩
theorem sc_law_edge : FnScope ["_law_told", "_law_stands", "_law_sign", "_law_some", "_law_stand"] ["_law_told", "_law_stands", "_law_sign"] (defScope s_law_edge) := ⟨rfl, rfl, rfl, by decide +kernel, rfl, by decide +kernel, by decide +kernel⟩
theorem sc_law : FnScope ["_law_script", "_law_row", "_law_d", "_law_machine_here", "_law_high", "_law_less", "_law_stand", "_law_due", "_law_stands", "_law_good"] ["_law_script"] (defScope s_law) := ⟨rfl, rfl, rfl, by decide +kernel, rfl, by decide +kernel, by decide +kernel⟩
structure Txt (K : PySem.W.Frag) (mg : Str → Option Value) : Type where
  a_led_to : Addr
  fd_led_to : FuncData
  F_led_to : Fun K "led_to" "led_to" s_led_to a_led_to fd_led_to
  b_led_to : Binds K fd_led_to ["steps", "begins"] []
  k_led_to : PySem.W.keepIn K (.ref a_led_to) = true
  m_led_to : mg "led_to" = some (.ref a_led_to)
  a_longer_rows : Addr
  fd_longer_rows : FuncData
  F_longer_rows : Fun K "longer_rows" "longer_rows" s_longer_rows a_longer_rows fd_longer_rows
  b_longer_rows : Binds K fd_longer_rows ["steps", "sign", "rows"] []
  k_longer_rows : PySem.W.keepIn K (.ref a_longer_rows) = true
  m_longer_rows : mg "longer_rows" = some (.ref a_longer_rows)
  a_improved : Addr
  fd_improved : FuncData
  F_improved : Fun K "_improved" "_improved" s_improved a_improved fd_improved
  b_improved : Binds K fd_improved ["rows", "best"] []
  k_improved : PySem.W.keepIn K (.ref a_improved) = true
  m_improved : mg "_improved" = some (.ref a_improved)
  a_best_rows : Addr
  fd_best_rows : FuncData
  F_best_rows : Fun K "best_rows" "best_rows" s_best_rows a_best_rows fd_best_rows
  b_best_rows : Binds K fd_best_rows ["many", "steps", "sign"] []
  k_best_rows : PySem.W.keepIn K (.ref a_best_rows) = true
  m_best_rows : mg "best_rows" = some (.ref a_best_rows)
  a_best_of : Addr
  fd_best_of : FuncData
  F_best_of : Fun K "_best_of" "_best_of" s_best_of a_best_of fd_best_of
  b_best_of : Binds K fd_best_of ["many", "steps", "sign", "stands"] []
  k_best_of : PySem.W.keepIn K (.ref a_best_of) = true
  m_best_of : mg "_best_of" = some (.ref a_best_of)
  a_least_and_greatest : Addr
  fd_least_and_greatest : FuncData
  F_least_and_greatest : Fun K "least_and_greatest" "least_and_greatest" s_least_and_greatest a_least_and_greatest fd_least_and_greatest
  b_least_and_greatest : Binds K fd_least_and_greatest ["many", "steps", "stands"] []
  k_least_and_greatest : PySem.W.keepIn K (.ref a_least_and_greatest) = true
  m_least_and_greatest : mg "least_and_greatest" = some (.ref a_least_and_greatest)
  a_Machine_init : Addr
  fd_Machine_init : FuncData
  F_Machine_init : Fun K "__init__" "Machine.__init__" s_Machine_init a_Machine_init fd_Machine_init
  b_Machine_init : Binds K fd_Machine_init ["self", "stands", "steps", "ends"] []
  k_Machine_init : PySem.W.keepIn K (.ref a_Machine_init) = true
  a_Machine_stands : Addr
  fd_Machine_stands : FuncData
  F_Machine_stands : Fun K "stands" "Machine.stands" s_Machine_stands a_Machine_stands fd_Machine_stands
  b_Machine_stands : Binds K fd_Machine_stands ["self"] []
  k_Machine_stands : PySem.W.keepIn K (.ref a_Machine_stands) = true
  a_Machine_steps : Addr
  fd_Machine_steps : FuncData
  F_Machine_steps : Fun K "steps" "Machine.steps" s_Machine_steps a_Machine_steps fd_Machine_steps
  b_Machine_steps : Binds K fd_Machine_steps ["self"] []
  k_Machine_steps : PySem.W.keepIn K (.ref a_Machine_steps) = true
  a_Machine_ends : Addr
  fd_Machine_ends : FuncData
  F_Machine_ends : Fun K "ends" "Machine.ends" s_Machine_ends a_Machine_ends fd_Machine_ends
  b_Machine_ends : Binds K fd_Machine_ends ["self"] []
  k_Machine_ends : PySem.W.keepIn K (.ref a_Machine_ends) = true
  a_is_whole_number : Addr
  fd_is_whole_number : FuncData
  F_is_whole_number : Fun K "is_whole_number" "is_whole_number" s_is_whole_number a_is_whole_number fd_is_whole_number
  b_is_whole_number : Binds K fd_is_whole_number ["value"] []
  k_is_whole_number : PySem.W.keepIn K (.ref a_is_whole_number) = true
  m_is_whole_number : mg "is_whole_number" = some (.ref a_is_whole_number)
  a_is_integer_between : Addr
  fd_is_integer_between : FuncData
  F_is_integer_between : Fun K "is_integer_between" "is_integer_between" s_is_integer_between a_is_integer_between fd_is_integer_between
  b_is_integer_between : Binds K fd_is_integer_between ["value", "least", "most"] []
  k_is_integer_between : PySem.W.keepIn K (.ref a_is_integer_between) = true
  m_is_integer_between : mg "is_integer_between" = some (.ref a_is_integer_between)
  a_is_stand : Addr
  fd_is_stand : FuncData
  F_is_stand : Fun K "_is_stand" "_is_stand" s_is_stand a_is_stand fd_is_stand
  b_is_stand : Binds K fd_is_stand ["stands", "value"] []
  k_is_stand : PySem.W.keepIn K (.ref a_is_stand) = true
  m_is_stand : mg "_is_stand" = some (.ref a_is_stand)
  a_check_stands : Addr
  fd_check_stands : FuncData
  F_check_stands : Fun K "_check_stands" "_check_stands" s_check_stands a_check_stands fd_check_stands
  b_check_stands : Binds K fd_check_stands ["stands"] []
  k_check_stands : PySem.W.keepIn K (.ref a_check_stands) = true
  m_check_stands : mg "_check_stands" = some (.ref a_check_stands)
  a_is_step : Addr
  fd_is_step : FuncData
  F_is_step : Fun K "_is_step" "_is_step" s_is_step a_is_step fd_is_step
  b_is_step : Binds K fd_is_step ["stands", "value"] []
  k_is_step : PySem.W.keepIn K (.ref a_is_step) = true
  m_is_step : mg "_is_step" = some (.ref a_is_step)
  a_check_steps : Addr
  fd_check_steps : FuncData
  F_check_steps : Fun K "_check_steps" "_check_steps" s_check_steps a_check_steps fd_check_steps
  b_check_steps : Binds K fd_check_steps ["stands", "steps"] []
  k_check_steps : PySem.W.keepIn K (.ref a_check_steps) = true
  m_check_steps : mg "_check_steps" = some (.ref a_check_steps)
  a_is_ascending : Addr
  fd_is_ascending : FuncData
  F_is_ascending : Fun K "is_ascending" "is_ascending" s_is_ascending a_is_ascending fd_is_ascending
  b_is_ascending : Binds K fd_is_ascending ["value", "many"] []
  k_is_ascending : PySem.W.keepIn K (.ref a_is_ascending) = true
  m_is_ascending : mg "is_ascending" = some (.ref a_is_ascending)
  a_check_ends : Addr
  fd_check_ends : FuncData
  F_check_ends : Fun K "_check_ends" "_check_ends" s_check_ends a_check_ends fd_check_ends
  b_check_ends : Binds K fd_check_ends ["stands", "ends"] []
  k_check_ends : PySem.W.keepIn K (.ref a_check_ends) = true
  m_check_ends : mg "_check_ends" = some (.ref a_check_ends)
  a_check_machine : Addr
  fd_check_machine : FuncData
  F_check_machine : Fun K "check_machine" "check_machine" s_check_machine a_check_machine fd_check_machine
  b_check_machine : Binds K fd_check_machine ["value"] []
  k_check_machine : PySem.W.keepIn K (.ref a_check_machine) = true
  m_check_machine : mg "check_machine" = some (.ref a_check_machine)
  a_check_stand : Addr
  fd_check_stand : FuncData
  F_check_stand : Fun K "check_stand" "check_stand" s_check_stand a_check_stand fd_check_stand
  b_check_stand : Binds K fd_check_stand ["machine", "value"] []
  k_check_stand : PySem.W.keepIn K (.ref a_check_stand) = true
  m_check_stand : mg "check_stand" = some (.ref a_check_stand)
  a_reached : Addr
  fd_reached : FuncData
  F_reached : Fun K "reached" "reached" s_reached a_reached fd_reached
  b_reached : Binds K fd_reached ["machine"] []
  k_reached : PySem.W.keepIn K (.ref a_reached) = true
  m_reached : mg "reached" = some (.ref a_reached)
  a_tally_at : Addr
  fd_tally_at : FuncData
  F_tally_at : Fun K "_tally_at" "_tally_at" s_tally_at a_tally_at fd_tally_at
  b_tally_at : Binds K fd_tally_at ["machine", "stand", "sign"] []
  k_tally_at : PySem.W.keepIn K (.ref a_tally_at) = true
  m_tally_at : mg "_tally_at" = some (.ref a_tally_at)
  a_greatest_at : Addr
  fd_greatest_at : FuncData
  F_greatest_at : Fun K "greatest_at" "greatest_at" s_greatest_at a_greatest_at fd_greatest_at
  b_greatest_at : Binds K fd_greatest_at ["machine", "stand"] []
  k_greatest_at : PySem.W.keepIn K (.ref a_greatest_at) = true
  m_greatest_at : mg "greatest_at" = some (.ref a_greatest_at)
  a_least_at : Addr
  fd_least_at : FuncData
  F_least_at : Fun K "least_at" "least_at" s_least_at a_least_at fd_least_at
  b_least_at : Binds K fd_least_at ["machine", "stand"] []
  k_least_at : PySem.W.keepIn K (.ref a_least_at) = true
  m_least_at : mg "least_at" = some (.ref a_least_at)
  a_bounds : Addr
  fd_bounds : FuncData
  F_bounds : Fun K "bounds" "bounds" s_bounds a_bounds fd_bounds
  b_bounds : Binds K fd_bounds ["machine"] []
  k_bounds : PySem.W.keepIn K (.ref a_bounds) = true
  m_bounds : mg "bounds" = some (.ref a_bounds)
  a_end_bounds : Addr
  fd_end_bounds : FuncData
  F_end_bounds : Fun K "end_bounds" "end_bounds" s_end_bounds a_end_bounds fd_end_bounds
  b_end_bounds : Binds K fd_end_bounds ["machine"] []
  k_end_bounds : PySem.W.keepIn K (.ref a_end_bounds) = true
  m_end_bounds : mg "end_bounds" = some (.ref a_end_bounds)
  a_law_taken : Addr
  fd_law_taken : FuncData
  F_law_taken : Fun K "_law_taken" "_law_taken" s_law_taken a_law_taken fd_law_taken
  b_law_taken : Binds K fd_law_taken ["_law_row", "_law_many"] []
  k_law_taken : PySem.W.keepIn K (.ref a_law_taken) = true
  m_law_taken : mg "_law_taken" = some (.ref a_law_taken)
  a_law_parts : Addr
  fd_law_parts : FuncData
  F_law_parts : Fun K "_law_parts" "_law_parts" s_law_parts a_law_parts fd_law_parts
  b_law_parts : Binds K fd_law_parts ["_law_row", "_law_stands", "_law_size"] []
  k_law_parts : PySem.W.keepIn K (.ref a_law_parts) = true
  m_law_parts : mg "_law_parts" = some (.ref a_law_parts)
  a_law_machine : Addr
  fd_law_machine : FuncData
  F_law_machine : Fun K "_law_machine" "_law_machine" s_law_machine a_law_machine fd_law_machine
  b_law_machine : Binds K fd_law_machine ["_law_d"] []
  k_law_machine : PySem.W.keepIn K (.ref a_law_machine) = true
  m_law_machine : mg "_law_machine" = some (.ref a_law_machine)
  a_law_next : Addr
  fd_law_next : FuncData
  F_law_next : Fun K "_law_next" "_law_next" s_law_next a_law_next fd_law_next
  b_law_next : Binds K fd_law_next ["_law_d", "_law_stand"] []
  k_law_next : PySem.W.keepIn K (.ref a_law_next) = true
  m_law_next : mg "_law_next" = some (.ref a_law_next)
  a_law_reached : Addr
  fd_law_reached : FuncData
  F_law_reached : Fun K "_law_reached" "_law_reached" s_law_reached a_law_reached fd_law_reached
  b_law_reached : Binds K fd_law_reached ["_law_d"] []
  k_law_reached : PySem.W.keepIn K (.ref a_law_reached) = true
  m_law_reached : mg "_law_reached" = some (.ref a_law_reached)
  a_law_bests : Addr
  fd_law_bests : FuncData
  F_law_bests : Fun K "_law_bests" "_law_bests" s_law_bests a_law_bests fd_law_bests
  b_law_bests : Binds K fd_law_bests ["_law_d", "_law_sign", "_law_lengths"] []
  k_law_bests : PySem.W.keepIn K (.ref a_law_bests) = true
  m_law_bests : mg "_law_bests" = some (.ref a_law_bests)
  a_law_most : Addr
  fd_law_most : FuncData
  F_law_most : Fun K "_law_most" "_law_most" s_law_most a_law_most fd_law_most
  b_law_most : Binds K fd_law_most ["_law_d", "_law_sign"] []
  k_law_most : PySem.W.keepIn K (.ref a_law_most) = true
  m_law_most : mg "_law_most" = some (.ref a_law_most)
  a_law_refused : Addr
  fd_law_refused : FuncData
  F_law_refused : Fun K "_law_refused" "_law_refused" s_law_refused a_law_refused fd_law_refused
  b_law_refused : Binds K fd_law_refused ["_law_kind", "_law_machine_here", "_law_stand"] []
  k_law_refused : PySem.W.keepIn K (.ref a_law_refused) = true
  m_law_refused : mg "_law_refused" = some (.ref a_law_refused)
  a_law_edge : Addr
  fd_law_edge : FuncData
  F_law_edge : Fun K "_law_edge" "_law_edge" s_law_edge a_law_edge fd_law_edge
  b_law_edge : Binds K fd_law_edge ["_law_told", "_law_stands", "_law_sign"] []
  k_law_edge : PySem.W.keepIn K (.ref a_law_edge) = true
  m_law_edge : mg "_law_edge" = some (.ref a_law_edge)
  a_law : Addr
  fd_law : FuncData
  F_law : Fun K "law" "law" s_law a_law fd_law
  b_law : Binds K fd_law ["_law_script"] []
  k_law : PySem.W.keepIn K (.ref a_law) = true
  m_law : mg "law" = some (.ref a_law)
  c_Machine : Addr
  cl_Machine : Cls K c_Machine
  m_Machine : mg "Machine" = some (.ref c_Machine)
  mk_Machine : Mk K c_Machine a_Machine_init
  n__stands : NoAttr K c_Machine "_stands"
  n__steps : NoAttr K c_Machine "_steps"
  n__ends : NoAttr K c_Machine "_ends"
  q_stands : Addr
  p_stands : PropOf K c_Machine "stands" q_stands a_Machine_stands
  q_steps : Addr
  p_steps : PropOf K c_Machine "steps" q_steps a_Machine_steps
  q_ends : Addr
  p_ends : PropOf K c_Machine "ends" q_ends a_Machine_ends
  i1_Machine : PySem.W.findIn K (.ref c_Machine) "__class__" = some (some (.builtin "object.__class__"))
  i2_Machine : PySem.W.specialIn K (.builtin "object.__class__") "__get__" = some (some (.builtin "getset_descriptor.__get__"))
  i3_Machine : PySem.W.takesIn K (.builtin "object.__class__") = some true
  i4_Machine : PySem.W.mroIn K c_Machine (.type "object") = some true
  c_BadStand : Addr
  m_BadStand : mg "BadStand" = some (.ref c_BadStand)
  x_BadStand : PySem.W.excIn K c_BadStand [.type "ValueError", .type "Exception", .type "BaseException", .type "object"] "ValueError.__new__" = true
  k_BadStand : PySem.W.keepIn K (.ref c_BadStand) = true
  b_BadStand : PySem.W.subIn K (.ref c_BadStand) (.type "BaseException") = some true
  t_BadStand : PySem.W.typeIn K (.ref c_BadStand) = some (.type "type")
  e_BadStand : PySem.W.exmOne K (.ref c_BadStand) (.ref c_BadStand) = some true
  u_MOST_STANDS : Value
  m_MOST_STANDS : mg "MOST_STANDS" = some u_MOST_STANDS
  r_MOST_STANDS : RelV (V.int 8) u_MOST_STANDS
  u_MOST_GAIN : Value
  m_MOST_GAIN : mg "MOST_GAIN" = some u_MOST_GAIN
  r_MOST_GAIN : RelV (V.int 1000000000000000000000000000000) u_MOST_GAIN
  a_LETTERS : Addr
  m_LETTERS : mg "LETTERS" = some (.ref a_LETTERS)
  r_LETTERS : RelV (V.ref a_LETTERS) (.ref a_LETTERS)
  s_LETTERS : ∀ H, SqT K H a_LETTERS [V.str "a", V.str "b", V.str "c", V.str "d"]
  u_ENDLESS : Value
  m_ENDLESS : mg "ENDLESS" = some u_ENDLESS
  r_ENDLESS : RelV (V.str "endless") u_ENDLESS
  z_bool : mg "bool" = none
  z_enumerate : mg "enumerate" = none
  z_int : mg "int" = none
  z_isinstance : mg "isinstance" = none
  z_len : mg "len" = none
  z_list : mg "list" = none
  z_max : mg "max" = none
  z_range : mg "range" = none
  z_sorted : mg "sorted" = none
  z_str : mg "str" = none
  z_tuple : mg "tuple" = none
  bs_law : ∀ (s : Shared) (v : Value), BindsTo s fd_law ⟨[v], []⟩ [("_law_script", v)]
/-! ### heaps -/
/-- all but a stands as it was -/
def Keep (a : Addr) (H H' : Hp) : Prop := ∀ b o, b ≠ a → H b = some o → H' b = some o
theorem Keep.refl (a : Addr) (H : Hp) : Keep a H H := fun _ _ _ h => h
theorem Keep.trans {a : Addr} {H H1 H2 : Hp} (x : Keep a H H1) (y : Keep a H1 H2) : Keep a H H2 := fun b o n h => y b o n (x b o n h)
theorem Keep.at_ {a : Addr} {H : Hp} {o : HO} : Keep a H (upd H a o) := fun b u n h => by rw [upd_ne n]; exact h
theorem Keep.new {a p : Addr} {H : Hp} {o : HO} (hp : H p = none) : Keep a H (upd H p o) := fun b u _ h => by rw [upd_ne (ne_of_none h hp)]; exact h
theorem Keep.of_same {a : Addr} {H H' : Hp} (x : Same H H') : Keep a H H' := fun b o _ h => x b o h
theorem Same.new {p : Addr} {H : Hp} {o : HO} (hp : H p = none) : Same H (upd H p o) := fun b u h => by rw [upd_ne (ne_of_none h hp)]; exact h
theorem Keep.free {a p : Addr} {H H' : Hp} (x : Keep a H H') (n : p ≠ a) (h : H' p = none) : H p = none := by
  cases q : H p with
  | none => rfl
  | some o => rw [x p o n q] at h; cases h
/-- what H does not know may change -/
theorem Keep.mut {a p : Addr} {H H' : Hp} {o : HO} (x : Keep a H H') (hp : H p = none) : Keep a H (upd H' p o) := fun b u n h => by rw [upd_ne (ne_of_none h hp)]; exact x b u n h
theorem Keep.tup {K : PySem.W.Frag} {a b : Addr} {H H' : Hp} {xs : List V} (x : Keep a H H') (ha : ∃ l, H a = some (.lst l)) (h : SqT K H b xs) : SqT K H' b xs := by
  obtain ⟨l, ha⟩ := ha
  rcases h with (h | ⟨o, h⟩) | h
  · exact .inl (.inl (x _ _ (fun e => by rw [e, ha] at h; cases h) h))
  · exact .inl (.inr ⟨o, x _ _ (fun e => by rw [e, ha] at h; cases h) h⟩)
  · exact .inr h
theorem Keep.lst {K : PySem.W.Frag} {a b : Addr} {H H' : Hp} {xs : List V} (x : Keep a H H') (n : b ≠ a) (h : SqL K H b xs) : SqL K H' b xs := by
  rcases h with (h | ⟨o, h⟩) | h
  · exact .inl (.inl (x _ _ n h))
  · exact .inl (.inr ⟨o, x _ _ n h⟩)
  · exact .inr h
/-- the script: known to the object, or of the written part -/
def ScAt (K : PySem.W.Frag) (H : Hp) (b : Addr) (xs : List V) : Prop := (∃ o, H b = some (.frz o (.lst xs))) ∨ ∀ H', SqL K H' b xs
theorem ScAt.sq {K : PySem.W.Frag} {H : Hp} {b : Addr} {xs : List V} (h : ScAt K H b xs) : SqL K H b xs := by
  rcases h with ⟨o, h⟩ | h
  · exact .inl (.inr ⟨o, h⟩)
  · exact h H
theorem ScAt.keep {K : PySem.W.Frag} {a b : Addr} {H H' : Hp} {xs l : List V} (h : ScAt K H b xs) (k : Keep a H H') (ha : H a = some (.lst l)) : ScAt K H' b xs := by
  rcases h with ⟨o, h⟩ | h
  · exact .inl ⟨o, k _ _ (fun z => by rw [z, ha] at h; cases h) h⟩
  · exact .inr h
theorem ScAt.same {K : PySem.W.Frag} {b : Addr} {H H' : Hp} {xs : List V} (h : ScAt K H b xs) (k : Same H H') : ScAt K H' b xs := by
  rcases h with ⟨o, h⟩ | h
  · exact .inl ⟨o, k _ _ h⟩
  · exact .inr h
/-- the draws' row at a: the script, how many were read, the mixed number, the rest -/
def RowOk (K : PySem.W.Frag) (H : Hp) (a : Addr) : Prop := ∃ (sc : Addr) (ns : List Int) (i z r : Int), H a = some (.lst [.ref sc, .int i, .int z, .int r]) ∧ ScAt K H sc (ns.map V.int) ∧ ns.length ≤ 63 ∧ 0 ≤ i ∧ 0 ≤ z ∧ z < 2147483647
theorem RowOk.lst {K : PySem.W.Frag} {H : Hp} {a : Addr} (h : RowOk K H a) : ∃ l, H a = some (.lst l) := by
  obtain ⟨_, _, _, _, _, e, _⟩ := h; exact ⟨_, e⟩
/-- behind a step that leaves the row and the script as they were -/
theorem RowOk.same {K : PySem.W.Frag} {H H' : Hp} {a : Addr} (h : RowOk K H a) (s : Same H H') : RowOk K H' a := by
  obtain ⟨sc, ns, i, z, r, e, q, rest⟩ := h
  exact ⟨sc, ns, i, z, r, s _ _ e, q.same s, rest⟩
theorem RowOk.keep {K : PySem.W.Frag} {H H' : Hp} {a l : Addr} {xs : List V} (h : RowOk K H a) (n : a ≠ l) (e : H l = some (.lst xs)) (k : Keep l H H') : RowOk K H' a := by
  obtain ⟨sc, is, i, z, r, ea, q, rest⟩ := h
  exact ⟨sc, is, i, z, r, k _ _ n ea, q.keep k e, rest⟩
theorem RowOk.ne {K : PySem.W.Frag} {H : Hp} {a p : Addr} (h : RowOk K H a) (e : H p = none) : a ≠ p := by
  obtain ⟨l, q⟩ := h.lst
  exact ne_of_none q e
/-! ### steps: one a combinator -/
section
variable {K : PySem.W.Frag} {σ : L2.St} {H : Hp} {D : Ends} {Q : VK}
theorem k_seq {t u : TS} (h : t { D with nx := u D } σ H) : tSeq t u D σ H := h
theorem k_ifS {c : TT} {t u : TS} (h : c σ H fun b H1 => if b = true then t D σ H1 else u D σ H1) : tIfS c t u D σ H := h
theorem k_asg {te : TE} {g : TG} (h : te σ H fun x H1 => g x σ H1 D.nx) : tAsg te g D σ H := h
theorem k_ret {te : TE} (h : te σ H D.rt) : tRet te D σ H := h
theorem k_retN (h : D.rt .non H) : tRetN D σ H := h
theorem k_next (h : D.nx σ H) : tNext D σ H := h
theorem k_cont (h : D.ct σ H) : tCont D σ H := h
theorem k_break (h : D.bk σ H) : tBreak D σ H := h
theorem k_drop {te : TE} (h : te σ H fun _ H1 => D.nx σ H1) : tDrop te D σ H := h
theorem k_par {i j : Nat} {ta : TA} (h : ta σ H fun vs H1 => ∃ v w, vs = [v, w] ∧ D.nx ((σ.set i (some v)).set j (some w)) H1) : tPar i j ta D σ H := h
theorem k_two {p : V → V → Prop} {a b : V} (h : p a b) : ∃ v w, [a, b] = [v, w] ∧ p v w := ⟨a, b, rfl, h⟩
theorem k_var {i : Nat} {v : V} (e : σ[i]? = some (some v)) (h : Q v H) : tVar i σ H Q := ⟨v, e, h⟩
theorem k_c {v : V} (h : Q v H) : tC v σ H Q := h
theorem k_op {r : R2} {ta tb : TE} (h : ta σ H fun x H1 => tb σ H1 fun y H2 => r x y H2 Q) : tOp r ta tb σ H Q := h
theorem k_un {r : V → Hp → VK → Prop} {ta : TE} (h : ta σ H fun x H1 => r x H1 Q) : tUn r ta σ H Q := h
theorem k_cb {r : List V → Hp → VK → Prop} {t : TA} (h : t σ H fun vs H1 => r vs H1 Q) : tCB r t σ H Q := h
theorem k_cons {ta : TE} {tr : TA} {R : List V → Hp → Prop} (h : ta σ H fun x H1 => tr σ H1 fun xs H2 => R (x :: xs) H2) : tCons ta tr σ H R := h
theorem k_nil {R : List V → Hp → Prop} (h : R [] H) : tNil σ H R := h
theorem k_call {sp : Sp} {dvs : List V} {E : XK} {t : TA} (h : t σ H fun vs H1 => sp (vs ++ dvs) H1 Q E) : tCall sp dvs E t σ H Q := h
theorem k_make {C : Addr} {sp : Sp} {dvs : List V} {E : XK} {t : TA} (h : t σ H fun vs H1 => ∀ x dx, H1 x = none → H1 dx = none → dx ≠ x →
  sp (.ref x :: (vs ++ dvs)) (upd (upd H1 dx (.own x)) x (.ins C dx [])) (fun v H2 => v = .non ∧ Q (.ref x) H2) E) : tMake C sp dvs E t σ H Q := h
theorem k_test {t : TE} {R : Bool → Hp → Prop} (h : t σ H fun x H' => ∃ k, x = .bl k ∧ R k H') : tTest t σ H R := h
theorem k_tB {t : TE} {R : Bool → Hp → Prop} (h : t σ H fun x H' => ∃ k, x = .bl k ∧ R k H') : tB t σ H R := h
theorem k_bl {b : Bool} {R : Bool → Prop} (h : R b) : ∃ k, V.bl b = .bl k ∧ R k := ⟨b, rfl, h⟩
theorem k_and {t u : TT} {R : Bool → Hp → Prop} (h : t σ H fun c H1 => if c = true then u σ H1 R else R false H1) : tAnd t u σ H R := h
theorem k_or {t u : TT} {R : Bool → Hp → Prop} (h : t σ H fun c H1 => if c = true then R true H1 else u σ H1 R) : tOr t u σ H R := h
theorem k_not {t : TT} {R : Bool → Hp → Prop} (h : t σ H fun c H1 => R (!c) H1) : tNot t σ H R := h
theorem k_andV {ta tb : TE} (h : ta σ H fun x H1 => ∃ c, x = .bl c ∧ if c = true then tb σ H1 Q else Q (.bl false) H1) : tAndV ta tb σ H Q := h
theorem k_orV {ta tb : TE} (h : ta σ H fun x H1 => ∃ c, x = .bl c ∧ if c = true then Q (.bl true) H1 else tb σ H1 Q) : tOrV ta tb σ H Q := h
theorem k_notV {ta : TE} (h : ta σ H fun x H1 => ∃ c, x = .bl c ∧ Q (.bl (!c)) H1) : tNotV ta σ H Q := h
theorem k_ifE {t : TT} {ta tb : TE} (h : t σ H fun c H1 => if c = true then ta σ H1 Q else tb σ H1 Q) : tIf t ta tb σ H Q := h
theorem k_isN {ta : TE} (h : ta σ H fun x H1 => Q (.bl (decide (x = .non))) H1) : tIsN ta σ H Q := h
theorem k_notN {ta : TE} (h : ta σ H fun x H1 => Q (.bl (!decide (x = .non))) H1) : tNotN ta σ H Q := h
theorem k_name {i : Nat} {v : V} {R : L2.St → Hp → Prop} (h : R (σ.set i (some v)) H) : gName i v σ H R := h
theorem k_sub {to ti : TE} {t : TSet} {v : V} {R : L2.St → Hp → Prop} (h : to σ H fun o H1 => ti σ H1 fun i H2 => t o i v H2 fun H3 => R σ H3) : gSub to ti t v σ H R := h
theorem k_gt {n : Nat} {t : TGs} {R : L2.St → Hp → Prop} {a : Addr} {xs : List V} (h : SqT K H a xs) (e : xs.length = n) (q : t xs σ H R) : gTup K n t (.ref a) σ H R := ⟨a, xs, rfl, h, e, q⟩
theorem k_gn {R : L2.St → Hp → Prop} (h : R σ H) : gNil [] σ H R := ⟨rfl, h⟩
theorem k_gc {t : TG} {u : TGs} {v : V} {vs : List V} {R : L2.St → Hp → Prop} (h : t v σ H fun σ' H' => u vs σ' H' R) : gCons t u (v :: vs) σ H R := ⟨v, vs, rfl, h⟩
theorem k_I0 {g : Int → Int → V} {i j : Int} (h : Q (g i j) H) : rI0 g (.int i) (.int j) H Q := ⟨i, j, rfl, rfl, h⟩
theorem k_I {C : Int → Int → Prop} {g : Int → Int → V} {i j : Int} (c : C i j) (h : Q (g i j) H) : rI C g (.int i) (.int j) H Q := ⟨i, j, rfl, rfl, c, h⟩
theorem k_U {g : Int → V} {i : Int} (h : Q (g i) H) : rU g (.int i) H Q := ⟨i, rfl, h⟩
theorem k_eq {x y : V} (e : scal x y = true) (h : Q (.bl (decide (x = y))) H) : rEq x y H Q := ⟨e, h⟩
theorem k_ne {x y : V} (e : scal x y = true) (h : Q (.bl (!decide (x = y))) H) : rNe x y H Q := ⟨e, h⟩
theorem k_ixL {p : Addr} {xs : List V} {i : Int} {v : V} (h : SqL K H p xs) (e : atI xs i = some v) (q : Q v H) : rIxL K (.ref p) (.int i) H Q := ⟨p, xs, i, v, rfl, rfl, h, e, q⟩
theorem k_ixT {p : Addr} {xs : List V} {i : Int} {v : V} (h : SqT K H p xs) (e : atI xs i = some v) (q : Q v H) : rIxT K (.ref p) (.int i) H Q := ⟨p, xs, i, v, rfl, rfl, h, e, q⟩
theorem k_setL {p : Addr} {xs : List V} {k : Int} {j : Nat} {v : V} {R : Hp → Prop} (h : H p = some (.lst xs)) (e : ixN xs.length k = some j) (q : R (upd H p (.lst (xs.set j v)))) : rSetL (.ref p) (.int k) v H R := ⟨p, xs, k, j, rfl, rfl, h, e, q⟩
theorem k_tup {t : TA} (h : t σ H fun xs H1 => xs.length ≤ sizeLine ∧ ∀ p, H1 p = none → Q (.ref p) (upd H1 p (.tup xs))) : tTup t σ H Q := h
theorem k_lst {t : TA} (h : t σ H fun xs H1 => xs.length ≤ sizeLine ∧ ∀ p, H1 p = none → Q (.ref p) (upd H1 p (.lst xs))) : tLst t σ H Q := h
theorem k_bm {T : String} {r : V → List V → Hp → VK → Prop} {to : TE} {t : TA} (h : to σ H fun x H1 => tyV K T x H1 ∧ t σ H1 fun xs H2 => r x xs H2 Q) : tBM K T r to t σ H Q := h
theorem k_append {l : Addr} {xs : List V} {y : V} (h : H l = some (.lst xs)) (e : xs.length < sizeLine) (q : Q .non (upd H l (.lst (xs ++ [y])))) : rAppend (.ref l) [y] H Q := ⟨l, xs, y, rfl, rfl, h, e, q⟩
theorem k_dget {td ty : TE} (h : td σ H fun x H1 => ty σ H1 fun y H2 => ∃ a v, x = .ref a ∧ DGet H2 a y (some v) ∧ Q v H2) : tDGet td ty σ H Q := h
theorem k_dg {a : Addr} {y v : V} (h : DGet H a y (some v)) (q : Q v H) : ∃ b u, V.ref a = .ref b ∧ DGet H b y (some u) ∧ Q u H := ⟨a, v, rfl, h, q⟩
theorem k_fld {ta : TE} {f : Str} (h : ta σ H fun x H1 => ∃ a C dx fs v, x = .ref a ∧ H1 a = some (.ins C dx fs) ∧ Cls K C ∧ NoAttr K C f ∧ fs.lookup f = some v ∧ Q v H1) : tFld K ta f σ H Q := h
theorem k_sl {r : V → Option Int → Option Int → Hp → VK → Prop} {te : TE} {tl th : TO} (h : te σ H fun x H1 => tl σ H1 fun l H2 => th σ H2 fun u H3 => r x l u H3 Q) : L2.tSl r te tl th σ H Q := h
theorem k_noPart {R : Option Int → Hp → Prop} (h : R none H) : tNoPart σ H R := h
theorem k_part {t : TE} {R : Option Int → Hp → Prop} (h : t σ H fun x H1 => ∃ i, x = .int i ∧ R (some i) H1) : tPart t σ H R := h
theorem k_int {i : Int} {R : Int → Prop} (h : R i) : ∃ k, V.int i = .int k ∧ R k := ⟨i, rfl, h⟩
theorem k_int1 {i : Int} {R : Int → Prop} {R' : Bool → Prop} (h : R i) : (∃ j, [V.int i] = [V.int j] ∧ R j) ∨ (∃ k, [V.int i] = [V.bl k] ∧ R' k) := .inl ⟨i, rfl, h⟩
theorem k_len {a : Addr} {ys : List V} {R : List V → Prop} (h : SqL K H a ys ∨ SqT K H a ys) (q : R ys) : ∃ p xs, [V.ref a] = [V.ref p] ∧ (SqL K H p xs ∨ SqT K H p xs) ∧ R xs := ⟨a, ys, rfl, h, q⟩
theorem k_disp {trs : List (TE × TE)} (h : ∀ p, H p = none → tPairs trs σ (upd H p (.dK [])) fun ps H2 => H2 p = some (.dK []) ∧ ∃ kvs : List (Key × V), ps = kvs.map (fun kv => (kV kv.1, kv.2)) ∧ kvs.length ≤ 15 ∧ Q (.ref p) (upd H2 p (.dK (mergeK [] kvs)))) : tDisp trs σ H Q := h
theorem k_cut {t u : TS} (M : L2.St → Hp → Prop) (h : t { D with nx := M } σ H) (k : ∀ σ' H', M σ' H' → u D σ' H') : C8.tCut t u D σ H := ⟨M, h, k⟩
theorem k_rng1 {ta : TA} {R : It → Hp → Prop} (h : ta σ H fun vs H1 => ∃ j : Int, vs = [.int j] ∧ -(2 ^ 62) ≤ j ∧ j < 2 ^ 62 ∧ R (Itr 0 j.toNat) H1) : iRng1 ta σ H R := h
theorem k_rg {j : Int} {R : Int → Prop} (h1 : 0 ≤ j) (h2 : j < 2 ^ 62) (q : R j) : ∃ i : Int, [V.int j] = [V.int i] ∧ -(2 ^ 62) ≤ i ∧ i < 2 ^ 62 ∧ R i := ⟨j, rfl, by omega, h2, q⟩
theorem k_for {wi : TI} {g : TG} {tb : TS} (h : wi σ H fun J H1 => ∃ W : Nat → Nat → L2.St → Hp → Prop, (∃ m, W 0 m σ H1) ∧ ∀ i m σ H, W i m σ H →
  (J.stop i H ∧ D.nx σ H) ∨ (J.go i H ∧ ∃ N : L2.St → Hp → Prop, (∀ σ' H', N σ' H' → ∃ m', m' < m ∧ W (i + 1) m' σ' H') ∧ ∀ x H', J.yld i H x H' → g x σ H' fun σ2 H2 => tb { D with nx := N, ct := N, bk := D.nx } σ2 H2)) : tFor wi g tb D σ H := h
theorem k_lc {wi : TI} {g : TG} {tt : TT} {te : TE} {vs : List Nat} (h : wi σ H fun J H1 => ∀ D, H1 D = none → ∃ W : Nat → Nat → Hp → Prop, (∃ m, W 0 m (upd H1 D (.lst []))) ∧ ∀ i m H, W i m H →
  (J.stop i H ∧ Q (.ref D) H) ∨ (J.go i H ∧ ∃ Nx : Hp → Prop, (∀ H', Nx H' → ∃ m', m' < m ∧ W (i + 1) m' H') ∧ ∀ x H', J.yld i H x H' → g x (wipe σ vs) H' fun σ2 H2 => wipe σ2 vs = wipe σ vs ∧ tt σ2 H2 fun b H3 =>
    if b = true then te σ2 H3 fun y H4 => ∃ acc, H4 D = some (.lst acc) ∧ acc.length < sizeLine ∧ Nx (upd H4 D (.lst (acc ++ [y]))) else Nx H3)) : tLc wi g tt te vs σ H Q := h
theorem k_yesT {R : Bool → Hp → Prop} (h : R true H) : tYes σ H R := h
theorem k_str {te : TE} {R : It → Hp → Prop} (h : te σ H fun v H1 => ∃ x, v = .str x ∧ R (Its x) H1) : iStr te σ H R := h
theorem k_slS {z : Str} {lo hi : Option Int} (e : z.length ≤ sizeLine) (q : Q (.str (cutS z lo hi)) H) : rSlS (.str z) lo hi H Q := ⟨z, rfl, e, q⟩
theorem k_prs {tk tv : TE} {r : List (TE × TE)} {R : List (V × V) → Hp → Prop} (h : tk σ H fun x H1 => tv σ H1 fun y H2 => tPairs r σ H2 fun ps H3 => R ((x, y) :: ps) H3) : tPairs ((tk, tv) :: r) σ H R := h
theorem k_prn {R : List (V × V) → Hp → Prop} (h : R [] H) : tPairs [] σ H R := h
theorem k_aug {i : Nat} {te : TE} {ti : TIp} {x : V} (e : σ[i]? = some (some x)) (h : te σ H fun y H1 => ti x y H1 fun z H2 => D.nx (σ.set i (some z)) H2) : tAug i te ti D σ H := ⟨x, e, h⟩
theorem k_ipI {f : Int → Int → Int} {i j : Int} (h : Q (.int (f i j)) H) : ipI f (.int i) (.int j) H Q := ⟨i, j, rfl, rfl, h⟩
theorem k_din {ty td : TE} (h : ty σ H fun y H1 => td σ H1 fun x H2 => ∃ a o, x = .ref a ∧ DGet H2 a y o ∧ Q (.bl o.isSome) H2) : tDIn ty td σ H Q := h
theorem k_dnotin {ty td : TE} (h : ty σ H fun y H1 => td σ H1 fun x H2 => ∃ a o, x = .ref a ∧ DGet H2 a y o ∧ Q (.bl (!o.isSome)) H2) : tDNotIn ty td σ H Q := h
theorem k_dput {td ty tv : TE} (h : tv σ H fun v H1 => td σ H1 fun x H2 => ty σ H2 fun y H3 => ∃ a H4, x = .ref a ∧ DPut H3 a y v H4 ∧ D.nx σ H4) : sDPut td ty tv D σ H := h
theorem k_prop {C : Addr} {sp : Sp} {dvs : List V} {E : XK} {ta : TE} (h : ta σ H fun x H1 => ∃ a dx fs, x = .ref a ∧ H1 a = some (.ins C dx fs) ∧ sp (.ref a :: dvs) H1 Q E) : tProp C sp dvs E ta σ H Q := h
theorem k_itup {tl : TE} {R : It → Hp → Prop} (h : tl σ H fun x H1 => ∃ a, x = .ref a ∧ (∃ xs, SqT K H1 a xs) ∧ R (Itt K a) H1) : iTup K tl σ H R := h
theorem k_ilst {tl : TE} {R : It → Hp → Prop} (h : tl σ H fun x H1 => ∃ a, x = .ref a ∧ (∃ xs, SqL K H1 a xs) ∧ R (Itl K a) H1) : iList K tl σ H R := h
theorem k_bm0 {T : String} {r : V → List V → Hp → VK → Prop} {to : TE} (h : to σ H fun x H1 => tyV K T x H1 ∧ r x [] H1 Q) : tBM0 K T r to σ H Q := h
theorem k_dc {wi : TI} {g : TG} {tt : TT} {tk tv : TE} {vs : List Nat} (h : wi σ H fun J H1 => ∀ D, H1 D = none → ∃ W : Nat → Nat → Hp → Prop, (∃ m, W 0 m (upd H1 D (.dK []))) ∧ ∀ i m H, W i m H →
  (J.stop i H ∧ Q (.ref D) H) ∨ (J.go i H ∧ ∃ Nx : Hp → Prop, (∀ H', Nx H' → ∃ m', m' < m ∧ W (i + 1) m' H') ∧ ∀ x H', J.yld i H x H' → g x (wipe σ vs) H' fun σ2 H2 => wipe σ2 vs = wipe σ vs ∧ tt σ2 H2 fun b H3 =>
    if b = true then tk σ2 H3 fun y H4 => tv σ2 H4 fun z H5 => ∃ kvs k, y = kV k ∧ H5 D = some (.dK kvs) ∧ kvs.length < sizeLine ∧ Nx (upd H5 D (.dK (putK kvs k z))) else Nx H3)) : tDc wi g tt tk tv vs σ H Q := h
theorem k_whl {c : TT} {tb : TS} (W : Nat → L2.St → Hp → Prop) (h0 : ∃ m, W m σ H) (h : ∀ m σ H, W m σ H → c σ H fun b H1 => if b = true then tb { D with nx := fun σ' H' => ∃ m', m' < m ∧ W m' σ' H', ct := fun σ' H' => ∃ m', m' < m ∧ W m' σ' H', bk := D.nx } σ H1 else D.nx σ H1)
    (mono : ∀ σ H (R R' : Bool → Hp → Prop), (∀ b H1, R b H1 → R' b H1) → c σ H R → c σ H R') : tWhile c tb D σ H := by
  refine ⟨W, h0, fun m σ H w => mono _ _ _ _ (fun b H1 q => ?_) (h m σ H w)⟩
  cases b with
  | false => exact q
  | true => exact ⟨_, fun _ _ z => z, q⟩
theorem k_ite {p A B : Prop} [Decidable p] (h1 : p → A) (h2 : ¬ p → B) : if decide p = true then A else B := by
  by_cases h : p
  · rw [decide_eq_true h]; exact iteT (h1 h)
  · rw [decide_eq_false h]; exact iteF (h2 h)
theorem k_iteN {p A B : Prop} [Decidable p] (h1 : p → B) (h2 : ¬ p → A) : if (!decide p) = true then A else B := by
  by_cases h : p
  · rw [decide_eq_true h]; exact iteF (h1 h)
  · rw [decide_eq_false h]; exact iteT (h2 h)
theorem k_yes {c : Bool} {A B : Prop} (e : c = true) (h : A) : if c = true then A else B := by rw [e]; exact iteT h
theorem k_no {c : Bool} {A B : Prop} (e : c = false) (h : B) : if c = true then A else B := by rw [e]; exact iteF h
theorem k_bool {c : Bool} {A B : Prop} (h1 : c = true → A) (h2 : c = false → B) : if c = true then A else B := by cases c; exact iteF (h2 rfl); exact iteT (h1 rfl)
end
section
variable {K : PySem.W.Frag} {σ : L2.St} {H : Hp} {D : Ends} {Q : VK}
theorem k_par3 {i j l : Nat} {ta : TA} (h : ta σ H fun vs H1 => ∃ u v w, vs = [u, v, w] ∧ D.nx (((σ.set i (some u)).set j (some v)).set l (some w)) H1) : tPar3 i j l ta D σ H := h
theorem k_three {p : V → V → V → Prop} {a b c : V} (h : p a b c) : ∃ u v w, [a, b, c] = [u, v, w] ∧ p u v w := ⟨a, b, c, rfl, h⟩
theorem k_neD {x y : V} {d e : PyData} (h1 : Dp K H x d) (h2 : Dp K H y e) (s1 : SeqAt.shaped d = true) (s2 : SeqAt.shaped e = true) (q : Q (.bl (!PyData.eqv d e)) H) : rNeD K x y H Q := ⟨d, e, h1, h2, s1, s2, q⟩
theorem k_eqD {x y : V} {d e : PyData} (h1 : Dp K H x d) (h2 : Dp K H y e) (s1 : SeqAt.shaped d = true) (s2 : SeqAt.shaped e = true) (q : Q (.bl (PyData.eqv d e)) H) : rEqD K x y H Q := ⟨d, e, h1, h2, s1, s2, q⟩
theorem k_lenS {z : Str} {R : Int → Prop} (h : z.length ≤ sizeLine) (q : R z.length) : ∃ y : Str, [V.str z] = [V.str y] ∧ y.length ≤ sizeLine ∧ R y.length := ⟨z, rfl, h, q⟩
end
local macro_rules | `(tactic| walk_at "st") => `(tactic| first
  | ((with_reducible show tVar _ _ _ _); refine k_var rfl ?_)
  | (with_reducible first
    | refine k_c ?_ | refine k_op ?_ | refine k_I0 ?_ | refine k_seq ?_ | refine k_asg ?_ | refine k_name ?_ | refine k_cons ?_ | refine k_nil ?_ | refine k_cb ?_
    | refine k_ret ?_ | refine k_ifS ?_ | refine k_test ?_ | refine k_tB ?_ | refine k_bl ?_ | refine k_call ?_ | refine k_make ?_ | refine k_par3 ?_ | refine k_three ?_ | refine k_ipI ?_ | refine k_din ?_ | refine k_dnotin ?_ | refine k_dput ?_ | refine k_prop ?_ | refine k_itup ?_ | refine k_ilst ?_ | refine k_bm0 ?_ | refine k_dc ?_ | refine k_prs ?_ | refine k_prn ?_ | refine k_lc ?_ | refine k_yesT ?_ | refine k_str ?_ | refine k_disp ?_ | refine k_for ?_ | refine k_rng1 ?_ | refine k_drop ?_ | refine k_next ?_ | refine k_sub ?_ | refine k_un ?_ | refine k_U ?_
    | refine k_par ?_ | refine k_two ?_ | refine k_and ?_ | refine k_or ?_ | refine k_not ?_ | refine k_andV ?_ | refine k_orV ?_ | refine k_notV ?_ | refine k_ifE ?_ | refine k_isN ?_ | refine k_notN ?_
    | refine k_gn ?_ | refine k_gc ?_ | refine k_tup ?_ | refine k_lst ?_ | refine k_bm ?_ | refine k_dget ?_ | refine k_fld ?_ | refine k_sl ?_ | refine k_noPart ?_ | refine k_part ?_ | refine k_int ?_
    | refine k_int1 ?_ | refine k_retN ?_ | refine k_cont ?_ | refine k_break ?_)
  | ((with_reducible show rIxL _ _ _ _ _); refine k_ixL (SqL.of (by first | assumption | exact upd_same)) rfl ?_)
  | ((with_reducible show rSetL _ _ _ _ _); refine k_setL (by first | assumption | exact upd_same) rfl ?_)
  | ((with_reducible show tAug _ _ _ _ _ _); refine k_aug rfl ?_)
  | ((with_reducible show rEq _ _ _ _); refine k_eq rfl ?_)
  | ((with_reducible show rNe _ _ _ _); refine k_ne rfl ?_))
local macro_rules | `(tactic| walk_at "go") => `(tactic| repeat (walk_at "st"))
local macro_rules | `(tactic| walk_at "begin") => `(tactic| ((try dsimp only [cxOf]); simp only [L2.start, List.map_cons, List.map_nil, List.length_cons, List.length_nil, Nat.reduceAdd, Nat.reduceSub, List.replicate_succ, List.replicate_zero, List.cons_append, List.nil_append]))
/-! ### a draw: any number below the most -/
def sp_taken (K : PySem.W.Frag) : Sp := fun vs H Q _ => ∃ (a : Addr) (m : Int), vs = [.ref a, .int m] ∧ 0 < m ∧ m.natAbs < 2 ^ 8000 ∧ RowOk K H a ∧
  ∀ (x : Int) (H' : Hp), 0 ≤ x → x < m → RowOk K H' a → Keep a H H' → Q (.int x) H'
section
variable {P : Program} {w : World} {K : PySem.W.Frag} {mg : Str → Option Value} {base : Heap}
theorem ok_law_taken (T : Txt K mg) : FnOk P w K mg base (L2.CX P w) 1 T.a_law_taken T.fd_law_taken ["_law_row", "_law_many"] (sp_taken K) := by
  refine T.F_law_taken.okX sc_law_taken (fun vs H Q E h => ?_) (fun cdv A outer s H vs Q E hr h => ?_)
  · obtain ⟨a, m, rfl, _⟩ := h
    rfl
  · obtain ⟨a, m, rfl, m0, mb, ⟨sc, ns, i, z, r, ea, hs, hn, i0, z0, z1⟩, k⟩ := h
    refine ⟨_, (PSs.nox (pss_cons (ps_if (pt_cmpR op_gt (pe_ix ix_list (pv 0) pe_int (fun _ _ => rfl)) pe_int (nomark _))
  (pss_cons (ps_set (i := 2) sc_law_taken.nd rfl (Or.inl rfl) (pe_op op_mod (pe_callTy call_int1 (by rfl) T.z_int PySem.Pv.boot_int (pa_cons (pe_ix ix_list (pv 0) pe_int (fun _ _ => rfl)) pa_nil)) (pv 1)))
  (pss_cons (ps_asg (pe_op op_fdivW (pe_ix ix_list (pv 0) pe_int (fun _ _ => rfl)) (pv 1)) (pg_sub (pv 0) pe_int set_list))
  (pss_one (ps_ret (pv 2)))))
  pss_nil)
  (pss_cons (ps_asg (pe_op op_add (pe_ix ix_list (pv 0) pe_int (fun _ _ => rfl)) pe_int) (pg_sub (pv 0) pe_int set_list))
  (pss_cons (ps_if (pt_cmpR op_gt (pe_ix ix_list (pv 0) pe_int (fun _ _ => rfl)) (pe_callB call_len_seq (by rfl) T.z_len PySem.boot_len (pa_cons (pe_ix ix_list (pv 0) pe_int (fun _ _ => rfl)) pa_nil)) (nomark _))
  (pss_cons (ps_asg (pe_op op_mod (pe_callTy call_int1 (by rfl) T.z_int PySem.Pv.boot_int (pa_cons (pe_op op_add (pe_op op_mulW (pe_ix ix_list (pv 0) pe_int (fun _ _ => rfl)) pe_int) pe_int) pa_nil)) pe_int) (pg_sub (pv 0) pe_int set_list))
  (pss_one (ps_ret (pe_op op_mod (pe_callTy call_int1 (by rfl) T.z_int PySem.Pv.boot_int (pa_cons (pe_op op_fdivW (pe_ix ix_list (pv 0) pe_int (fun _ _ => rfl)) pe_int) pa_nil)) (pv 1)))))
  pss_nil)
  (pss_cons (ps_set (i := 3) sc_law_taken.nd rfl (Or.inl rfl) (pe_ix ix_list (pe_ix ix_list (pv 0) pe_int (fun _ _ => rfl)) (pe_op op_sub (pe_ix ix_list (pv 0) pe_int (fun _ _ => rfl)) pe_int) (fun _ _ => rfl)))
  (pss_cons (ps_asg (pe_op op_mod (pe_callTy call_int1 (by rfl) T.z_int PySem.Pv.boot_int (pa_cons (pe_op op_add (pe_op op_add (pe_op op_mulW (pe_ix ix_list (pv 0) pe_int (fun _ _ => rfl)) pe_int) (pv 3)) pe_int) pa_nil)) pe_int) (pg_sub (pv 0) pe_int set_list))
  (pss_cons (ps_if (pt_cmpR op_ge (pv 3) (pe_op op_pow pe_int pe_int) (nomark _))
  (pss_one (ps_asg (pe_op op_fdivW (pv 3) (pv 1)) (pg_sub (pv 0) pe_int set_list)))
  pss_nil)
  (pss_one (ps_ret (pe_op op_mod (pe_callTy call_int1 (by rfl) T.z_int PySem.Pv.boot_int (pa_cons (pv 3) pa_nil)) (pv 1))))))))))), ?_⟩
    walk_at "begin"
    walk_at "go"
    have CD : CDivW r m := wide_div m0 mb (by decide) (by decide)
    have CZ : CMulW z 48271 := wide_mul (a := 31) (b := 16) (by omega) (by decide) (by decide) (by decide) (by decide)
    refine k_ite (fun c => ?_) (fun c => ?_)
    · walk_at "go"
      refine k_I m0 ?_
      walk_at "go"
      refine k_I CD ?_
      walk_at "go"
      exact k _ _ (Int.emod_nonneg _ (by omega)) (Int.emod_lt_of_pos _ m0) ⟨sc, ns, i, z, r / m, upd_same, hs.keep Keep.at_ ea, hn, i0, z0, z1⟩ Keep.at_
    · walk_at "go"
      have K1 : Keep a H (upd H a (HO.lst ([V.ref sc, V.int i, V.int z, V.int r].set (Int.toNat 1) (V.int (i + 1))))) := Keep.at_
      refine k_len (.inl (hs.keep K1 ea).sq) ?_
      walk_at "go"
      have zn : ∀ q : Int, 0 ≤ q % 2147483647 ∧ q % 2147483647 < 2147483647 := fun q => ⟨Int.emod_nonneg _ (by decide), Int.emod_lt_of_pos _ (by decide)⟩
      have mn : ∀ q : Int, 0 ≤ q % m ∧ q % m < m := fun q => ⟨Int.emod_nonneg _ (by omega), Int.emod_lt_of_pos _ m0⟩
      refine k_ite (fun c1 => ?_) (fun c1 => ?_)
      · walk_at "go"
        refine k_I CZ ?_
        walk_at "go"
        refine k_I (by decide) ?_
        walk_at "go"
        refine k_I (wide_div (b := 3) (by decide) (by decide) (by decide) (by decide)) ?_
        walk_at "go"
        refine k_I m0 ?_
        exact k _ _ (mn _).1 (mn _).2 ⟨sc, ns, i + 1, _, r, upd_same, (hs.keep K1 ea).keep Keep.at_ upd_same, hn, by omega, (zn _).1, (zn _).2⟩ (K1.trans Keep.at_)
      · walk_at "go"
        rw [List.length_map] at c1
        have hl : (i + 1 - 1).toNat < ns.length := by omega
        refine k_ixL (hs.keep K1 ea).sq (v := V.int (ns[(i + 1 - 1).toNat]'hl)) (at_of (j := (i + 1 - 1).toNat) (by omega) (by rw [List.getElem?_map, List.getElem?_eq_getElem hl]; rfl)) ?_
        generalize ns[(i + 1 - 1).toNat]'hl = cell
        walk_at "go"
        refine k_I CZ ?_
        walk_at "go"
        refine k_I (by decide) ?_
        walk_at "go"
        refine k_I (by exact ⟨by decide, by decide, by decide⟩) ?_
        walk_at "go"
        refine k_ite (fun c2 => ?_) (fun c2 => ?_)
        · walk_at "go"
          refine k_I (wide_div m0 mb (by decide) (by decide)) ?_
          walk_at "go"
          refine k_I m0 ?_
          exact k _ _ (mn _).1 (mn _).2 ⟨sc, ns, i + 1, _, _, upd_same, ((hs.keep K1 ea).keep Keep.at_ upd_same).keep Keep.at_ upd_same, hn, by omega, (zn _).1, (zn _).2⟩ ((K1.trans Keep.at_).trans Keep.at_)
        · walk_at "go"
          refine k_I m0 ?_
          exact k _ _ (mn _).1 (mn _).2 ⟨sc, ns, i + 1, _, _, upd_same, (hs.keep K1 ea).keep Keep.at_ upd_same, hn, by omega, (zn _).1, (zn _).2⟩ (K1.trans Keep.at_)
end
/-! ### enumerate over a tuple -/
section
open Builtin
theorem meets_enumT (t : Addr) (its : Array Value) : Meets (Builtin.«enumerate.__new__» ⟨[.type "enumerate", .ref t], []⟩) (fun _ R st => st.heap.IsTuple t its ∧
    R (.ok (.ret (.ref (st.heap.objs.size + 1)))) { st with heap := (st.heap.push { cls := .type "tuple_iterator", data := .fields #[.ref t, .int 0 0] }).push { cls := .type "enumerate", data := .fields #[.none, .bool false, .ref st.heap.objs.size, rawInt 0, .none, .none] } }) := by
  refine Meets.of_wp fun prog w A R st hh => ?_
  rcases st with ⟨h0, g0, d0, t0, o0⟩
  obtain ⟨isT, q⟩ := hh
  have sub := sub_enumerate
  have L : Heap.IsTuple (Shared.heap ⟨h0, g0, d0, t0, o0⟩) t its := isT
  obtain ⟨ob, e0, c0, n0, dt0⟩ := L
  have z : (Heap.push h0 { cls := .type "tuple_iterator", data := .fields #[.ref t, .int 0 0] }).objs.size = h0.objs.size + 1 := Heap.size_push ..
  have q' := q
  rw [← z] at q'
  wp_walk using PySem.wpAny_pyIter_tuple isT
  refine wpAny_stack_any fun fr => wpAny_pure ?_
  split
  · rename_i cc _ _ _ _ _
    cases (cc == Value.type "enumerate")
    · wp_walk using PySem.wpAny_pyIter_tuple isT
      exact ⟨_, rfl, q'⟩
    · wp_walk using PySem.wpAny_pyIter_tuple isT
      exact ⟨_, rfl, q'⟩
  · wp_walk using PySem.wpAny_pyIter_tuple isT
    exact ⟨_, rfl, q'⟩
end
section
variable {prog : Program} {w : World} {A : Around} {E : Value → Shared → Prop} {s : Shared}
theorem call_enumT {t : Addr} {its : Array Value} {Q : Value → Shared → Prop} (isT : s.heap.IsTuple t its)
    (k : ∀ h', IsEnum h' (s.heap.objs.size + 1) s.heap.objs.size 0 .none → h'.IsTupleIter s.heap.objs.size t 0 → (∀ b o, s.heap.get? b = some o → h'.get? b = some o) →
      Q (.ref (s.heap.objs.size + 1)) { s with heap := h' }) : wpAny (model prog w) A (call (.type "enumerate") [.ref t]) Q E s := by
  have m := meets_enumT t its
  refine callType_new F.called_enumerate (by decide) (F.typeCall_enumerate_1 _) (F.newCall_enumerate_1 _) (fun o => F.args_object_init_2 o _) F.entry_enumerate_new m ⟨isT, ?_⟩
  have z : (Heap.push s.heap { cls := .type "tuple_iterator", data := .fields #[.ref t, .int 0 0] }).objs.size = s.heap.objs.size + 1 := Heap.size_push ..
  have g := Heap.get?_push_size (Heap.push s.heap { cls := .type "tuple_iterator", data := .fields #[.ref t, .int 0 0] })
    (o := { cls := .type "enumerate", data := .fields #[.none, .bool false, .ref s.heap.objs.size, rawInt 0, .none, .none] }) rfl
  rw [z] at g
  exact ⟨⟨_, g, rfl⟩, k _ g ⟨_, Heap.get?_push_of_some _ (Heap.get?_push_size _ rfl), rfl, rfl⟩ fun b o x => Heap.get?_push_of_some _ (Heap.get?_push_of_some _ x)⟩
end
/-- the i-th pair is new: its place and the tuple's item -/
def Iet (K : PySem.W.Frag) (a : Addr) : It :=
  ⟨fun i H => ∃ (xs : List V) (x : V), SqT K H a xs ∧ xs[i]? = some x,
   fun i H v H' => ∃ p x, v = .ref p ∧ H p = none ∧ H' = upd H p (.tup [.int (i : Nat), x]) ∧ ∀ xs, SqT K H a xs → xs[i]? = some x,
   fun i H => ∃ xs : List V, SqT K H a xs ∧ xs.length ≤ i⟩
theorem turn_enumT {P : Program} {w : World} {K : PySem.W.Frag} {es : List Expr} {c : Nat} {tp : Pos} (a e it : Addr) :
    Turn P w K (.Tuple es c tp) (Iet K a) [e, it] e (fun i h => (∃ old, IsEnum h e it ((i : Nat) : Int) old) ∧ h.IsTupleIter it a i ∧ e ≠ it) := by
  have two : ∀ b, b ∈ [e, it] → b = e ∨ b = it := fun b hb => by simpa using hb
  constructor
  case mem => simp
  case obj =>
    rintro i h ⟨⟨old, he⟩, ⟨o, ho, hc, hd⟩, _⟩ b hb
    rcases two b hb with rfl | rfl
    · exact ⟨_, he, fun v q => nomatch q⟩
    · exact ⟨o, ho, fun v q => by rw [hd] at q; cases q⟩
  case keep =>
    rintro i h h' ⟨⟨old, he⟩, hi, ne⟩ k
    exact ⟨⟨old, k e (by simp) _ he⟩, hi.at fun o q => k it (by simp) o q, ne⟩
  case item =>
    rintro X rfl rfl rfl hC i pins s σ H E I hf ⟨⟨old, he⟩, hit, ne⟩ ⟨xs, x, hq, hx⟩
    obtain ⟨its, rv, p, hz⟩ := I.tuple hq
    obtain ⟨u, hu, ru⟩ := rv.get hx
    have le : e < s.heap.objs.size := Heap.lt_size he
    have li : it < s.heap.objs.size := by obtain ⟨_, q, _⟩ := hit; exact Heap.lt_size q
    have pt : s.heap.IsTuple a its.toArray := p
    have na : a ≠ it := fun z => by
      obtain ⟨o1, q1, c1, _⟩ := hit
      obtain ⟨o2, q2, c2, _⟩ := pt
      rw [z, q1] at q2
      cases q2
      rw [c1] at c2
      exact absurd c2 (by simp)
    have nb : e ≠ a := fun z => by
      obtain ⟨o2, q2, c2, _⟩ := pt
      have q3 : s.heap.get? e = _ := he
      rw [z, q2] at q3
      cases q3
      exact absurd c2 (by simp)
    have Dr := Draws.tuple (prog := X.prog) (w := X.w) (A := X.A.in1) (I.ok.hd hC) it a na its.toArray
    refine wpAny_pyNext_enum_itemD (i := i) Dr he ⟨hit, pt⟩ (by simpa using (List.getElem?_eq_some_iff.mp hu).1) ne (by simp [ne, nb]) fun x' h' tk px ho st hT hsz hk => ?_
    have ex : x' = u := by
      have q : its.toArray[i]? = some x' := px
      rw [List.getElem?_toArray, hu] at q
      exact (Option.some.inj q).symm
    subst ex
    refine ⟨_, rfl, wpAny_letOwnedTupleGo_enum (s := { s with heap := h', toks := tk + 1 }) ho fun h2 he2 sb => ?_⟩
    have hT2 : h2.get? s.heap.objs.size = some { cls := .type "tuple", data := .seq #[.int i tk, x'] } := (sb.2 _ (Nat.ne_of_gt le)).trans hT
    have new : ObjOk X.prog X.w (upd H s.heap.objs.size (.tup [.int (i : Nat), x])) h2 s.heap.objs.size (.tup [.int (i : Nat), x]) :=
      ⟨(by decide : 2 ≤ sizeLine), [.int i tk, x'], .cons ⟨_, rfl⟩ (.cons ru .nil), ⟨_, hT2, rfl, _, rfl⟩⟩
    have I1 : Inv X pins σ (upd H s.heap.objs.size (.tup [.int (i : Nat), x])) { s with heap := h2, toks := tk + 1 } :=
      I.turnedNew (ch := [e, it]) (fun b ob hb q => (sb.2 b (fun z => hb (by simp [z]))).trans (hk b ob (fun z => hb (by simp [z])) (fun z => hb (by simp [z])) q)) hf (Nat.le_refl _) new
    refine ⟨.ref s.heap.objs.size, _, I1, rfl, ⟨_, x, rfl, I.hok.fresh (Nat.le_refl _), rfl, fun ys hy => ?_⟩, ⟨⟨x', ?_⟩, ?_, ne⟩, fun b hb => ?_⟩
    · rw [I.tuple_inj hy hq]; exact hx
    · have e1 : ((i + 1 : Nat) : Int) = (i : Int) + 1 := by omega
      rw [e1]; exact he2
    · exact st.1.at fun o q => (sb.2 it (Ne.symm ne)).trans q
    · have lb : b < s.heap.objs.size := by rcases two b hb with rfl | rfl <;> assumption
      rw [upd_ne (Nat.ne_of_lt lb)]
      exact (hf b hb).1
  case done =>
    rintro X rfl rfl rfl hC i pins s σ H E I hf ⟨⟨old, he⟩, hit, ne⟩ ⟨xs, hq, hx⟩
    obtain ⟨its, rv, p, hz⟩ := I.tuple hq
    have pt : s.heap.IsTuple a its.toArray := p
    have na : a ≠ it := fun z => by
      obtain ⟨o1, q1, c1, _⟩ := hit
      obtain ⟨o2, q2, c2, _⟩ := pt
      rw [z, q1] at q2
      cases q2
      rw [c1] at c2
      exact absurd c2 (by simp)
    have out : its.toArray[i]? = none := by
      have hl := rv.length
      rw [List.getElem?_toArray]
      exact List.getElem?_eq_none (by omega)
    have Dr : Draws X.prog X.w X.A.in1 it [it, a] i (fun _ _ => True) (fun j h => j = i ∧ h.IsTupleIter it a j ∧ h.IsTuple a its.toArray) :=
      { live := fun j h st => by obtain ⟨_, ⟨o, ho, _⟩, _⟩ := st; exact ⟨o, ho⟩
        frame := fun j h h' st hk => ⟨st.1, st.2.1.at fun o e => hk it (by simp) o e, st.2.2.at fun o e => hk a (by simp) o e⟩
        item := fun j s Q E hj st hQ => absurd st.1 (Nat.ne_of_lt hj)
        done := fun s Q E st hE => wpAny_nextOf_tuple_end (A := X.A.in1) (I.ok.hd hC) st.2.1 st.2.2 out hE }
    obtain ⟨f0, f1, f2, f3, f4, f5⟩ := hf it (by simp)
    exact wpAny_pyNext_enum_endD Dr he ⟨rfl, hit, pt⟩ fun h' eb => ⟨rfl, I.turned (t' := s.toks) (fun b o hb q => eb b o hb q) f0 f1 f3 f4 f5⟩
  case self =>
    rintro A i s Q E ⟨⟨_, he⟩, _⟩ h
    exact wpAny_pyIter_enum he h
def iEnumT (K : PySem.W.Frag) (ta : TA) : TI := fun σ H R => ta σ H fun vs H1 => ∃ a xs, vs = [.ref a] ∧ SqT K H1 a xs ∧ R (Iet K a) H1
theorem pi_enumT {X : Cx} {e : Expr} {ta : TA} {p pos tpos : Pos} {es : List Expr} {c : Nat} (hg : Gl X "enumerate") (hm : X.mg "enumerate" = none) (ha : PA X [e] ta)
    (hs : starEach [e] X.env = [(false, eval e X.env)] := by rfl) : PI X (.Tuple es c tpos) (.Call (.Name "enumerate" p) [e] [] pos) (iEnumT X.K ta) := by
  constructor
  intro pins s σ H R I h
  refine PyProof.Rows.Call_ (ld_blt I hg hm (show bootBuiltins "enumerate" = some (.type "enumerate") by decide +kernel) (PyProof.Rows.callWith_type1 (thn (ha.run pos pins s σ H _ I h) ?_) hs rfl))
  rintro us s1 ⟨vs, H1, I1, r1, a, xs, rfl, hq, q⟩
  obtain ⟨u, rfl, ru⟩ := vals1 r1
  cases ru
  obtain ⟨its, rv, p', hz⟩ := I1.tuple hq
  have pt : s1.heap.IsTuple a its.toArray := p'
  refine call_enumT pt fun h' he hit hk => wpAny_pyIter_enum he ?_
  have I2 : Inv X pins σ H1 { s1 with heap := h' } := I1.kept (t' := s1.toks) hk
  refine ⟨s1.heap.objs.size + 1, [s1.heap.objs.size + 1, s1.heap.objs.size], _, _, H1, rfl, I2, turn_enumT a (s1.heap.objs.size + 1) s1.heap.objs.size, ⟨⟨.none, he⟩, hit, Nat.succ_ne_self _⟩, fun b hb => ?_, q⟩
  have lb : s1.heap.objs.size ≤ b := by
    have two : b = s1.heap.objs.size + 1 ∨ b = s1.heap.objs.size := by simpa using hb
    rcases two with rfl | rfl
    · exact Nat.le_succ _
    · exact Nat.le_refl _
  exact I1.fpOk lb (I1.hok.fresh lb)
/-- over a tuple that stands still, the place and the item in a new pair -/
theorem for_enumT {K : PySem.W.Frag} {a : Addr} {xs : List V} {g : TG} {tb : TS} {D : Ends} {σ : L2.St} {H : Hp} (Pv : Nat → L2.St → Hp → Prop) (h0 : Pv 0 σ H) (hl : ∀ i σ H, i ≤ xs.length → Pv i σ H → SqT K H a xs)
    (hs : ∀ i x p σ H, xs[i]? = some x → Pv i σ H → H p = none → g (.ref p) σ (upd H p (.tup [.int (i : Nat), x])) fun σ2 H2 => tb { D with nx := Pv (i + 1), ct := Pv (i + 1), bk := D.nx } σ2 H2) (hd : ∀ σ H, Pv xs.length σ H → D.nx σ H) :
    ∃ W : Nat → Nat → L2.St → Hp → Prop, (∃ m, W 0 m σ H) ∧ ∀ i m σ H, W i m σ H → ((Iet K a).stop i H ∧ D.nx σ H) ∨
      ((Iet K a).go i H ∧ ∃ N : L2.St → Hp → Prop, (∀ σ' H', N σ' H' → ∃ m', m' < m ∧ W (i + 1) m' σ' H') ∧ ∀ x H', (Iet K a).yld i H x H' → g x σ H' fun σ2 H2 => tb { D with nx := N, ct := N, bk := D.nx } σ2 H2) := by
  refine ⟨fun i m σ H => m + i = xs.length ∧ Pv i σ H, ⟨xs.length, by simp, h0⟩, fun i m σ H ⟨em, hP⟩ => ?_⟩
  have sq := hl i σ H (by omega) hP
  by_cases c : i < xs.length
  · refine .inr ⟨⟨xs, xs[i], sq, List.getElem?_eq_getElem c⟩, Pv (i + 1), fun σ' H' z => ⟨m - 1, by omega, by omega, z⟩, ?_⟩
    rintro v H' ⟨p, x, rfl, hp, rfl, hx⟩
    exact hs i x p σ H (hx xs sq) hP hp
  · have e : i = xs.length := by omega
    exact .inl ⟨⟨xs, sq, by omega⟩, hd σ H (e ▸ hP)⟩
/-! ### machines as data -/
structure Stp where
  b : Nat
  c : Nat
  e : Nat
  g : Int
structure MD where
  n : Nat
  ss : List Stp
  es : List Nat
def stpV (s : Stp) : List V := [.int (s.b : Nat), .str ⟨#[s.c]⟩, .int (s.e : Nat), .int s.g]
structure Stp.Ok (n : Nat) (s : Stp) : Prop where
  b : s.b < n
  c : 97 ≤ s.c
  c' : s.c ≤ 100
  e : s.e < n
  g : -(10 ^ 30) ≤ s.g
  g' : s.g ≤ 10 ^ 30
def Stp.lt (s t : Stp) : Prop := s.b < t.b ∨ (s.b = t.b ∧ s.c < t.c)
structure MD.Ok (m : MD) : Prop where
  n1 : 1 ≤ m.n
  n8 : m.n ≤ 8
  ok : ∀ s ∈ m.ss, s.Ok m.n
  up : m.ss.Pairwise Stp.lt
  len : m.ss.length ≤ 32
  eb : ∀ e ∈ m.es, e < m.n
  eu : m.es.Pairwise (· < ·)
  el : m.es.length ≤ 8
/-- steps alone, whatever the number of stands -/
structure StOk (N : Nat) (s : Stp) : Prop where
  b : s.b < N
  c : 97 ≤ s.c
  c' : s.c ≤ 100
  e : s.e < N
  g : -(10 ^ 32) ≤ s.g
  g' : s.g ≤ 10 ^ 32
structure SsOk (N : Nat) (ss : List Stp) : Prop where
  n1 : 1 ≤ N
  n64 : N ≤ 63
  ok : ∀ s ∈ ss, StOk N s
  len : ss.length ≤ 300
theorem MD.Ok.sok {m : MD} (o : m.Ok) : SsOk m.n m.ss := ⟨o.n1, by have := o.n8; omega, fun s h => let k := o.ok s h; ⟨k.b, k.c, k.c', k.e, by have := k.g; omega, by have := k.g'; omega⟩, by have := o.len; omega⟩
/-- the steps' tuples -/
def StpsAt (K : PySem.W.Frag) (H : Hp) (vs : List V) (ss : List Stp) : Prop := vs.length = ss.length ∧ ∀ (i : Nat) (s : Stp), ss[i]? = some s → ∃ p, vs[i]? = some (V.ref p) ∧ SqT K H p (stpV s)
def nats (es : List Nat) : List V := es.map fun e => V.int (e : Nat)
def StAt (K : PySem.W.Frag) (H : Hp) (t : Addr) (ss : List Stp) : Prop := ∃ us, SqT K H t us ∧ StpsAt K H us ss
/-- steps and ends as they stand -/
def PartsAt (K : PySem.W.Frag) (H : Hp) (t u : Addr) (m : MD) : Prop := (∃ vs, SqT K H t vs ∧ StpsAt K H vs m.ss) ∧ SqT K H u (nats m.es)
def DAt (K : PySem.W.Frag) (H : Hp) (d : Addr) (m : MD) : Prop := ∃ t u, H d = some (.dK [(.inr "stands", .int (m.n : Nat)), (.inr "steps", .ref t), (.inr "ends", .ref u)]) ∧ PartsAt K H t u m
def mfs (n : Nat) (t u : Addr) : List (Str × V) := [("_stands", .int (n : Nat)), ("_steps", .ref t), ("_ends", .ref u)]
def MAt (K : PySem.W.Frag) (C : Addr) (H : Hp) (x : Addr) (m : MD) : Prop := ∃ dx t u, H x = some (.ins C dx (mfs m.n t u)) ∧ PartsAt K H t u m
section
variable {K : PySem.W.Frag} {a : Addr} {H H' : Hp}
/-- tuples stay -/
def Tups (H H' : Hp) : Prop := (∀ b xs, H b = some (.tup xs) → H' b = some (.tup xs)) ∧ ∀ b o xs, H b = some (.frz o (.tup xs)) → H' b = some (.frz o (.tup xs))
theorem Tups.trans {H H1 H2 : Hp} (a : Tups H H1) (b : Tups H1 H2) : Tups H H2 := ⟨fun c xs e => b.1 c xs (a.1 c xs e), fun c o xs e => b.2 c o xs (a.2 c o xs e)⟩
theorem Tups.sq {p : Addr} {xs : List V} (k : Tups H H') (h : SqT K H p xs) : SqT K H' p xs := by
  rcases h with (h | ⟨o, h⟩) | h
  · exact .inl (.inl (k.1 _ _ h))
  · exact .inl (.inr ⟨o, k.2 _ _ _ h⟩)
  · exact .inr h
theorem Tups.steps {vs : List V} {ss : List Stp} (k : Tups H H') (h : StpsAt K H vs ss) : StpsAt K H' vs ss := ⟨h.1, fun i s e => let ⟨p, e1, q⟩ := h.2 i s e; ⟨p, e1, k.sq q⟩⟩
theorem Tups.stAt {t : Addr} {ss : List Stp} (k : Tups H H') (h : StAt K H t ss) : StAt K H' t ss := let ⟨us, q, z⟩ := h; ⟨us, k.sq q, k.steps z⟩
theorem Tups.parts {t u : Addr} {m : MD} (k : Tups H H') (h : PartsAt K H t u m) : PartsAt K H' t u m := let ⟨⟨vs, q, z⟩, r⟩ := h; ⟨⟨vs, k.sq q, k.steps z⟩, k.sq r⟩
theorem same_tups (k : Same H H') : Tups H H' := ⟨fun _ _ e => k _ _ e, fun _ _ _ e => k _ _ e⟩
theorem Keep.tups {l : List V} (k : Keep a H H') (ha : H a = some (.lst l)) : Tups H H' := ⟨fun b _ e => k _ _ (fun z => by rw [z, ha] at e; cases e) e, fun b _ _ e => k _ _ (fun z => by rw [z, ha] at e; cases e) e⟩
theorem Tups.new {p : Addr} {o : HO} (h : H p = none) : Tups H (upd H p o) := same_tups (Same.new h)
theorem Tups.lst {p : Addr} {xs : List V} {o : HO} (h : H p = some (.lst xs)) : Tups H (upd H p o) := Keep.tups (Keep.at_) h
theorem DAt.keep {d : Addr} {m : MD} {l : List V} (h : DAt K H d m) (k : Keep a H H') (ha : H a = some (.lst l)) : DAt K H' d m :=
  let ⟨t, u, e, q⟩ := h; ⟨t, u, k _ _ (fun z => by rw [z, ha] at e; cases e) e, (k.tups ha).parts q⟩
theorem MAt.keep {C x : Addr} {m : MD} {l : List V} (h : MAt K C H x m) (k : Keep a H H') (ha : H a = some (.lst l)) : MAt K C H' x m :=
  let ⟨dx, t, u, e, q⟩ := h; ⟨dx, t, u, k _ _ (fun z => by rw [z, ha] at e; cases e) e, (k.tups ha).parts q⟩
theorem DAt.same {d : Addr} {m : MD} (h : DAt K H d m) (k : Same H H') : DAt K H' d m := let ⟨t, u, e, q⟩ := h; ⟨t, u, k _ _ e, (same_tups k).parts q⟩
theorem MAt.same {C x : Addr} {m : MD} (h : MAt K C H x m) (k : Same H H') : MAt K C H' x m := let ⟨dx, t, u, e, q⟩ := h; ⟨dx, t, u, k _ _ e, (same_tups k).parts q⟩
theorem StpsAt.snoc {vs : List V} {ss : List Stp} {p : Addr} {s : Stp} (h : StpsAt K H vs ss) (q : SqT K H p (stpV s)) : StpsAt K H (vs ++ [V.ref p]) (ss ++ [s]) := by
  refine ⟨by rw [List.length_append, List.length_append, h.1]; rfl, fun i t e => ?_⟩
  by_cases c : i < ss.length
  · rw [List.getElem?_append_left c] at e
    obtain ⟨r, e1, q1⟩ := h.2 i t e
    exact ⟨r, by rw [List.getElem?_append_left (by rw [h.1]; exact c)]; exact e1, q1⟩
  · rw [List.getElem?_append_right (by omega)] at e
    have z : i - ss.length = 0 := by
      have := (List.getElem?_eq_some_iff.mp e).1
      simp at this
      omega
    rw [z] at e
    cases e
    exact ⟨p, by rw [List.getElem?_append_right (by rw [h.1]; omega), h.1, z]; rfl, q⟩
end
/-! ### what a machine checks -/
def NotInt (K : PySem.W.Frag) (H : Hp) (v : V) : Prop := (∃ b, v = .bl b) ∨ ∃ t, TyX K H v t ∧ PySem.W.kitOne K t (.type "int") = some false
theorem k_isi {K : PySem.W.Frag} {H : Hp} {Q : VK} {x c : V} {t u : Value} {b : Bool} (hc : ClsV c u) (ht : TyX K H x t) (hk : PySem.W.kitOne K t u = some b) (h : Q (.bl b) H) : rIsi K [x, c] H Q := ⟨x, c, t, u, b, rfl, hc, ht, hk, h⟩
theorem k_chain {r r' : R2} {ta tb tc : TE} {σ : L2.St} {H : Hp} {Q : VK} (h : ta σ H fun x H1 => tb σ H1 fun y H2 => r x y H2 fun z H3 => ∃ k, z = .bl k ∧
  (if k = true then tc σ H3 fun w' H4 => r' y w' H4 Q else Q (.bl false) H3)) : tChain r r' ta tb tc σ H Q := h
def sp_whole (K : PySem.W.Frag) : Sp := fun vs H Q _ => ∃ v : V, vs = [v] ∧ ((∃ i, v = .int i ∧ Q (.bl true) H) ∨ (NotInt K H v ∧ Q (.bl false) H))
def sp_between (K : PySem.W.Frag) : Sp := fun vs H Q _ => ∃ (v : V) (lo hi : Int), vs = [v, .int lo, .int hi] ∧ ((∃ i, v = .int i ∧ Q (.bl (decide (lo ≤ i ∧ i ≤ hi))) H) ∨ (NotInt K H v ∧ Q (.bl false) H))
def sp_is_stand (K : PySem.W.Frag) : Sp := fun vs H Q _ => ∃ (v : V) (n : Int), vs = [.int n, v] ∧ ((∃ i, v = .int i ∧ Q (.bl (decide (0 ≤ i ∧ i < n))) H) ∨ (NotInt K H v ∧ Q (.bl false) H))
def sp_check_stands (K : PySem.W.Frag) : Sp := fun vs H Q _ => ∃ n : Int, vs = [.int n] ∧ 1 ≤ n ∧ n ≤ 8 ∧ Q .non H
section
variable {P : Program} {w : World} {K : PySem.W.Frag} {mg : Str → Option Value} {base : Heap}
theorem ok_is_whole_number (T : Txt K mg) : FnOk P w K mg base (L2.CX P w) 1 T.a_is_whole_number T.fd_is_whole_number ["value"] (sp_whole K) := by
  refine T.F_is_whole_number.okX sc_is_whole_number (fun vs H Q E h => ?_) (fun cdv A outer s H vs Q E hr h => ?_)
  · obtain ⟨v, rfl, _⟩ := h
    rfl
  · obtain ⟨v, rfl, k⟩ := h
    refine ⟨_, (PSs.nox (pss_one (ps_ret (pe_and (pe_callB call_isi (by rfl) T.z_isinstance (by decide +kernel) (pa_cons (pv 0) (pa_cons (pe_bltn (v := .ty "int") (by rfl) T.z_int (by decide +kernel) rfl) pa_nil))) (pe_one (pe_not (pe_callB call_isi (by rfl) T.z_isinstance (by decide +kernel) (pa_cons (pv 0) (pa_cons (pe_bltn (v := .ty "bool") (by rfl) T.z_bool (by decide +kernel) rfl) pa_nil))))))))), ?_⟩
    walk_at "begin"
    walk_at "go"
    rcases k with ⟨i, rfl, k⟩ | ⟨⟨b, rfl⟩ | ⟨t, ht, hk⟩, k⟩
    · refine k_isi (.ty _) (.base (.int i)) (kit_ty (b := "int") (r := true) (by decide +kernel)) ?_
      walk_at "go"
      refine iteT ?_
      walk_at "go"
      refine k_isi (.ty _) (.base (.int i)) (kit_ty (b := "bool") (r := false) (by decide +kernel)) ?_
      walk_at "go"
      exact k
    · refine k_isi (.ty _) (.base (.bl b)) (kit_ty (b := "int") (r := true) (by decide +kernel)) ?_
      walk_at "go"
      refine iteT ?_
      walk_at "go"
      refine k_isi (.ty _) (.base (.bl b)) (kit_ty (b := "bool") (r := true) (by decide +kernel)) ?_
      walk_at "go"
      exact k
    · refine k_isi (.ty _) ht hk ?_
      walk_at "go"
      exact iteF k
theorem ok_is_integer_between (T : Txt K mg) : FnOk P w K mg base (L2.CX P w) 2 T.a_is_integer_between T.fd_is_integer_between ["value", "least", "most"] (sp_between K) := by
  refine T.F_is_integer_between.okX sc_is_integer_between (fun vs H Q E h => ?_) (fun cdv A outer s H vs Q E hr h => ?_)
  · obtain ⟨v, lo, hi, rfl, _⟩ := h
    rfl
  · obtain ⟨v, lo, hi, rfl, k⟩ := h
    refine ⟨_, (PSs.nox (pss_one (ps_ret (pe_and (pe_call (ok_is_whole_number T) (hr.mono (by decide)) (by rfl) T.m_is_whole_number T.k_is_whole_number T.b_is_whole_number .nil passL (pa_cons (pv 0) pa_nil)) (pe_one (pe_chain op_le op_le (pv 1) (pv 0) (pv 2))))))), ?_⟩
    walk_at "begin"
    walk_at "go"
    rcases k with ⟨i, rfl, k⟩ | ⟨ni, k⟩
    · refine ⟨_, rfl, .inl ⟨i, rfl, ?_⟩⟩
      walk_at "go"
      refine iteT (k_chain ?_)
      walk_at "go"
      refine k_ite (fun c => ?_) (fun c => ?_)
      · walk_at "go"
        rw [decide_eq_decide.mpr (show lo ≤ i ∧ i ≤ hi ↔ i ≤ hi from ⟨fun z => z.2, fun z => ⟨c, z⟩⟩)] at k
        exact k
      · walk_at "go"
        rw [decide_eq_false (show ¬ (lo ≤ i ∧ i ≤ hi) from fun z => c z.1)] at k
        exact k
    · refine ⟨_, rfl, .inr ⟨ni, ?_⟩⟩
      walk_at "go"
      exact iteF k
theorem ok_is_stand (T : Txt K mg) : FnOk P w K mg base (L2.CX P w) 3 T.a_is_stand T.fd_is_stand ["stands", "value"] (sp_is_stand K) := by
  refine T.F_is_stand.okX sc_is_stand (fun vs H Q E h => ?_) (fun cdv A outer s H vs Q E hr h => ?_)
  · obtain ⟨v, n, rfl, _⟩ := h
    rfl
  · obtain ⟨v, n, rfl, k⟩ := h
    refine ⟨_, (PSs.nox (pss_one (ps_ret (pe_call (ok_is_integer_between T) (hr.mono (by decide)) (by rfl) T.m_is_integer_between T.k_is_integer_between T.b_is_integer_between .nil passL (pa_cons (pv 1) (pa_cons pe_int (pa_cons (pe_op op_sub (pv 0) pe_int) pa_nil))))))), ?_⟩
    walk_at "begin"
    walk_at "go"
    refine ⟨v, 0, n - 1, rfl, ?_⟩
    rcases k with ⟨i, rfl, k⟩ | ⟨ht, k⟩
    · refine .inl ⟨i, rfl, ?_⟩
      rw [decide_eq_decide.mpr (show (0 ≤ i ∧ i < n) ↔ (0 ≤ i ∧ i ≤ n - 1) by omega)] at k
      exact k
    · exact .inr ⟨ht, k⟩
theorem ok_check_stands (T : Txt K mg) : FnOk P w K mg base (L2.CX P w) 3 T.a_check_stands T.fd_check_stands ["stands"] (sp_check_stands K) := by
  refine T.F_check_stands.okX sc_check_stands (fun vs H Q E h => ?_) (fun cdv A outer s H vs Q E hr h => ?_)
  · obtain ⟨n, rfl, _⟩ := h
    rfl
  · obtain ⟨n, rfl, n1, n8, k⟩ := h
    refine ⟨_, (PSs.nox (pss_one (ps_if (pt_not (pt_val (pe_call (ok_is_integer_between T) (hr.mono (by decide)) (by rfl) T.m_is_integer_between T.k_is_integer_between T.b_is_integer_between .nil passL (pa_cons (pv 0) (pa_cons pe_int (pa_cons (pe_glob (by rfl) T.m_MOST_STANDS T.r_MOST_STANDS) pa_nil))))))
  (pss_one ps_never)
  pss_nil))), ?_⟩
    walk_at "begin"
    walk_at "go"
    refine ⟨_, 1, 8, rfl, .inl ⟨n, rfl, ?_⟩⟩
    rw [decide_eq_true (show 1 ≤ n ∧ n ≤ 8 from ⟨n1, n8⟩)]
    walk_at "go"
    refine iteF ?_
    walk_at "go"
    exact k
end
/-! ### (int, text) <= (int, text) -/
def le2 (i : Int) (s : Str) (j : Int) (t : Str) : Bool := if i = j then (if s = t then true else !decide (t.cps.toList < s.cps.toList)) else decide (i ≤ j)
def rLe2 (K : PySem.W.Frag) : R2 := fun x y H Q => ∃ (a b : Addr) (i j : Int) (s t : Str), x = .ref a ∧ y = .ref b ∧ SqT K H a [.int i, .str s] ∧ SqT K H b [.int j, .str t] ∧ Q (.bl (le2 i s j t)) H
theorem op_le2 {X : Cx} (hu : X.A.units < cLine) : OpR X (compareOp .LtE) (rLe2 X.K) := by
  rintro pins st σ H x y v u Q I rx ry ⟨a, b, i, j, s, t, rfl, rfl, ha, hb, q⟩
  cases rx
  cases ry
  obtain ⟨us, r1, p1, _⟩ := I.tuple ha
  obtain ⟨ws, r2, p2, _⟩ := I.tuple hb
  obtain ⟨u1, u2, rfl, ⟨k1, rfl⟩, ⟨k2, rfl⟩⟩ := vals2 r1
  obtain ⟨w1, w2, rfl, ⟨l1, rfl⟩, ⟨l2, rfl⟩⟩ := vals2 r2
  have R := Ob.RcOp.tuples_le (A := X.A) (s := st) (e := fun n => if n = 0 then (i == j) else decide (s = t)) (r := fun n => if n = 0 then decide (i ≤ j) else !decide (t.cps.toList < s.cps.toList)) p1 p2 hu
    (fun n h1 h2 => by
      have n2 : n < 2 := h1
      match n, n2 with
      | 0, _ => exact SeqAt.EqAt.int_int _ _ _ _
      | 1, _ => exact SeqAt.EqAt.str_str _ _ _ _)
    (fun n h1 h2 _ => by
      have n2 : n < 2 := h1
      match n, n2 with
      | 0, _ => exact Ob.RcOp.le_int _ _ _ _
      | 1, _ => exact fun prog w E Q hQ => PySem.P.le_str hQ)
  have z : Ob.lexAt (fun n => if n = 0 then (i == j) else decide (s = t)) (fun n => if n = 0 then decide (i ≤ j) else !decide (t.cps.toList < s.cps.toList)) (decide ((2 : Nat) ≤ 2)) 0 (min 2 2) = le2 i s j t := by
    show Ob.lexAt _ _ _ 0 2 = _
    rw [Ob.lexAt_succ]
    unfold le2
    by_cases c : i = j
    · have c' : (i == j) = true := beq_iff_eq.mpr c
      simp only [if_pos, c', if_pos c]
      rw [Ob.lexAt_succ]
      by_cases d : s = t
      · simp [d, Ob.lexAt_zero]
      · simp [d]
    · have c' : (i == j) = false := beq_eq_false_iff_ne.mpr c
      simp [c']
      exact fun z => absurd z c
  have R' := R X.prog X.w X.xe (EP X pins σ Q) ⟨.bl _, H, I, rfl, (by rw [← z] at q; exact q)⟩
  exact R'
/-! ### steps, ends, machines -/
theorem ty_tup {K : PySem.W.Frag} {H : Hp} {p : Addr} {xs : List V} (h : SqT K H p xs) : TyX K H (.ref p) (.type "tuple") := by
  rcases h with (h | ⟨o, h⟩) | ⟨o, its, n, h, hc, _⟩
  · exact .base (.tup h)
  · exact .fTuple h
  · exact .kTuple h hc
theorem k_in {K : PySem.W.Frag} {neg : Bool} {H : Hp} {Q : VK} {p : Addr} {x : V} {xs : List V} (h : SqL K H p xs ∨ SqT K H p xs) (fx : flatV x = true) (fa : xs.all flatV = true) (q : Q (.bl (if neg then !inV x xs else inV x xs)) H) : rIn K neg x (.ref p) H Q := ⟨p, xs, rfl, h, fx, fa, q⟩
theorem letter_in {c : Nat} (h : 97 ≤ c) (h' : c ≤ 100) : inV (.str ⟨#[c]⟩) [V.str "a", V.str "b", V.str "c", V.str "d"] = true := by
  have z : c = 97 ∨ c = 98 ∨ c = 99 ∨ c = 100 := by omega
  rcases z with rfl | rfl | rfl | rfl <;> decide
theorem k_slA2 {K : PySem.W.Frag} {H : Hp} {Q : VK} {a : Addr} {x y z u : V} (h : SqT K H a [x, y, z, u]) (q : ∀ p, H p = none → Q (.ref p) (upd H p (.tup [x, y]))) : rSlA K (.ref a) none (some 2) H Q :=
  ⟨a, _, rfl, h, fun e => absurd e (by show ¬ ((0 : Nat) = 0 ∧ (2 : Nat) = 4); decide), fun _ p hp => q p hp⟩
theorem le2_no {s t : Stp} (h : s.lt t) : le2 (t.b : Nat) ⟨#[t.c]⟩ (s.b : Nat) ⟨#[s.c]⟩ = false := by
  unfold le2
  rcases h with h | ⟨h1, h2⟩
  · rw [if_neg (by omega), decide_eq_false (by omega)]
  · rw [if_pos (by omega), if_neg (by intro z; injection z with z; simp at z; omega)]
    simp
    exact List.Lex.rel h2
theorem few {n : Nat} (k : Nat) (h : k < 1000) (q : n ≤ k) : n < 1000 := Nat.lt_of_le_of_lt q h
def sp_is_step (K : PySem.W.Frag) : Sp := fun vs H Q _ => ∃ (n : Nat) (p : Addr) (s : Stp), vs = [.int (n : Nat), .ref p] ∧ SqT K H p (stpV s) ∧ s.Ok n ∧ Q (.bl true) H
def sp_check_steps (K : PySem.W.Frag) : Sp := fun vs H Q _ => ∃ (t : Addr) (us : List V) (m : MD), vs = [.int (m.n : Nat), .ref t] ∧ SqT K H t us ∧ StpsAt K H us m.ss ∧ m.Ok ∧ ∀ H', Same H H' → Q .non H'
def sp_check_ends (K : PySem.W.Frag) : Sp := fun vs H Q _ => ∃ (t : Addr) (m : MD), vs = [.int (m.n : Nat), .ref t] ∧ SqT K H t (nats m.es) ∧ m.Ok ∧ ∀ H', Same H H' → Q .non H'
/-- whether values are ascending integers from l to below n -/
def ascV (n : Int) : Int → List V → Bool
  | _, [] => true
  | l, .int j :: r => decide (l ≤ j ∧ j ≤ n - 1) && ascV n (j + 1) r
  | _, _ => false
theorem ascV_odd {n l : Int} {x : V} {r : List V} (h : ∀ j, x ≠ .int j) : ascV n l (x :: r) = false := by
  cases x with
  | int j => exact (h j rfl).elim
  | _ => rfl
theorem ascV_nats {n : Nat} : ∀ {es : List Nat} {l : Nat}, (∀ e ∈ es, e < n) → es.Pairwise (· < ·) → (∀ e ∈ es, l ≤ e) → ascV (n : Nat) (l : Nat) (nats es) = true
  | [], _, _, _, _ => rfl
  | e :: es, l, h1, h2, h3 => by
    show (decide (((l : Nat) : Int) ≤ (e : Nat) ∧ ((e : Nat) : Int) ≤ (n : Nat) - 1) && ascV (n : Nat) (((e + 1 : Nat)) : Int) (nats es)) = true
    have a := h1 e (List.mem_cons_self ..)
    have b := h3 e (List.mem_cons_self ..)
    have c := List.pairwise_cons.mp h2
    rw [decide_eq_true (by omega), ascV_nats (fun x hx => h1 x (List.mem_cons_of_mem _ hx)) c.2 (fun x hx => c.1 x hx)]
    rfl
def sp_asc (K : PySem.W.Frag) : Sp := fun vs H Q _ => ∃ (v : V) (n : Int), vs = [v, .int n] ∧ ((∃ ty, TyX K H v ty ∧ PySem.W.kitOne K ty (.type "tuple") = some false ∧ Q (.bl false) H) ∨
  ∃ t xs, v = .ref t ∧ SqT K H t xs ∧ (∀ x ∈ xs, (∃ j, x = .int j) ∨ (NotInt K H x ∧ ∀ j, x ≠ .int j)) ∧ Q (.bl (ascV n 0 xs)) H)
def sp_init (K : PySem.W.Frag) (C : Addr) : Sp := fun vs H Q _ => ∃ (x dx t u : Addr) (m : MD), vs = [.ref x, .int (m.n : Nat), .ref t, .ref u] ∧ H x = some (.ins C dx []) ∧ PartsAt K H t u m ∧ m.Ok ∧
  ∀ H', Keep x H H' → H' x = some (.ins C dx (mfs m.n t u)) → Q .non H'
def sp_machine (K : PySem.W.Frag) (C : Addr) : Sp := fun vs H Q _ => ∃ (d : Addr) (m : MD), vs = [.ref d] ∧ DAt K H d m ∧ m.Ok ∧ ∀ x H', Same H H' → H x = none → MAt K C H' x m → Q (.ref x) H'
section
variable {P : Program} {w : World} {K : PySem.W.Frag} {mg : Str → Option Value} {base : Heap}
theorem ok_is_step (T : Txt K mg) : FnOk P w K mg base (L2.CX P w) 4 T.a_is_step T.fd_is_step ["stands", "value"] (sp_is_step K) := by
  refine T.F_is_step.okX sc_is_step (fun vs H Q E h => ?_) (fun cdv A outer s H vs Q E hr h => ?_)
  · obtain ⟨n, p, s, rfl, _⟩ := h
    rfl
  · obtain ⟨n, p, t, rfl, hp, o, k⟩ := h
    refine ⟨_, (PSs.nox (pss_cons (ps_if (PW.pt (pw_or (pt_not (pt_val (pe_callB call_isi (by rfl) T.z_isinstance (by decide +kernel) (pa_cons (pv 1) (pa_cons (pe_bltn (v := .ty "tuple") (by rfl) T.z_tuple (by decide +kernel) rfl) pa_nil))))) (pw_or1 (pt_cmpR op_ne (pe_callB call_len_seq (by rfl) T.z_len PySem.boot_len (pa_cons (pv 1) pa_nil)) pe_int (nomark _)))))
  (pss_one (ps_ret pe_bl))
  pss_nil)
  (pss_cons (ps_asg (pv 1) (pg_tup rfl (pgs_cons (pg_name (i := 2) sc_is_step.nd rfl (Or.inl rfl)) (pgs_cons (pg_name (i := 3) sc_is_step.nd rfl (Or.inl rfl)) (pgs_cons (pg_name (i := 4) sc_is_step.nd rfl (Or.inl rfl)) (pgs_cons (pg_name (i := 5) sc_is_step.nd rfl (Or.inl rfl)) pgs_nil))))))
  (pss_one (ps_ret (pe_and (pe_call (ok_is_stand T) (hr.mono (by decide)) (by rfl) T.m_is_stand T.k_is_stand T.b_is_stand .nil passL (pa_cons (pv 0) (pa_cons (pv 2) pa_nil))) (pe_and (pe_cmpR op_in_seq (pv 3) (pe_glob (by rfl) T.m_LETTERS T.r_LETTERS) (by rfl)) (pe_and (pe_call (ok_is_stand T) (hr.mono (by decide)) (by rfl) T.m_is_stand T.k_is_stand T.b_is_stand .nil passL (pa_cons (pv 0) (pa_cons (pv 4) pa_nil))) (pe_one (pe_call (ok_is_integer_between T) (hr.mono (by decide)) (by rfl) T.m_is_integer_between T.k_is_integer_between T.b_is_integer_between .nil passL (pa_cons (pv 5) (pa_cons (pe_un un_neg (pe_glob (by rfl) T.m_MOST_GAIN T.r_MOST_GAIN)) (pa_cons (pe_glob (by rfl) T.m_MOST_GAIN T.r_MOST_GAIN) pa_nil))))))))))))), ?_⟩
    walk_at "begin"
    walk_at "go"
    refine k_isi (.ty _) (ty_tup hp) (kit_ty (b := "tuple") (r := true) (by decide +kernel)) ?_
    walk_at "go"
    refine iteF ?_
    walk_at "go"
    refine k_len (.inr hp) ?_
    walk_at "go"
    refine iteF ?_
    walk_at "go"
    refine k_gt hp rfl ?_
    unfold stpV
    walk_at "go"
    refine ⟨_, _, rfl, .inl ⟨_, rfl, ?_⟩⟩
    rw [decide_eq_true (show 0 ≤ ((t.b : Nat) : Int) ∧ ((t.b : Nat) : Int) < (n : Nat) from ⟨Int.natCast_nonneg _, by have := o.b; omega⟩)]
    walk_at "go"
    refine iteT ?_
    walk_at "go"
    refine k_in (.inr (T.s_LETTERS _)) rfl (by decide) ?_
    rw [letter_in o.c o.c']
    walk_at "go"
    refine iteT ?_
    walk_at "go"
    refine ⟨_, _, rfl, .inl ⟨_, rfl, ?_⟩⟩
    rw [decide_eq_true (show 0 ≤ ((t.e : Nat) : Int) ∧ ((t.e : Nat) : Int) < (n : Nat) from ⟨Int.natCast_nonneg _, by have := o.e; omega⟩)]
    walk_at "go"
    refine iteT ?_
    walk_at "go"
    refine ⟨_, _, _, rfl, .inl ⟨_, rfl, ?_⟩⟩
    rw [decide_eq_true (show -1000000000000000000000000000000 ≤ t.g ∧ t.g ≤ 1000000000000000000000000000000 from ⟨by have := o.g; omega, by have := o.g'; omega⟩)]
    exact k
theorem ok_check_steps (T : Txt K mg) : FnOk P w K mg base (L2.CX P w) 5 T.a_check_steps T.fd_check_steps ["stands", "steps"] (sp_check_steps K) := by
  refine T.F_check_steps.okX sc_check_steps (fun vs H Q E h => ?_) (fun cdv A outer s H vs Q E hr h => ?_)
  · obtain ⟨t, us, m, rfl, _⟩ := h
    rfl
  · obtain ⟨t, us, m, rfl, ht, hs, o, k⟩ := h
    refine ⟨_, (PSs.nox (pss_cons (ps_if (pt_not (pt_val (pe_callB call_isi (by rfl) T.z_isinstance (by decide +kernel) (pa_cons (pv 1) (pa_cons (pe_bltn (v := .ty "tuple") (by rfl) T.z_tuple (by decide +kernel) rfl) pa_nil)))))
  (pss_one ps_never)
  pss_nil)
  (pss_one (ps_for PassesOwn.never rfl (pi_enumT (by rfl) T.z_enumerate (pa_cons (pv 1) pa_nil)) (pg_tup rfl (pgs_cons (pg_name (i := 2) sc_check_steps.nd rfl (Or.inl rfl)) (pgs_cons (pg_name (i := 3) sc_check_steps.nd rfl (Or.inl rfl)) pgs_nil)))
  (pss_cons (ps_if (pt_not (pt_val (pe_call (ok_is_step T) (hr.mono (by decide)) (by rfl) T.m_is_step T.k_is_step T.b_is_step .nil passL (pa_cons (pv 0) (pa_cons (pv 3) pa_nil)))))
  (pss_one ps_never)
  pss_nil)
  (pss_one (ps_if (PW.pt (pw_and (pt_cmpR op_gt (pv 2) pe_int (nomark _)) (pw_and1 (pt_cmpR (op_le2 hr.units0) (pe_slice sl_tupA (pv 3) po_none (po_some pe_int)) (pe_slice sl_tupA (pe_ix ix_tup (pv 1) (pe_op op_sub (pv 2) pe_int) (fun _ _ => rfl)) po_none (po_some pe_int)) (nomark _)))))
  (pss_one ps_never)
  pss_nil))))))), ?_⟩
    walk_at "begin"
    walk_at "go"
    refine k_isi (.ty _) (ty_tup ht) (kit_ty (b := "tuple") (r := true) (by decide +kernel)) ?_
    walk_at "go"
    refine iteF ?_
    walk_at "go"
    refine ⟨_, rfl, t, us, rfl, ht, for_enumT (xs := us) (fun i σ H' => Same H H' ∧ ∃ a b, σ = [some (.int (m.n : Nat)), some (.ref t), a, b]) ⟨Same.refl _, _, _, rfl⟩ (fun i σ H' _ ⟨z, _⟩ => (same_tups z).sq ht) ?_ ?_⟩
    · rintro i x p σ H1 hx ⟨z, a, b, rfl⟩ hp
      have il : i < m.ss.length := by rw [← hs.1]; exact (List.getElem?_eq_some_iff.mp hx).1
      obtain ⟨q, eq, hq⟩ := hs.2 i _ (List.getElem?_eq_getElem il)
      rw [hx] at eq
      cases eq
      have z1 : Same H (upd H1 p (.tup [.int (i : Nat), .ref q])) := z.trans (Same.new hp)
      have hq1 := (same_tups z1).sq hq
      have ok1 := o.ok _ (List.getElem_mem il)
      refine k_gt (SqT.of upd_same) rfl ?_
      walk_at "go"
      refine ⟨m.n, q, _, rfl, hq1, ok1, ?_⟩
      walk_at "go"
      refine iteF ?_
      walk_at "go"
      refine k_ite (fun c => ?_) (fun c => iteF ?_)
      · walk_at "go"
        have jl : i - 1 < m.ss.length := by omega
        obtain ⟨q2, eq2, hq2⟩ := hs.2 (i - 1) _ (List.getElem?_eq_getElem jl)
        refine k_slA2 hq1 fun p1 n1 => ?_
        have z2 := z1.trans (Same.new (o := .tup [.int ((m.ss[i]'il).b : Nat), .str ⟨#[(m.ss[i]'il).c]⟩]) n1)
        walk_at "go"
        refine k_ixT ((same_tups z2).sq ht) (v := .ref q2) (at_of (j := i - 1) (by omega) eq2) ?_
        walk_at "go"
        refine k_slA2 ((same_tups z2).sq hq2) fun p2 n2 => ?_
        have z3 := z2.trans (Same.new (o := .tup [.int ((m.ss[i - 1]'jl).b : Nat), .str ⟨#[(m.ss[i - 1]'jl).c]⟩]) n2)
        refine ⟨p1, p2, _, _, _, _, rfl, rfl, SqT.of (Same.new n2 _ _ upd_same), SqT.of upd_same, ?_⟩
        · have up := List.pairwise_iff_getElem.mp o.up (i - 1) i jl il (by omega)
          rw [le2_no up]
          walk_at "go"
          refine iteF ?_
          walk_at "go"
          exact ⟨z3, _, _, rfl⟩
      · walk_at "go"
        exact ⟨z1, _, _, rfl⟩
    · rintro σ H1 ⟨z, _⟩
      exact k H1 z
theorem ok_is_ascending (T : Txt K mg) : FnOk P w K mg base (L2.CX P w) 3 T.a_is_ascending T.fd_is_ascending ["value", "many"] (sp_asc K) := by
  refine T.F_is_ascending.okX sc_is_ascending (fun vs H Q E h => ?_) (fun cdv A outer s H vs Q E hr h => ?_)
  · obtain ⟨v, n, rfl, _⟩ := h
    rfl
  · obtain ⟨v, n, rfl, h⟩ := h
    refine ⟨_, (PSs.nox (pss_cons (ps_if (pt_not (pt_val (pe_callB call_isi (by rfl) T.z_isinstance (by decide +kernel) (pa_cons (pv 0) (pa_cons (pe_bltn (v := .ty "tuple") (by rfl) T.z_tuple (by decide +kernel) rfl) pa_nil)))))
  (pss_one (ps_ret pe_bl))
  pss_nil)
  (pss_cons (ps_set (i := 2) sc_is_ascending.nd rfl (Or.inl rfl) pe_int)
  (pss_cons (ps_for PassesOwn.never rfl (pi_tup (pv 0)) (pg_name (i := 3) sc_is_ascending.nd rfl (Or.inl rfl))
  (pss_cons (ps_if (pt_not (pt_val (pe_call (ok_is_integer_between T) (hr.mono (by decide)) (by rfl) T.m_is_integer_between T.k_is_integer_between T.b_is_integer_between .nil passL (pa_cons (pv 3) (pa_cons (pv 2) (pa_cons (pe_op op_sub (pv 1) pe_int) pa_nil))))))
  (pss_one (ps_ret pe_bl))
  pss_nil)
  (pss_one (ps_set (i := 2) sc_is_ascending.nd rfl (Or.inl rfl) (pe_op op_add (pv 3) pe_int)))))
  (pss_one (ps_ret pe_bl)))))), ?_⟩
    walk_at "begin"
    walk_at "go"
    rcases h with ⟨ty, h1, h2, k⟩ | ⟨t, xs, rfl, ht, hx, k⟩
    · refine k_isi (.ty _) h1 h2 ?_
      walk_at "go"
      refine iteT ?_
      walk_at "go"
      exact k
    · refine k_isi (.ty _) (ty_tup ht) (kit_ty (b := "tuple") (r := true) (by decide +kernel)) ?_
      walk_at "go"
      refine iteF ?_
      walk_at "go"
      refine ⟨t, rfl, ⟨_, ht⟩, ?_⟩
      refine for_tup (xs := xs) (fun i σ H' => H' = H ∧ ∃ (l : Int) (a : Option V), σ = [some (.ref t), some (.int n), some (.int l), a] ∧ ascV n 0 xs = ascV n l (xs.drop i)) ⟨rfl, 0, _, rfl, rfl⟩ (fun i σ H' _ ⟨e, _⟩ => by rw [e]; exact ht) ?_ ?_
      · rintro i x σ H1 hx1 ⟨rfl, l, a, rfl, eq⟩
        have il : i < xs.length := (List.getElem?_eq_some_iff.mp hx1).1
        have dr : xs.drop i = x :: xs.drop (i + 1) := by rw [List.drop_eq_getElem_cons il, (List.getElem?_eq_some_iff.mp hx1).2]
        rw [dr] at eq
        walk_at "go"
        rcases hx x (List.mem_of_getElem? hx1) with ⟨j, rfl⟩ | ⟨ni, nj⟩
        · refine ⟨_, _, _, rfl, .inl ⟨j, rfl, ?_⟩⟩
          by_cases c : l ≤ j ∧ j ≤ n - 1
          · rw [decide_eq_true c]
            walk_at "go"
            refine iteF ?_
            walk_at "go"
            refine ⟨rfl, _, _, rfl, ?_⟩
            rw [eq]
            show (decide (l ≤ j ∧ j ≤ n - 1) && ascV n (j + 1) (xs.drop (i + 1))) = _
            rw [decide_eq_true c]
            rfl
          · rw [decide_eq_false c]
            walk_at "go"
            refine iteT ?_
            walk_at "go"
            have e2 : ascV n 0 xs = false := by
              rw [eq]
              show (decide (l ≤ j ∧ j ≤ n - 1) && ascV n (j + 1) (xs.drop (i + 1))) = _
              rw [decide_eq_false c]
              rfl
            rw [e2] at k
            exact k
        · refine ⟨_, _, _, rfl, .inr ⟨ni, ?_⟩⟩
          walk_at "go"
          refine iteT ?_
          walk_at "go"
          have e2 : ascV n 0 xs = false := by
            rw [eq]
            exact ascV_odd nj
          rw [e2] at k
          exact k
      · rintro σ H1 ⟨rfl, l, a, rfl, eq⟩
        rw [List.drop_length] at eq
        rw [eq] at k
        walk_at "go"
        exact k
theorem ok_check_ends (T : Txt K mg) : FnOk P w K mg base (L2.CX P w) 4 T.a_check_ends T.fd_check_ends ["stands", "ends"] (sp_check_ends K) := by
  refine T.F_check_ends.okX sc_check_ends (fun vs H Q E h => ?_) (fun cdv A outer s H vs Q E hr h => ?_)
  · obtain ⟨t, m, rfl, _⟩ := h
    rfl
  · obtain ⟨t, m, rfl, ht, o, k⟩ := h
    refine ⟨_, (PSs.nox (pss_one (ps_if (pt_not (pt_val (pe_call (ok_is_ascending T) (hr.mono (by decide)) (by rfl) T.m_is_ascending T.k_is_ascending T.b_is_ascending .nil passL (pa_cons (pv 1) (pa_cons (pv 0) pa_nil)))))
  (pss_one ps_never)
  pss_nil))), ?_⟩
    walk_at "begin"
    walk_at "go"
    refine ⟨_, _, rfl, .inr ⟨t, _, rfl, ht, fun x h => ?_, ?_⟩⟩
    · obtain ⟨e, _, rfl⟩ := List.mem_map.mp h
      exact .inl ⟨_, rfl⟩
    rw [show ascV (m.n : Nat) 0 (nats m.es) = true from ascV_nats (l := 0) (fun e h => o.eb e h) o.eu (fun _ _ => Nat.zero_le _)]
    walk_at "go"
    refine iteF ?_
    walk_at "go"
    exact k H (Same.refl _)
theorem ok_Machine_init (T : Txt K mg) : FnOk P w K mg base (L2.CX P w) 6 T.a_Machine_init T.fd_Machine_init ["self", "stands", "steps", "ends"] (sp_init K T.c_Machine) := by
  refine T.F_Machine_init.okX sc_Machine_init (fun vs H Q E h => ?_) (fun cdv A outer s H vs Q E hr h => ?_)
  · obtain ⟨x, dx, t, u, m, rfl, _⟩ := h
    rfl
  · obtain ⟨x, dx, t, u, m, rfl, hx, ⟨⟨us, ht, hs⟩, hu⟩, o, k⟩ := h
    refine ⟨_, (PSs.nox (pss_cons (ps_expr (pe_call (ok_check_stands T) (hr.mono (by decide)) (by rfl) T.m_check_stands T.k_check_stands T.b_check_stands .nil passL (pa_cons (pv 1) pa_nil)))
  (pss_cons (ps_expr (pe_call (ok_check_steps T) (hr.mono (by decide)) (by rfl) T.m_check_steps T.k_check_steps T.b_check_steps .nil passL (pa_cons (pv 1) (pa_cons (pv 2) pa_nil))))
  (pss_cons (ps_expr (pe_call (ok_check_ends T) (hr.mono (by decide)) (by rfl) T.m_check_ends T.k_check_ends T.b_check_ends .nil passL (pa_cons (pv 1) (pa_cons (pv 3) pa_nil))))
  (pss_cons (ps_fld (pv 0) (pv 1) rfl)
  (pss_cons (ps_fld (pv 0) (pv 2) rfl)
  (pss_one (ps_fld (pv 0) (pv 3) rfl)))))))), ?_⟩
    walk_at "begin"
    walk_at "go"
    refine ⟨_, rfl, by have := o.n1; omega, by have := o.n8; omega, ?_⟩
    walk_at "go"
    refine ⟨t, us, m, rfl, ht, hs, o, fun H1 z1 => ?_⟩
    walk_at "go"
    refine ⟨u, m, rfl, (same_tups z1).sq hu, o, fun H2 z2 => ?_⟩
    walk_at "go"
    have e2 : H2 x = some (.ins T.c_Machine dx []) := z2 _ _ (z1 _ _ hx)
    refine ⟨_, rfl, _, rfl, x, _, dx, _, rfl, e2, T.cl_Machine, T.n__stands, (by decide : 0 < 1000), ?_⟩
    refine ⟨_, rfl, _, rfl, x, _, dx, _, rfl, upd_same, T.cl_Machine, T.n__steps, few 1 (by decide) (length_putF _ _ _), ?_⟩
    refine ⟨_, rfl, _, rfl, x, _, dx, _, rfl, upd_same, T.cl_Machine, T.n__ends, few 2 (by decide) (Nat.le_trans (length_putF _ _ _) (Nat.succ_le_succ (length_putF _ _ _))), ?_⟩
    refine k _ (((Keep.of_same (z1.trans z2)).trans Keep.at_).trans (Keep.at_.trans Keep.at_)) ?_
    rw [upd_same]
    rfl
theorem ok_law_machine (T : Txt K mg) : FnOk P w K mg base (L2.CX P w) 8 T.a_law_machine T.fd_law_machine ["_law_d"] (sp_machine K T.c_Machine) := by
  refine T.F_law_machine.okX sc_law_machine (fun vs H Q E h => ?_) (fun cdv A outer s H vs Q E hr h => ?_)
  · obtain ⟨d, m, rfl, _⟩ := h
    rfl
  · obtain ⟨d, m, rfl, ⟨t, u, hd, hp⟩, o, k⟩ := h
    refine ⟨_, (PSs.nox (pss_one (ps_ret (pe_make T.mk_Machine (ok_Machine_init T) (hr.mono (by decide)) (by rfl) T.m_Machine T.b_Machine_init .nil passL (pa_cons (pe_dget (hu_of hr) (pv 0) pe_str (fun _ _ => rfl)) (pa_cons (pe_dget (hu_of hr) (pv 0) pe_str (fun _ _ => rfl)) (pa_cons (pe_dget (hu_of hr) (pv 0) pe_str (fun _ _ => rfl)) pa_nil))))))), ?_⟩
    walk_at "begin"
    walk_at "go"
    refine ⟨d, .int (m.n : Nat), rfl, DGet.k (k := .inr "stands") hd, ?_⟩
    walk_at "go"
    refine ⟨d, .ref t, rfl, DGet.k (k := .inr "steps") hd, ?_⟩
    walk_at "go"
    refine ⟨d, .ref u, rfl, DGet.k (k := .inr "ends") hd, ?_⟩
    walk_at "go"
    intro x dx hx hdx ne
    refine ⟨x, dx, t, u, m, rfl, upd_same, (same_tups ((Same.new hdx).trans (Same.new ?_))).parts hp, o, fun H' z e => ⟨rfl, ?_⟩⟩
    · rw [upd_ne ne.symm]; exact hx
    · have zz : Same H H' := fun b ob eb => z b ob (ne_of_none eb hx) (by rw [upd_ne (ne_of_none eb hx), upd_ne (ne_of_none eb hdx)]; exact eb)
      exact k x H' zz hx ⟨dx, t, u, e, (same_tups zz).parts hp⟩
end
/-! ### steps in a tuple or in a list -/
def SqS (K : PySem.W.Frag) (H : Hp) (a : Addr) (xs : List V) : Prop := SqT K H a xs ∨ SqL K H a xs
theorem SqS.same {K : PySem.W.Frag} {H H' : Hp} {a : Addr} {xs : List V} (h : SqS K H a xs) (z : Same H H') : SqS K H' a xs := h.imp (fun h => (same_tups z).sq h) fun h => z.seq h
def StSq (K : PySem.W.Frag) (H : Hp) (t : Addr) (ss : List Stp) : Prop := ∃ us, SqS K H t us ∧ StpsAt K H us ss
theorem StSq.of {K : PySem.W.Frag} {H : Hp} {t : Addr} {ss : List Stp} (h : StAt K H t ss) : StSq K H t ss := let ⟨us, a, b⟩ := h; ⟨us, .inl a, b⟩
theorem StSq.same {K : PySem.W.Frag} {H H' : Hp} {t : Addr} {ss : List Stp} (h : StSq K H t ss) (z : Same H H') : StSq K H' t ss := let ⟨us, a, b⟩ := h; ⟨us, a.same z, (same_tups z).steps b⟩
def iSq (K : PySem.W.Frag) (tl : TE) : TI := fun σ H R => iTup K tl σ H R ∨ iList K tl σ H R
theorem pi_sq {X : L2.Cx} {tg l : Expr} {tl : TE} (hl : PE X l tl) : PI X tg l (iSq X.K tl) := ⟨fun pins s σ H R I h => h.elim ((pi_tup hl).run pins s σ H R I) ((pi_list hl).run pins s σ H R I)⟩
theorem for_sq {K : PySem.W.Frag} {t : Addr} {xs : List V} {j : Nat} {g : TG} {tb : TS} {D : Ends} {σ : L2.St} {H Hb : Hp} (e : σ[j]? = some (some (.ref t))) (hx : SqS K Hb t xs) (Pv : Nat → L2.St → Hp → Prop) (h0 : Pv 0 σ H) (hl : ∀ i σ H, Pv i σ H → Same Hb H)
    (hs : ∀ i x σ H, xs[i]? = some x → Pv i σ H → g x σ H fun σ2 H2 => tb { D with nx := Pv (i + 1), ct := Pv (i + 1), bk := D.nx } σ2 H2) (hd : ∀ σ H, Pv xs.length σ H → D.nx σ H) :
    iSq K (tVar j) σ H fun J H1 => ∃ W : Nat → Nat → L2.St → Hp → Prop, (∃ m, W 0 m σ H1) ∧ ∀ i m σ H, W i m σ H →
      (J.stop i H ∧ D.nx σ H) ∨ (J.go i H ∧ ∃ N : L2.St → Hp → Prop, (∀ σ' H', N σ' H' → ∃ m', m' < m ∧ W (i + 1) m' σ' H') ∧ ∀ x H', J.yld i H x H' → g x σ H' fun σ2 H2 => tb { D with nx := N, ct := N, bk := D.nx } σ2 H2) := by
  have z0 := hl _ _ _ h0
  rcases hx with hx | hx
  · exact .inl (k_var e ⟨t, rfl, ⟨xs, (same_tups z0).sq hx⟩, for_tup Pv h0 (fun i σ H _ p => (same_tups (hl _ _ _ p)).sq hx) hs hd⟩)
  · exact .inr (k_var e ⟨t, rfl, ⟨xs, z0.seq hx⟩, for_list Pv h0 (fun i σ H _ p => (hl _ _ _ p).seq hx) hs hd⟩)
/-! ### the drawn machines -/
def sp_parts (K : PySem.W.Frag) : Sp := fun vs H Q _ => ∃ (a : Addr) (st : Nat) (sz : Int), vs = [.ref a, .int (st : Nat), .int sz] ∧ 1 ≤ st ∧ st ≤ 8 ∧ 0 ≤ sz ∧ 2 * sz + 1 ≤ 10 ^ 30 ∧ RowOk K H a ∧
  ∀ (d : Addr) (m : MD) (H' : Hp), m.Ok → m.n ≤ st → (∀ s ∈ m.ss, -(2 * sz + 1) ≤ s.g ∧ s.g ≤ 2 * sz + 1) → DAt K H' d m → RowOk K H' a → Keep a H H' → H d = none → Q (.ref d) H'
theorem abcd_cut {k : Nat} (h1 : 1 ≤ k) (h4 : k ≤ 4) : cutS "abcd" none (some ((k : Nat) : Int)) = ⟨(([97, 98, 99, 100] : List Nat).take k).toArray⟩ := by
  have z : k = 1 ∨ k = 2 ∨ k = 3 ∨ k = 4 := by omega
  rcases z with rfl | rfl | rfl | rfl <;> decide
theorem abcd_at {k j c : Nat} (h : (([97, 98, 99, 100] : List Nat).take k).toArray[j]? = some c) : c = 97 + j ∧ j < 4 := by
  rw [List.getElem?_toArray, List.getElem?_take] at h
  split at h
  · match j, h with
    | 0, h => simp at h; omega
    | 1, h => simp at h; omega
    | 2, h => simp at h; omega
    | 3, h => simp at h; omega
    | n + 4, h => simp at h
  · cases h
/-- the steps so far: of the stands below i, and of i by the first j letters -/
structure Sofar (K : PySem.W.Frag) (H : Hp) (l : Addr) (n : Nat) (sz : Int) (i j : Nat) (ss : List Stp) : Prop where
  at_ : ∃ vs, H l = some (.lst vs) ∧ StpsAt K H vs ss
  ok : ∀ s ∈ ss, s.Ok n
  up : ss.Pairwise Stp.lt
  bd : ∀ s ∈ ss, s.b < i ∨ (s.b = i ∧ s.c < 97 + j)
  gb : ∀ s ∈ ss, -(2 * sz + 1) ≤ s.g ∧ s.g ≤ 2 * sz + 1
  len : ss.length ≤ 4 * i + j
theorem Sofar.keep {K : PySem.W.Frag} {H H' : Hp} {l a : Addr} {n i j : Nat} {sz : Int} {ss : List Stp} {xs : List V} (h : Sofar K H l n sz i j ss) (k : Keep a H H') (ha : H a = some (.lst xs)) (ne : l ≠ a) : Sofar K H' l n sz i j ss :=
  let ⟨vs, e, q⟩ := h.at_
  ⟨⟨vs, k _ _ ne e, (k.tups ha).steps q⟩, h.ok, h.up, h.bd, h.gb, h.len⟩
theorem Sofar.more {K : PySem.W.Frag} {H : Hp} {l : Addr} {n i j j' : Nat} {sz : Int} {ss : List Stp} (h : Sofar K H l n sz i j ss) (e : j ≤ j') : Sofar K H l n sz i j' ss :=
  ⟨h.at_, h.ok, h.up, fun s hs => (h.bd s hs).imp id fun z => ⟨z.1, by omega⟩, h.gb, by have := h.len; omega⟩
theorem Sofar.line {K : PySem.W.Frag} {H : Hp} {l : Addr} {n i j : Nat} {sz : Int} {ss : List Stp} (h : Sofar K H l n sz i j ss) (e : j ≤ 4) : Sofar K H l n sz (i + 1) 0 ss :=
  ⟨h.at_, h.ok, h.up, fun s hs => .inl (by rcases h.bd s hs with z | z <;> omega), h.gb, by have := h.len; omega⟩
theorem Sofar.snoc {K : PySem.W.Frag} {H : Hp} {l p : Addr} {n i j e : Nat} {sz g : Int} {ss : List Stp} (h : Sofar K H l n sz i j ss) (hp : H p = none) (hi : i < n) (hj : j < 4) (he : e < n) (z1 : 2 * sz + 1 ≤ 10 ^ 30)
    (g1 : -(2 * sz + 1) ≤ g) (g2 : g ≤ 2 * sz + 1) : ∀ vs, H l = some (.lst vs) →
    Sofar K (upd (upd H p (.tup (stpV ⟨i, 97 + j, e, g⟩))) l (.lst (vs ++ [.ref p]))) l n sz i (j + 1) (ss ++ [⟨i, 97 + j, e, g⟩]) := fun vs ev => by
  obtain ⟨vs', e', q⟩ := h.at_
  rw [ev] at e'
  cases e'
  have np : l ≠ p := ne_of_none ev hp
  have t1 : Tups H (upd H p (.tup (stpV ⟨i, 97 + j, e, g⟩))) := Tups.new hp
  have el : (upd H p (.tup (stpV ⟨i, 97 + j, e, g⟩))) l = some (.lst vs) := by rw [upd_ne np]; exact ev
  have t2 := Tups.lst (o := .lst (vs ++ [.ref p])) el
  have mem : ∀ s, s ∈ ss ++ [(⟨i, 97 + j, e, g⟩ : Stp)] → s ∈ ss ∨ s = ⟨i, 97 + j, e, g⟩ := fun s hs => by simpa using hs
  refine ⟨⟨_, upd_same, (t2.steps ((t1.steps q).snoc (SqT.of upd_same)))⟩, fun s hs => ?_, ?_, fun s hs => ?_, fun s hs => ?_, ?_⟩
  · rcases mem s hs with hs | rfl
    · exact h.ok s hs
    · exact ⟨hi, by show 97 ≤ 97 + j; omega, by show 97 + j ≤ 100; omega, he, by show -(10 ^ 30) ≤ g; omega, by show g ≤ 10 ^ 30; omega⟩
  · refine List.pairwise_append.mpr ⟨h.up, List.pairwise_singleton _ _, fun s hs t ht => ?_⟩
    have ht' : t = ⟨i, 97 + j, e, g⟩ := by simpa using ht
    subst ht'
    rcases h.bd s hs with z | ⟨z, z'⟩
    · exact .inl z
    · exact .inr ⟨z, z'⟩
  · rcases mem s hs with hs | rfl
    · rcases h.bd s hs with z | ⟨z, z'⟩
      · exact .inl z
      · exact .inr ⟨z, by omega⟩
    · exact .inr ⟨rfl, by show 97 + j < 97 + (j + 1); omega⟩
  · rcases mem s hs with hs | rfl
    · exact h.gb s hs
    · exact ⟨g1, g2⟩
  · rw [List.length_append, List.length_singleton]
    have := h.len
    omega
section
variable {P : Program} {w : World} {K : PySem.W.Frag} {mg : Str → Option Value} {base : Heap}
theorem ok_law_parts (T : Txt K mg) : FnOk P w K mg base (L2.CX P w) 2 T.a_law_parts T.fd_law_parts ["_law_row", "_law_stands", "_law_size"] (sp_parts K) := by
  refine T.F_law_parts.okX sc_law_parts (fun vs H Q E h => ?_) (fun cdv A outer s H vs Q E hr h => ?_)
  · obtain ⟨a, st, sz, rfl, _⟩ := h
    rfl
  · obtain ⟨a, st, sz, rfl, st1, st8, sz0, sz1, R0, k⟩ := h
    refine ⟨_, (PSs.nox (pss_cons (ps_par (i := 3) (j := 4) (by rfl) sc_law_parts.nd rfl rfl (by decide) rfl rfl (pa_cons (pe_op op_add pe_int (pe_call (ok_law_taken T) (hr.mono (by decide)) (by rfl) T.m_law_taken T.k_law_taken T.b_law_taken .nil passL (pa_cons (pv 0) (pa_cons (pv 1) pa_nil)))) (pa_cons (pe_call (ok_law_taken T) (hr.mono (by decide)) (by rfl) T.m_law_taken T.k_law_taken T.b_law_taken .nil passL (pa_cons (pv 0) (pa_cons pe_int pa_nil))) pa_nil)) (by rfl))
  (pss_cons (ps_setLc (i := 5) (own := [("_law_stand", 13)]) (g := (gName 13)) (tt := tYes) rfl sc_law_parts.nd rfl rfl (sw_true rfl rfl rfl (by decide +kernel)) (pi_range1 (by rfl) T.z_range (pa_cons (pv 3) pa_nil)) (blkOk_by (own := [("_law_stand", 13)]) (N := ["_law_row", "_law_stands", "_law_size", "_law_many", "_law_kind", "_law_heights", "_law_steps", "_law_letters", "_law_begun", "_law_letter", "_law_end", "_law_gain", "_law_ends", "_law_stand"]) (sc := defScope s_law_parts) (by decide +kernel)) (fun _ _ _ _ _ => (pg_name (i := 13) sc_law_parts.nd rfl (Or.inl rfl))) (fun _ _ _ _ _ => pts_nil) (fun _ _ _ _ _ => (pe_op op_sub (pe_call (ok_law_taken T) (hr.mono (by decide)) (by rfl) T.m_law_taken T.k_law_taken T.b_law_taken .nil passL (pa_cons (pv 0) (pa_cons (pe_op op_add (pe_op op_mulW pe_int (pv 2)) pe_int) pa_nil))) (pv 2))))
  (pss_cons (ps_par (i := 6) (j := 7) (by rfl) sc_law_parts.nd rfl rfl (by decide) rfl rfl (pa_cons (pe_lst pa_nil) (pa_cons (pe_slice sl_str pe_str po_none (po_some (pe_op op_add pe_int (pe_call (ok_law_taken T) (hr.mono (by decide)) (by rfl) T.m_law_taken T.k_law_taken T.b_law_taken .nil passL (pa_cons (pv 0) (pa_cons pe_int pa_nil)))))) pa_nil)) (by rfl))
  (pss_cons (ps_for PassesOwn.never rfl (pi_range1 (by rfl) T.z_range (pa_cons (pv 3) pa_nil)) (pg_name (i := 8) sc_law_parts.nd rfl (Or.inl rfl))
  (pss_one (ps_for PassesOwn.never rfl (pi_str (pv 7)) (pg_name (i := 9) sc_law_parts.nd rfl (Or.inl rfl))
  (pss_one (ps_if (pt_cmpR op_gt (pe_call (ok_law_taken T) (hr.mono (by decide)) (by rfl) T.m_law_taken T.k_law_taken T.b_law_taken .nil passL (pa_cons (pv 0) (pa_cons pe_int pa_nil))) pe_int (nomark _))
  (pss_cons (ps_set (i := 10) sc_law_parts.nd rfl (Or.inl rfl) (pe_call (ok_law_taken T) (hr.mono (by decide)) (by rfl) T.m_law_taken T.k_law_taken T.b_law_taken .nil passL (pa_cons (pv 0) (pa_cons (pv 3) pa_nil))))
  (pss_cons (ps_set (i := 11) sc_law_parts.nd rfl (Or.inl rfl) (pe_op op_sub (pe_ix ix_list (pv 5) (pv 10) (fun _ _ => rfl)) (pe_ix ix_list (pv 5) (pv 8) (fun _ _ => rfl))))
  (C8.pss_cut (ps_if (PW.pt (pw_or (PW.pt (pw_and (pt_cmpR op_eq (pv 4) pe_int (nomark _)) (pw_and1 (pt_cmpR op_eq (pe_call (ok_law_taken T) (hr.mono (by decide)) (by rfl) T.m_law_taken T.k_law_taken T.b_law_taken .nil passL (pa_cons (pv 0) (pa_cons pe_int pa_nil))) pe_int (nomark _))))) (pw_or1 (pt_cmpR op_eq (pv 4) pe_int (nomark _)))))
  (pss_one (ps_set (i := 11) sc_law_parts.nd rfl (Or.inl rfl) (pe_op op_sub (pe_call (ok_law_taken T) (hr.mono (by decide)) (by rfl) T.m_law_taken T.k_law_taken T.b_law_taken .nil passL (pa_cons (pv 0) (pa_cons (pe_op op_add (pe_op op_mulW pe_int (pv 2)) pe_int) pa_nil))) (pv 2))))
  pss_nil)
  (C8.pss_cut (ps_if (PW.pt (pw_and (pt_cmpR op_eq (pv 4) pe_int (nomark _)) (pw_and1 (pt_cmpR op_eq (pe_call (ok_law_taken T) (hr.mono (by decide)) (by rfl) T.m_law_taken T.k_law_taken T.b_law_taken .nil passL (pa_cons (pv 0) (pa_cons pe_int pa_nil))) pe_int (nomark _)))))
  (pss_one (ps_set (i := 11) sc_law_parts.nd rfl (Or.inl rfl) (pe_op op_add (pv 11) pe_int)))
  pss_nil)
  (pss_one (ps_expr (pe_bm PySem.F.plainAttrs_list PySem.F.slot_list_append PySem.F.type_list_append mt_append (pv 6) (pa_cons (pe_tup (pa_cons (pv 8) (pa_cons (pv 9) (pa_cons (pv 10) (pa_cons (pv 11) pa_nil))))) pa_nil))))))))
  pss_nil)))))
  (pss_cons (ps_set (i := 12) sc_law_parts.nd rfl (Or.inl rfl) (pe_callTy call_tuple_of (by rfl) T.z_tuple PySem.Pv.boot_tuple (pa_cons (pe_lc (own := [("_law_stand", 13)]) (g := (gName 13)) rfl sc_law_parts.nd (pi_range1 (by rfl) T.z_range (pa_cons (pv 3) pa_nil)) (blkOk_by (own := [("_law_stand", 13)]) (N := ["_law_row", "_law_stands", "_law_size", "_law_many", "_law_kind", "_law_heights", "_law_steps", "_law_letters", "_law_begun", "_law_letter", "_law_end", "_law_gain", "_law_ends", "_law_stand"]) (sc := defScope s_law_parts) (by decide +kernel)) (fun _ _ _ _ _ => (pg_name (i := 13) sc_law_parts.nd rfl (Or.inl rfl))) (fun _ _ _ _ _ => (pts_one (pt_cmpR op_eq (pe_call (ok_law_taken T) (hr.mono (by decide)) (by rfl) T.m_law_taken T.k_law_taken T.b_law_taken .nil passL (pa_cons (pv 0) (pa_cons pe_int pa_nil))) pe_int (nomark _)))) (fun _ _ _ _ _ => (pv 13))) pa_nil)))
  (pss_one (ps_ret (pe_disp (pps_cons pe_str (pv 3) (pps_cons pe_str (pe_callTy call_tuple_of (by rfl) T.z_tuple PySem.Pv.boot_tuple (pa_cons (pv 6) pa_nil)) (pps_cons pe_str (pv 12) pps_nil))) (by rfl) (by rfl) (fun z => by cases z) (by decide)))))))))), ?_⟩
    walk_at "begin"
    walk_at "go"
    refine ⟨a, _, rfl, by omega, by omega, R0, fun x1 H1 x1a x1b R1 K1 => ?_⟩
    obtain ⟨y, rfl⟩ := Int.eq_ofNat_of_zero_le x1a
    walk_at "go"
    refine ⟨a, 4, rfl, by omega, by decide, R1, fun kind H2 kda kdb R2 K2 => ?_⟩
    walk_at "go"
    have en : (1 + (y : Int)) = ((y + 1 : Nat) : Int) := by omega
    rw [en]
    refine k_rg (by omega) (by omega) fun D hD => ?_
    have K02 := K1.trans K2
    have nD : a ≠ D := R2.ne hD
    have hD0 : H D = none := K02.free nD.symm hD
    have CM : CMulW 2 sz := wide_mul (a := 2) (b := 101) (by decide) (by omega) (by decide) (by decide) (by decide)
    have small : ∀ {hs : List Int} {i : Nat}, hs.length = i → i < 100 → (hs.map V.int).length < sizeLine := fun e q => by
      rw [List.length_map, e]
      exact Nat.lt_trans q (by decide)
    -- the heights
    refine lc_range (lo := 0) (n := (((y + 1 : Nat) : Int)).toNat) (fun i H' => Keep a H H' ∧ RowOk K H' a ∧ ∃ hs : List Int, H' D = some (.lst (hs.map V.int)) ∧ hs.length = i ∧ ∀ h ∈ hs, -sz ≤ h ∧ h ≤ sz)
      ⟨K02.trans (Keep.new hD), R2.same (Same.new hD), [], upd_same, rfl, fun _ h => absurd h (by simp)⟩ ?_ ?_
    · rintro i H3 hi ⟨K3, R3, hs, eD, hl, hb⟩
      walk_at "go"
      refine ⟨rfl, ?_⟩
      walk_at "go"
      refine iteT ?_
      walk_at "go"
      refine k_I CM ?_
      walk_at "go"
      refine ⟨a, _, rfl, by omega, by omega, R3, fun x H4 xa xb R4 K4 => ?_⟩
      walk_at "go"
      have eD4 := K4 _ _ nD.symm eD
      refine ⟨_, eD4, small hl (by omega), (K3.trans K4).mut hD0, R4.keep nD eD4 Keep.at_, hs ++ [x - sz], ?_, ?_, ?_⟩
      · rw [upd_same, List.map_append]; rfl
      · rw [List.length_append, hl]; rfl
      · intro h hh
        rcases List.mem_append.mp hh with hh | hh
        · exact hb h hh
        · have : h = x - sz := by simpa using hh
          omega
    · rintro H3 ⟨K3, R3, hs, eD, hl, hb⟩
      walk_at "go"
      refine ⟨Nat.zero_le _, fun l hl0 => ?_⟩
      have nl : a ≠ l := R3.ne hl0
      have hlH : H l = none := K3.free nl.symm hl0
      have nDl : D ≠ l := ne_of_none eD hl0
      walk_at "go"
      refine ⟨a, 4, rfl, by omega, by decide, R3.same (Same.new hl0), fun x2 H4 xa xb R4 K4 => ?_⟩
      obtain ⟨y2, rfl⟩ := Int.eq_ofNat_of_zero_le xa
      have en2 : (1 + (y2 : Int)) = ((y2 + 1 : Nat) : Int) := by omega
      walk_at "go"
      rw [en2]
      refine k_slS (by decide) ?_
      rw [abcd_cut (by omega) (by omega)]
      walk_at "go"
      refine k_rg (by omega) (by omega) ?_
      have K04 : Keep a H H4 := (K3.trans (Keep.new hl0)).trans K4
      have eD4 : H4 D = some (.lst (hs.map V.int)) := K4 _ _ nD.symm (Keep.new (a := a) hl0 _ _ nD.symm eD)
      have el4 : H4 l = some (.lst []) := K4 _ _ nl.symm upd_same
      clear K3 R3 eD K4
      -- the steps
      obtain ⟨LT, hLT⟩ : ∃ z : Str, z = ⟨(([97, 98, 99, 100] : List Nat).take (y2 + 1)).toArray⟩ := ⟨_, rfl⟩
      rw [← hLT]
      have nat : ∀ z : Nat, ((z : Int)).toNat = z := fun z => rfl
      refine for_range (lo := 0) (n := (((y + 1 : Nat) : Int)).toNat) (fun i σ H' => ∃ ss s8 s9 s10 s11, Keep a H H' ∧ RowOk K H' a ∧ H' D = some (.lst (hs.map V.int)) ∧ Sofar K H' l (y + 1) sz i 0 ss ∧
        σ = [some (.ref a), some (.int (st : Nat)), some (.int sz), some (.int ((y + 1 : Nat) : Int)), some (.int kind), some (.ref D), some (.ref l), some (.str LT), s8, s9, s10, s11, none, none])
        ⟨[], none, none, none, none, K04, R4, eD4, ⟨⟨[], el4, rfl, fun _ _ h => absurd h (by simp)⟩, fun _ h => absurd h (by simp), .nil, fun _ h => absurd h (by simp), fun _ h => absurd h (by simp), Nat.zero_le _⟩, rfl⟩ ?_ ?_
      · rintro i σ H5 hi ⟨ss, s8, s9, s10, s11, K5, R5, eD5, S5, rfl⟩
        walk_at "go"
        refine ⟨_, rfl, for_it walk_str (fun j σ H' => ∃ ss s9 s10 s11, Keep a H H' ∧ RowOk K H' a ∧ H' D = some (.lst (hs.map V.int)) ∧ Sofar K H' l (y + 1) sz i j ss ∧
          σ = [some (.ref a), some (.int (st : Nat)), some (.int sz), some (.int ((y + 1 : Nat) : Int)), some (.int kind), some (.ref D), some (.ref l), some (.str LT), some (.int (0 + (i : Nat))), s9, s10, s11, none, none])
          ⟨ss, s9, s10, s11, K5, R5, eD5, S5, rfl⟩ (fun _ _ _ _ _ => trivial) ?_ ?_⟩
        · rintro j x σ H6 H6' hj ⟨ss, s9, s10, s11, K6, R6, eD6, S6, rfl⟩ ⟨rfl, c, hc, rfl⟩
          have hc' : c = 97 + j ∧ j < 4 := by
            rw [hLT] at hc
            exact abcd_at hc
          obtain ⟨rfl, j4⟩ := hc'
          walk_at "go"
          refine ⟨a, 4, rfl, by omega, by decide, R6, fun x1 H7 _ _ R7 K7 => ?_⟩
          walk_at "go"
          have eD7 := K7 _ _ nD.symm eD6
          obtain ⟨lr, er6⟩ := R6.lst
          have S7 := S6.keep K7 er6 nl.symm
          refine k_ite (fun c1 => ?_) (fun c1 => ?_)
          · walk_at "go"
            refine ⟨a, _, rfl, by omega, by omega, R7, fun x2 H8 x2a x2b R8 K8 => ?_⟩
            obtain ⟨e, rfl⟩ := Int.eq_ofNat_of_zero_le x2a
            have eD8 := K8 _ _ nD.symm eD7
            obtain ⟨lr7, er7⟩ := R7.lst
            have S8 := S7.keep K8 er7 nl.symm
            walk_at "go"
            have le : e < hs.length := by rw [hl, nat]; omega
            have li : i < hs.length := by rw [hl, nat]; omega
            refine k_ixL (SqL.of eD8) (v := .int (hs[e]'le)) (at_of (j := e) rfl (by rw [List.getElem?_map, List.getElem?_eq_getElem le]; rfl)) ?_
            walk_at "go"
            refine k_ixL (SqL.of eD8) (v := .int (hs[i]'li)) (at_of (j := i) (by omega) (by rw [List.getElem?_map, List.getElem?_eq_getElem li]; rfl)) ?_
            have be := hb _ (List.getElem_mem le)
            have bi := hb _ (List.getElem_mem li)
            generalize hs[e]'le = he at be ⊢
            generalize hs[i]'li = hi' at bi ⊢
            walk_at "go"
            have K68 := (K6.trans K7).trans K8
            refine k_cut (fun σ' H' => ∃ g, -(2 * sz) ≤ g ∧ g ≤ 2 * sz ∧ Keep a H H' ∧ RowOk K H' a ∧ H' D = some (.lst (hs.map V.int)) ∧ Sofar K H' l (y + 1) sz i j ss ∧
              σ' = [some (.ref a), some (.int (st : Nat)), some (.int sz), some (.int ((y + 1 : Nat) : Int)), some (.int kind), some (.ref D), some (.ref l), some (.str LT), some (.int (0 + (i : Nat))), some (.str ⟨#[97 + j]⟩), some (.int (e : Nat)), some (.int g), none, none]) ?_ ?_
            · have old : ∀ H', Keep a H8 H' → RowOk K H' a → H' D = some (.lst (hs.map V.int)) ∧ Sofar K H' l (y + 1) sz i j ss := fun H' kk rr => by
                obtain ⟨lr8, er8⟩ := R8.lst
                exact ⟨kk _ _ nD.symm eD8, S8.keep kk er8 nl.symm⟩
              have draw : ∀ H9, Keep a H8 H9 → RowOk K H9 a → ∀ x H10, 0 ≤ x → x < 2 * sz + 1 → RowOk K H10 a → Keep a H9 H10 → -(2 * sz) ≤ x - sz ∧ x - sz ≤ 2 * sz ∧ Keep a H H10 ∧ RowOk K H10 a ∧ H10 D = some (.lst (hs.map V.int)) ∧ Sofar K H10 l (y + 1) sz i j ss := fun H9 k9 r9 x H10 x0 x1 r10 k10 => by
                have o := old H10 (k9.trans k10) r10
                exact ⟨by omega, by omega, (K68.trans k9).trans k10, r10, o.1, o.2⟩
              walk_at "go"
              refine k_ite (fun d1 => ?_) (fun d1 => ?_)
              · walk_at "go"
                refine ⟨a, 4, rfl, by omega, by decide, R8, fun x3 H9 _ _ R9 K9 => ?_⟩
                walk_at "go"
                refine k_ite (fun d2 => ?_) (fun d2 => ?_)
                · refine iteT ?_
                  walk_at "go"
                  refine k_I CM ?_
                  walk_at "go"
                  refine ⟨a, _, rfl, by omega, by omega, R9, fun x4 H10 x4a x4b R10 K10 => ?_⟩
                  walk_at "go"
                  obtain ⟨q1, q2, q3, q4, q5, q6⟩ := draw H9 K9 R9 x4 H10 x4a x4b R10 K10
                  exact ⟨_, q1, q2, q3, q4, q5, q6, rfl⟩
                · walk_at "go"
                  refine k_ite (fun d3 => ?_) (fun d3 => ?_)
                  · rw [d1] at d3; exact absurd d3 (by decide)
                  · walk_at "go"
                    exact ⟨_, by omega, by omega, K68.trans K9, R9, (old H9 K9 R9).1, (old H9 K9 R9).2, rfl⟩
              · refine iteF ?_
                walk_at "go"
                refine k_ite (fun d3 => ?_) (fun d3 => ?_)
                · walk_at "go"
                  refine k_I CM ?_
                  walk_at "go"
                  refine ⟨a, _, rfl, by omega, by omega, R8, fun x4 H10 x4a x4b R10 K10 => ?_⟩
                  walk_at "go"
                  obtain ⟨q1, q2, q3, q4, q5, q6⟩ := draw H8 (Keep.refl _ _) R8 x4 H10 x4a x4b R10 K10
                  exact ⟨_, q1, q2, q3, q4, q5, q6, rfl⟩
                · walk_at "go"
                  exact ⟨_, by omega, by omega, K68, R8, eD8, S8, rfl⟩
            · rintro σ' H9 ⟨g, g1, g2, K9, R9, eD9, S9, rfl⟩
              refine k_cut (fun σ' H' => ∃ g, -(2 * sz + 1) ≤ g ∧ g ≤ 2 * sz + 1 ∧ Keep a H H' ∧ RowOk K H' a ∧ H' D = some (.lst (hs.map V.int)) ∧ Sofar K H' l (y + 1) sz i j ss ∧
                σ' = [some (.ref a), some (.int (st : Nat)), some (.int sz), some (.int ((y + 1 : Nat) : Int)), some (.int kind), some (.ref D), some (.ref l), some (.str LT), some (.int (0 + (i : Nat))), some (.str ⟨#[97 + j]⟩), some (.int (e : Nat)), some (.int g), none, none]) ?_ ?_
              · walk_at "go"
                refine k_ite (fun d1 => ?_) (fun d1 => ?_)
                · walk_at "go"
                  refine ⟨a, 3, rfl, by omega, by decide, R9, fun x3 H10 _ _ R10 K10 => ?_⟩
                  obtain ⟨lr9, er9⟩ := R9.lst
                  have eD10 := K10 _ _ nD.symm eD9
                  have S10 := S9.keep K10 er9 nl.symm
                  walk_at "go"
                  refine k_ite (fun d2 => ?_) (fun d2 => ?_)
                  · walk_at "go"
                    exact ⟨_, by omega, by omega, K9.trans K10, R10, eD10, S10, rfl⟩
                  · walk_at "go"
                    exact ⟨_, by omega, by omega, K9.trans K10, R10, eD10, S10, rfl⟩
                · refine iteF ?_
                  walk_at "go"
                  exact ⟨_, by omega, by omega, K9, R9, eD9, S9, rfl⟩
              · rintro σ' H10 ⟨g, g1, g2, K10, R10, eD10, S10, rfl⟩
                walk_at "go"
                obtain ⟨vs10, el10, _⟩ := S10.at_
                refine ⟨.inl ⟨rfl, _, SqL.of el10⟩, ?_⟩
                walk_at "go"
                refine ⟨(by decide : 4 ≤ sizeLine), fun p hp => ?_⟩
                have z0 : (0 + (i : Nat) : Int) = ((i : Nat) : Int) := by omega
                rw [z0]
                walk_at "go"
                have npl : l ≠ p := ne_of_none el10 hp
                have npD : D ≠ p := ne_of_none eD10 hp
                have el11 : (upd H10 p (.tup [.int (i : Nat), .str ⟨#[97 + j]⟩, .int (e : Nat), .int g])) l = some (.lst vs10) := by rw [upd_ne npl]; exact el10
                have lv : vs10.length < sizeLine := by
                  obtain ⟨vs', e', q'⟩ := S10.at_
                  rw [el10] at e'
                  cases e'
                  have := S10.len
                  have : vs10.length < 100 := by rw [q'.1]; omega
                  exact Nat.lt_trans this (by decide)
                refine k_append el11 lv ?_
                walk_at "go"
                have S11 := S10.snoc hp (by omega) j4 (show e < y + 1 by omega) sz1 g1 g2 vs10 el10
                have R11 := R10.same (Same.new (o := .tup [.int (i : Nat), .str ⟨#[97 + j]⟩, .int (e : Nat), .int g]) hp)
                refine ⟨_, some (.str ⟨#[97 + j]⟩), some (.int (e : Nat)), some (.int g), (K10.trans (Keep.new hp)).mut hlH, R11.keep nl el11 Keep.at_, ?_, S11, ?_⟩
                · rw [upd_ne nDl, upd_ne npD]; exact eD10
                · rfl
          · walk_at "go"
            exact ⟨ss, _, _, _, K6.trans K7, R7, eD7, S7.more (Nat.le_succ _), rfl⟩
        · rintro σ H6 ⟨ss, s9, s10, s11, K6, R6, eD6, S6, rfl⟩
          refine ⟨ss, _, _, _, _, K6, R6, eD6, S6.line ?_, rfl⟩
          rw [hLT]
          simp
          omega
      · rintro σ H5 ⟨ss, s8, s9, s10, s11, K5, R5, eD5, S5, rfl⟩
        obtain ⟨vs, el5, q5⟩ := S5.at_
        walk_at "go"
        refine k_rg (by omega) (by omega) fun B hB => ?_
        have nB : a ≠ B := R5.ne hB
        have hB0 : H B = none := K5.free nB.symm hB
        have nlB : l ≠ B := ne_of_none el5 hB
        -- the ends
        refine lc_range (lo := 0) (n := (((y + 1 : Nat) : Int)).toNat) (fun i H' => Keep a H H' ∧ RowOk K H' a ∧ H' l = some (.lst vs) ∧ StpsAt K H' vs ss ∧ ∃ es : List Nat, H' B = some (.lst (nats es)) ∧ es.length ≤ i ∧ (∀ e ∈ es, e < i) ∧ es.Pairwise (· < ·))
          ⟨K5.trans (Keep.new hB), R5.same (Same.new hB), by rw [upd_ne nlB]; exact el5, (Tups.new hB).steps q5, [], upd_same, Nat.le_refl _, fun _ h => absurd h (by simp), .nil⟩ ?_ ?_
        · rintro i H6 hi ⟨K6, R6, el6, q6, es, eB, h1, h2, h3⟩
          obtain ⟨lr6, er6⟩ := R6.lst
          walk_at "go"
          refine ⟨rfl, ?_⟩
          walk_at "go"
          refine ⟨a, 2, rfl, by omega, by decide, R6, fun x H7 _ _ R7 K7 => ?_⟩
          have eB7 := K7 _ _ nB.symm eB
          have el7 := K7 _ _ nl.symm el6
          have q7 := (K7.tups er6).steps q6
          walk_at "go"
          refine k_ite (fun c => ?_) (fun c => ?_)
          · walk_at "go"
            have z0 : (0 + (i : Nat) : Int) = ((i : Nat) : Int) := by omega
            rw [z0]
            refine ⟨_, eB7, ?_, (K6.trans K7).mut hB0, R7.keep nB eB7 Keep.at_, by rw [upd_ne nlB]; exact el7, (Tups.lst eB7).steps q7, es ++ [i], ?_, ?_, ?_, ?_⟩
            · have : (nats es).length < 100 := by unfold nats; rw [List.length_map]; omega
              exact Nat.lt_trans this (by decide)
            · rw [upd_same]; unfold nats; rw [List.map_append]; rfl
            · rw [List.length_append]; simp; omega
            · intro e he
              rcases List.mem_append.mp he with he | he
              · have := h2 e he; omega
              · have : e = i := by simpa using he
                omega
            · refine List.pairwise_append.mpr ⟨h3, List.pairwise_singleton _ _, fun e he f hf => ?_⟩
              have : f = i := by simpa using hf
              have := h2 e he
              omega
          · exact ⟨K6.trans K7, R7, el7, q7, es, eB7, by omega, fun e he => by have := h2 e he; omega, h3⟩
        · rintro H6 ⟨K6, R6, el6, q6, es, eB, h1, h2, h3⟩
          walk_at "go"
          refine ⟨B, _, rfl, .inl ⟨SqL.of eB, fun u hu => ?_⟩⟩
          have nu : a ≠ u := R6.ne hu
          have K7 := K6.trans (Keep.new (o := .tup (nats es)) hu)
          have R7 := R6.same (Same.new (o := .tup (nats es)) hu)
          have el7 : (upd H6 u (.tup (nats es))) l = some (.lst vs) := by rw [upd_ne (ne_of_none el6 hu)]; exact el6
          have q7 := (Tups.new (o := .tup (nats es)) hu).steps q6
          walk_at "go"
          intro d hd
          have K8 := K7.trans (Keep.new (o := .dK []) hd)
          have R8 := R7.same (Same.new (o := .dK []) hd)
          have el8 : (upd (upd H6 u (.tup (nats es))) d (.dK [])) l = some (.lst vs) := by rw [upd_ne (ne_of_none el7 hd)]; exact el7
          have q8 := (Tups.new (o := .dK []) hd).steps q7
          have hd0 : H d = none := K7.free (R7.ne hd).symm hd
          walk_at "go"
          refine ⟨l, vs, rfl, .inl ⟨SqL.of el8, fun t ht => ?_⟩⟩
          walk_at "go"
          have ntd : d ≠ t := ne_of_none upd_same ht
          have e1 : (upd (upd (upd H6 u (.tup (nats es))) d (.dK [])) t (.tup vs)) d = some (.dK []) := by rw [upd_ne ntd, upd_same]
          refine ⟨e1, [(.inr "stands", .int ((y + 1 : Nat) : Int)), (.inr "steps", .ref t), (.inr "ends", .ref u)], rfl, (by decide : 3 ≤ 15), ?_⟩
          have em : mergeK [] [((.inr "stands" : Key), V.int ((y + 1 : Nat) : Int)), (.inr "steps", .ref t), (.inr "ends", .ref u)] = [(.inr "stands", .int ((y + 1 : Nat) : Int)), (.inr "steps", .ref t), (.inr "ends", .ref u)] := rfl
          rw [em]
          have t9 : Tups (upd (upd H6 u (.tup (nats es))) d (.dK [])) (upd (upd (upd H6 u (.tup (nats es))) d (.dK [])) t (.tup vs)) := Tups.new ht
          have nuD : u ≠ d := ne_of_none (upd_same (H := H6) (o := .tup (nats es))) hd
          have t10 : Tups (upd (upd (upd H6 u (.tup (nats es))) d (.dK [])) t (.tup vs)) (upd (upd (upd (upd H6 u (.tup (nats es))) d (.dK [])) t (.tup vs)) d (.dK [(.inr "stands", .int ((y + 1 : Nat) : Int)), (.inr "steps", .ref t), (.inr "ends", .ref u)])) :=
            ⟨fun b xs e => by rw [upd_ne (fun z => by rw [z, e1] at e; cases e)]; exact e, fun b o xs e => by rw [upd_ne (fun z => by rw [z, e1] at e; cases e)]; exact e⟩
          refine k d ⟨y + 1, ss, es⟩ _ ⟨by show 1 ≤ y + 1; omega, by show y + 1 ≤ 8; omega, S5.ok, S5.up, ?_, fun e he => ?_, h3, ?_⟩ (by show y + 1 ≤ st; omega) S5.gb ⟨t, u, upd_same, ⟨vs, t10.sq (SqT.of upd_same), (t10.steps (t9.steps q8))⟩, ?_⟩ ?_ ?_ hd0
          · have := S5.len
            show ss.length ≤ 32
            rw [nat] at this
            omega
          · have := h2 e he
            rw [nat] at this
            exact this
          · show es.length ≤ 8
            rw [nat] at h1
            omega
          · exact t10.sq (t9.sq ((Tups.new (o := .dK []) hd).sq (SqT.of upd_same)))
          · have R9 := R8.same (Same.new (o := .tup vs) ht)
            obtain ⟨sc, ns, i, z, r, e, q, rest⟩ := R9
            have nad : a ≠ d := R7.ne hd
            refine ⟨sc, ns, i, z, r, by rw [upd_ne nad]; exact e, ?_, rest⟩
            rcases q with ⟨o, q⟩ | q
            · exact .inl ⟨o, by rw [upd_ne (fun z => by rw [z, e1] at q; cases q)]; exact q⟩
            · exact .inr q
          · exact (K8.trans (Keep.new ht)).mut hd0
end
/-! ### name = {k: v for ..} -/
theorem sw_trueD {kx vx : Expr} {gs : List Comprehension} {scope : Scope} {pos py : Pos} {y : Str} {n : Nat} {env : Env} (hk : env.scope.kind = .function) (hy : env.scope.names.lookup y = some .local) (hl : (py.line == pos.line) = true)
    (ha : (scope.names.any fun (m, c) => m == y && (c == .local || c == .cell)) = false) : swapsWith (.DictComp kx vx gs scope pos) (some (.Name y py)) n env = pure true := by
  have k1 : env.kindOf y = some .local := hy
  have k2 : env.blockKind = .function := by
    unfold Env.blockKind
    rw [hk]
    rfl
  unfold swapsWith
  simp only [k1, k2, ha, Expr.pos, hl]
  rfl
section
variable {X : Cx}
theorem ps_setDc {i : Nat} {y : Str} {py : Pos} {kx vx tg it : Expr} {ifs : List Expr} {scope : Scope} {own : List (Str × Nat)} {pos sp : Pos} {wi : TI} {g : TG} {tt : TT} {tk tv : TE} (hc : X.calm = true) (hN : X.N.Nodup)
    (hy : X.N[i]? = some y) (hyl : X.env.scope.names.lookup y = some .local) (hsw : swapsWith (.DictComp kx vx [⟨tg, it, ifs, 0⟩] scope pos) (some (.Name y py)) sp.line X.env = pure true)
    (hi : PI X tg it wi) (ok : BlkOk X.N X.env.scope scope own)
    (hg : ∀ (s : Shared) (H : Hp) (C : Addr) (cl : List (Str × Addr)) (fp : List Addr), PG (X.blk s H scope (compEnvC scope cl C X.env) fp) tg g)
    (ht : ∀ (s : Shared) (H : Hp) (C : Addr) (cl : List (Str × Addr)) (fp : List Addr), PTs (X.blk s H scope (compEnvC scope cl C X.env) fp) ifs tt)
    (hk : ∀ (s : Shared) (H : Hp) (C : Addr) (cl : List (Str × Addr)) (fp : List Addr), PE (X.blk s H scope (compEnvC scope cl C X.env) fp) kx tk)
    (hv : ∀ (s : Shared) (H : Hp) (C : Addr) (cl : List (Str × Addr)) (fp : List Addr), PE (X.blk s H scope (compEnvC scope cl C X.env) fp) vx tv)
    (hs : ∀ x, foldedSetIterable it X.env x = pure x := by intro _; rfl) :
    PS X (.Assign [.Name y py] (.DictComp kx vx [⟨tg, it, ifs, 0⟩] scope pos) sp) (tAsg (tDc wi g tt tk tv (own.map (·.2))) (gName i)) := by
  constructor
  intro pins s σ H D I h
  rw [exec_Assign_Name_used _ _ _ _ hsw]
  refine wpAny_bind (wpAny_standAt (wpAny_bind ?_))
  show wpAny _ X.A (do let _ ← comprehension (.DictComp kx vx [⟨tg, it, ifs, 0⟩] scope pos) scope X.env (firstIterPos [⟨tg, it, ifs, 0⟩] pos) newDict false (eval it X.env) (some (assign (.Name y py) X.env))) _ _ s
  have h' : tDc wi g tt tk tv (own.map (·.2)) σ H (fun x H1 => gName i x σ H1 D.nx) := h
  refine wpAny_bind (thn (dc_core (Qf := fun _ s' => SP X pins D .next s') hc hN I hi ok hg ht hk hv hs h' ?_) fun _ s' hq => wpAny_pure (wpAny_pure hq))
  intro L C s' m H' I' q hn f
  show wpAny _ _ (assign (.Name y py) X.env (.ref L)) _ _ _
  refine wpAny_assign_Name (store_ok2 (v := V.ref L) I' hN hy (.inl hyl) rfl ?_ (.inr hyl))
  rintro s2 I2 ⟨a, sb, ha⟩
  obtain ⟨f0, f1, f2, f3, f4, f5⟩ := f
  have ne : C ≠ a := by
    rcases ha with z | z
    · rw [z]; exact f1
    · exact fun e => f4 y a z e.symm
  exact ⟨m, hn.sameBut sb ne, fun h3 sb3 => ⟨_, H', I2.turned (t' := s2.toks) (fun b o hb e => (sb3.2 b hb).trans e) f0 f1 f3 f4 f5, q⟩⟩
/-- over a list that stays -/
theorem dc_lst {K : PySem.W.Frag} {a : Addr} {xs : List V} {g : TG} {tt : TT} {tk tv : TE} {vs : List Nat} {σ : L2.St} {H1 : Hp} {D : Addr} {Qd : Hp → Prop} (Pv : Nat → Hp → Prop) (h0 : Pv 0 (upd H1 D (.dK [])))
    (hl : ∀ i H, i ≤ xs.length → Pv i H → SqL K H a xs)
    (hs : ∀ i x H, xs[i]? = some x → Pv i H → g x (wipe σ vs) H fun σ2 H2 => wipe σ2 vs = wipe σ vs ∧ tt σ2 H2 fun b H3 =>
      if b = true then tk σ2 H3 fun y H4 => tv σ2 H4 fun z H5 => ∃ kvs k, y = kV k ∧ H5 D = some (.dK kvs) ∧ kvs.length < sizeLine ∧ Pv (i + 1) (upd H5 D (.dK (putK kvs k z))) else Pv (i + 1) H3) (hd : ∀ H, Pv xs.length H → Qd H) :
    ∃ W : Nat → Nat → Hp → Prop, (∃ m, W 0 m (upd H1 D (.dK []))) ∧ ∀ i m H, W i m H → ((Itl K a).stop i H ∧ Qd H) ∨
      ((Itl K a).go i H ∧ ∃ Nx : Hp → Prop, (∀ H', Nx H' → ∃ m', m' < m ∧ W (i + 1) m' H') ∧ ∀ x H', (Itl K a).yld i H x H' → g x (wipe σ vs) H' fun σ2 H2 => wipe σ2 vs = wipe σ vs ∧ tt σ2 H2 fun b H3 =>
        if b = true then tk σ2 H3 fun y H4 => tv σ2 H4 fun z H5 => ∃ kvs k, y = kV k ∧ H5 D = some (.dK kvs) ∧ kvs.length < sizeLine ∧ Nx (upd H5 D (.dK (putK kvs k z))) else Nx H3) := by
  refine ⟨fun i m H => m + i = xs.length ∧ Pv i H, ⟨xs.length, by simp, h0⟩, fun i m H ⟨em, hP⟩ => ?_⟩
  have sq := hl i H (by omega) hP
  by_cases c : i < xs.length
  · refine .inr ⟨⟨xs, xs[i], sq, List.getElem?_eq_getElem c⟩, Pv (i + 1), fun H' z => ⟨m - 1, by omega, by omega, z⟩, ?_⟩
    rintro x H' ⟨rfl, hx⟩
    exact hs i x _ (hx xs sq) hP
  · have e : i = xs.length := by omega
    exact .inl ⟨⟨xs, sq, by omega⟩, hd H (e ▸ hP)⟩
end
/-! ### rows by their codes; what is best so far, by stand -/
abbrev Wd := List Nat
def sOf (w : Wd) : Str := ⟨w.toArray⟩
theorem sOf_snoc (w : Wd) (c : Nat) : sOf w ++ ⟨#[c]⟩ = sOf (w ++ [c]) := by
  show Str.mk (w.toArray ++ #[c]) = _
  rw [List.append_toArray]
  rfl
theorem sOf_len (w : Wd) : (sOf w).length = w.length := by
  show w.toArray.size = _
  simp
theorem sOf_cps (w : Wd) : (sOf w).cps.toList = w := rfl
theorem sOf_inj {v w : Wd} (h : sOf v = sOf w) : v = w := by
  have := congrArg (fun s => s.cps.toList) h
  exact this
abbrev RF := Nat → Option (Int × Wd)
def better (x : Int × Wd) : Option (Int × Wd) → Bool
  | none => true
  | some y => decide (y.1 < x.1) || (decide (x.1 = y.1) && decide (x.2 < y.2))
def RF.put (f : RF) (k : Nat) (x : Int × Wd) : RF := fun j => if j = k then some x else f j
def turnL (sg : Int) (f acc : RF) (s : Stp) : RF := match f s.b with
  | none => acc
  | some y => if better (y.1 + sg * s.g, y.2 ++ [s.c]) (acc s.e) = true then acc.put s.e (y.1 + sg * s.g, y.2 ++ [s.c]) else acc
def longer (sg : Int) (f : RF) (ss : List Stp) : RF := ss.foldl (turnL sg f) fun _ => none
/-! ### dicts from stands to tuples -/
def ent2 (x : Int × Wd) : List V := [.int x.1, .str (sOf x.2)]
def E2 (f : RF) : Nat → Option (List V) := fun n => (f n).map ent2
def KvOk (K : PySem.W.Frag) (H : Hp) (kvs : List (Key × V)) (e : Nat → Option (List V)) : Prop :=
  (∀ p ∈ kvs, ∃ n : Nat, p.1 = .inl (n : Int)) ∧ ∀ n : Nat, (e n = none → valV kvs (.inl (n : Int)) = none) ∧ ∀ l, e n = some l → ∃ p, valV kvs (.inl (n : Int)) = some (.ref p) ∧ SqT K H p l
section
variable {K : PySem.W.Frag} {H H' : Hp} {kvs : List (Key × V)} {e : Nat → Option (List V)}
theorem KvOk.tups (h : KvOk K H kvs e) (t : Tups H H') : KvOk K H' kvs e := ⟨h.1, fun n => ⟨(h.2 n).1, fun l el => let ⟨p, q, z⟩ := (h.2 n).2 l el; ⟨p, q, t.sq z⟩⟩⟩
theorem KvOk.nil : KvOk K H [] fun _ => none := ⟨fun _ h => absurd h (by simp), fun n => ⟨fun _ => rfl, fun l h => by cases h⟩⟩
theorem KvOk.put {n : Nat} {p : Addr} {l : List V} (h : KvOk K H kvs e) (hp : SqT K H p l) : KvOk K H (putK kvs (.inl (n : Int)) (.ref p)) fun j => if j = n then some l else e j := by
  refine ⟨fun q hq => ?_, fun j => ?_⟩
  · unfold putK at hq
    split at hq
    · obtain ⟨r, hr, rfl⟩ := List.mem_map.mp hq
      split
      · rename_i z; exact ⟨n, z⟩
      · exact h.1 r hr
    · rcases List.mem_append.mp hq with hq | hq
      · exact h.1 q hq
      · have : q = (.inl (n : Int), .ref p) := by simpa using hq
        exact ⟨n, by rw [this]⟩
  · rw [valV_put]
    by_cases c : j = n
    · have c' : (Sum.inl (j : Int) : Key) = .inl (n : Int) := by rw [c]
      simp only [if_pos c, if_pos c']
      refine ⟨fun z => (by cases z), fun l' el => ?_⟩
      cases el
      exact ⟨p, rfl, hp⟩
    · have c' : ¬ (Sum.inl (j : Int) : Key) = .inl (n : Int) := fun z => c (by injection z with z; omega)
      simp only [if_neg c, if_neg c']
      exact h.2 j
theorem KvOk.congr {e' : Nat → Option (List V)} (h : KvOk K H kvs e) (q : ∀ n, e n = e' n) : KvOk K H kvs e' := (funext q : e = e') ▸ h
end
theorem E2_put (f : RF) (k : Nat) (x : Int × Wd) (n : Nat) : (if n = k then some (ent2 x) else E2 f n) = E2 (f.put k x) n := by
  unfold E2 RF.put
  by_cases c : n = k
  · rw [if_pos c, if_pos c]; rfl
  · rw [if_neg c, if_neg c]
theorem Same.mut {p : Addr} {H H' : Hp} {o : HO} (x : Same H H') (hp : H p = none) : Same H (upd H' p o) := fun b u h => by rw [upd_ne (ne_of_none h hp)]; exact x b u h
theorem Tups.dk {p : Addr} {H : Hp} {kvs : List (Key × V)} {o : HO} (h : H p = some (.dK kvs)) : Tups H (upd H p o) :=
  ⟨fun b xs e => by rw [upd_ne (fun z => by rw [z, h] at e; cases e)]; exact e, fun b _ xs e => by rw [upd_ne (fun z => by rw [z, h] at e; cases e)]; exact e⟩
theorem take_fold {α β : Type} (f : β → α → β) (z : β) {l : List α} {i : Nat} {x : α} (h : l[i]? = some x) : (l.take (i + 1)).foldl f z = f ((l.take i).foldl f z) x := by
  rw [List.take_add_one, h, List.foldl_append]
  rfl
/-! ### the parts read off a machine -/
section
variable {P : Program} {w : World} {K : PySem.W.Frag} {mg : Str → Option Value} {base : Heap}
theorem ok_Machine_stands (T : Txt K mg) : FnOk P w K mg base (L2.CX P w) 1 T.a_Machine_stands T.fd_Machine_stands ["self"] (getSp T.c_Machine "_stands") := by
  refine T.F_Machine_stands.okX sc_Machine_stands (fun vs H Q E h => ?_) (fun cdv A outer s H vs Q E hr h => ?_)
  · obtain ⟨a, dx, fs, v, rfl, _⟩ := h
    rfl
  · obtain ⟨a, dx, fs, v, rfl, ha, hl, k⟩ := h
    refine ⟨_, (PSs.nox (pss_one (ps_ret (pe_fld (pv 0) rfl)))), ?_⟩
    exact ⟨_, rfl, a, _, dx, fs, v, rfl, ha, T.cl_Machine, T.n__stands, hl, k⟩
theorem ok_Machine_steps (T : Txt K mg) : FnOk P w K mg base (L2.CX P w) 1 T.a_Machine_steps T.fd_Machine_steps ["self"] (getSp T.c_Machine "_steps") := by
  refine T.F_Machine_steps.okX sc_Machine_steps (fun vs H Q E h => ?_) (fun cdv A outer s H vs Q E hr h => ?_)
  · obtain ⟨a, dx, fs, v, rfl, _⟩ := h
    rfl
  · obtain ⟨a, dx, fs, v, rfl, ha, hl, k⟩ := h
    refine ⟨_, (PSs.nox (pss_one (ps_ret (pe_fld (pv 0) rfl)))), ?_⟩
    exact ⟨_, rfl, a, _, dx, fs, v, rfl, ha, T.cl_Machine, T.n__steps, hl, k⟩
end
/-! ### the parts read off a machine; the next length's best rows -/
def rLtS : R2 := fun x y H Q => ∃ i j, x = .str i ∧ y = .str j ∧ Q (.bl (decide (i.cps.toList < j.cps.toList))) H
theorem test_better {K : PySem.W.Frag} {σ : L2.St} {H : Hp} {R : Bool → Hp → Prop} {D : Addr} {kvs : List (Key × V)} {acc : RF} {e : Nat} {x : Int × Wd} (hD : H D = some (.dK kvs)) (ok : KvOk K H kvs (E2 acc))
    (h3 : σ[3]? = some (some (.ref D))) (h6 : σ[6]? = some (some (.int (e : Nat)))) (h8 : σ[8]? = some (some (.int x.1))) (h9 : σ[9]? = some (some (.str (sOf x.2)))) (h : R (better x (acc e)) H) :
    tOr (tB (tDNotIn (tVar 6) (tVar 3))) (tOr (tTest (tOp (rI0 fun i j => V.bl (decide (j < i))) (tVar 8) (tOp (rIxT K) (tDGet (tVar 3) (tVar 6)) (tC (.int 0)))))
      (tAnd (tTest (tOp rEq (tVar 8) (tOp (rIxT K) (tDGet (tVar 3) (tVar 6)) (tC (.int 0))))) (tTest (tOp rLtS (tVar 9) (tOp (rIxT K) (tDGet (tVar 3) (tVar 6)) (tC (.int 1))))))) σ H R := by
  have dg : DGet H D (.int (e : Nat)) (valV kvs (.inl (e : Int))) := DGet.k (k := .inl (e : Int)) hD
  refine k_or (k_tB (k_dnotin (k_var h6 (k_var h3 ⟨D, _, rfl, dg, k_bl ?_⟩))))
  cases ea : acc e with
  | none =>
    have z := (ok.2 e).1 (by unfold E2; rw [ea]; rfl)
    rw [z]
    refine iteT ?_
    rw [ea] at h
    exact h
  | some y =>
    obtain ⟨p, z, sq⟩ := (ok.2 e).2 (ent2 y) (by unfold E2; rw [ea]; rfl)
    rw [ea] at h
    rw [z] at dg ⊢
    have at0 : ∀ {Q : VK}, Q (.int y.1) H → tOp (rIxT K) (tDGet (tVar 3) (tVar 6)) (tC (.int 0)) σ H Q := fun q => k_op (k_dget (k_var h3 (k_var h6 ⟨D, _, rfl, dg, k_c (k_ixT sq (v := .int y.1) rfl q)⟩)))
    have at1 : ∀ {Q : VK}, Q (.str (sOf y.2)) H → tOp (rIxT K) (tDGet (tVar 3) (tVar 6)) (tC (.int 1)) σ H Q := fun q => k_op (k_dget (k_var h3 (k_var h6 ⟨D, _, rfl, dg, k_c (k_ixT sq (v := .str (sOf y.2)) rfl q)⟩)))
    refine iteF (k_or (k_test (k_op (k_var h8 (at0 (k_I0 (k_bl ?_)))))))
    have hb : better x (some y) = (decide (y.1 < x.1) || (decide (x.1 = y.1) && decide (x.2 < y.2))) := rfl
    rw [hb] at h
    refine k_ite (fun c => ?_) (fun c => ?_)
    · rw [decide_eq_true c, Bool.true_or] at h
      exact h
    · rw [decide_eq_false c, Bool.false_or] at h
      refine k_and (k_test (k_op (k_var h8 (at0 (k_eq rfl (k_bl ?_))))))
      refine k_ite (fun d => ?_) (fun d => ?_)
      · have d' : x.1 = y.1 := by injection d
        rw [decide_eq_true d', Bool.true_and] at h
        refine k_test (k_op (k_var h9 (at1 ⟨_, _, rfl, rfl, k_bl ?_⟩)))
        exact h
      · have d' : ¬ x.1 = y.1 := fun z => d (by rw [z])
        rw [decide_eq_false d', Bool.false_and] at h
        exact h
def Sgn (sg : Int) : Prop := sg = 1 ∨ sg = -1 ∨ sg = 0
theorem Sgn.of {sg : Int} (h : sg = 1 ∨ sg = -1) : Sgn sg := by rcases h with h | h; exact .inl h; exact .inr (.inl h)
def sp_longer (K : PySem.W.Frag) : Sp := fun vs H Q _ => ∃ (t r : Addr) (sg : Int) (N : Nat) (ss : List Stp) (f : RF) (kvs : List (Key × V)), vs = [.ref t, .int sg, .ref r] ∧ StSq K H t ss ∧ SsOk N ss ∧ H r = some (.dK kvs) ∧ KvOk K H kvs (E2 f) ∧
  Sgn sg ∧ (∀ n y, f n = some y → y.2.length ≤ 64) ∧ ∀ p kvs' H', Same H H' → H p = none → H' p = some (.dK kvs') → KvOk K H' kvs' (E2 (longer sg f ss)) → kvs'.length ≤ 300 → Q (.ref p) H'
section
variable {P : Program} {w : World} {K : PySem.W.Frag} {mg : Str → Option Value} {base : Heap}
theorem ok_longer_rows (T : Txt K mg) : FnOk P w K mg base (L2.CX P w) 3 T.a_longer_rows T.fd_longer_rows ["steps", "sign", "rows"] (sp_longer K) := by
  refine T.F_longer_rows.okX sc_longer_rows (fun vs H Q E h => ?_) (fun cdv A outer s H vs Q E hr h => ?_)
  · obtain ⟨t, r, sg, N, ss, f, kvs, rfl, _⟩ := h
    rfl
  · obtain ⟨t, r, sg, N, ss, f, kvs, rfl, ⟨us, ht, hs⟩, o, hr0, hf, hsg, hw, k⟩ := h
    refine ⟨_, (PSs.nox (pss_cons (ps_set (i := 3) sc_longer_rows.nd rfl (Or.inl rfl) pe_dnewK)
  (pss_cons (ps_for PassesOwn.never rfl (pi_sq (pv 0)) (pg_tup rfl (pgs_cons (pg_name (i := 4) sc_longer_rows.nd rfl (Or.inl rfl)) (pgs_cons (pg_name (i := 5) sc_longer_rows.nd rfl (Or.inl rfl)) (pgs_cons (pg_name (i := 6) sc_longer_rows.nd rfl (Or.inl rfl)) (pgs_cons (pg_name (i := 7) sc_longer_rows.nd rfl (Or.inl rfl)) pgs_nil)))))
  (pss_one (ps_if (pt_cmp (pc_din (hu_of hr) (pv 4) (pv 2)) (by rfl))
  (pss_cons (ps_asg (pe_dget (hu_of hr) (pv 2) (pv 4) (fun _ _ => rfl)) (pg_tup rfl (pgs_cons (pg_name (i := 8) sc_longer_rows.nd rfl (Or.inl rfl)) (pgs_cons (pg_name (i := 9) sc_longer_rows.nd rfl (Or.inl rfl)) pgs_nil))))
  (pss_cons (ps_aug (i := 8) sc_longer_rows.nd rfl (Or.inl rfl) (pe_op op_mulW (pv 1) (pv 7)) ip_add)
  (pss_cons (ps_aug (i := 9) sc_longer_rows.nd rfl (Or.inl rfl) (pv 5) iop_add_str)
  (pss_one (ps_if (PW.pt (pw_or (pt_cmp (pc_dnotin (hu_of hr) (pv 6) (pv 3)) (by rfl)) (pw_or (pt_cmpR op_gt (pv 8) (pe_ix ix_tup (pe_dget (hu_of hr) (pv 3) (pv 6) (fun _ _ => rfl)) pe_int (fun _ _ => rfl)) (nomark _)) (pw_or1 (PW.pt (pw_and (pt_cmpR op_eq (pv 8) (pe_ix ix_tup (pe_dget (hu_of hr) (pv 3) (pv 6) (fun _ _ => rfl)) pe_int (fun _ _ => rfl)) (nomark _)) (pw_and1 (pt_cmpR op_lt_str (pv 9) (pe_ix ix_tup (pe_dget (hu_of hr) (pv 3) (pv 6) (fun _ _ => rfl)) pe_int (fun _ _ => rfl)) (nomark _)))))))))
  (pss_one (ps_dput (hu_of hr) (pv 3) (pv 6) (pe_tup (pa_cons (pv 8) (pa_cons (pv 9) pa_nil))) rfl))
  pss_nil)))))
  pss_nil)))
  (pss_one (ps_ret (pv 3)))))), ?_⟩
    walk_at "begin"
    walk_at "go"
    intro D hD
    walk_at "go"
    refine for_sq (xs := us) rfl ht (fun i σ H' => ∃ kvs' a4 a5 a6 a7 a8 a9, Same H H' ∧ H' D = some (.dK kvs') ∧ KvOk K H' kvs' (E2 ((ss.take i).foldl (turnL sg f) fun _ => none)) ∧ kvs'.length ≤ i ∧
      σ = [some (.ref t), some (.int sg), some (.ref r), some (.ref D), a4, a5, a6, a7, a8, a9]) ⟨[], none, none, none, none, none, none, Same.new hD, upd_same, KvOk.nil, Nat.le_refl _, rfl⟩
      (fun i σ H' ⟨_, _, _, _, _, _, _, z, _⟩ => z) ?_ ?_
    · rintro i y σ H1 hy ⟨kvs', a4, a5, a6, a7, a8, a9, z, eD, ok, len, rfl⟩
      have il : i < ss.length := by rw [← hs.1]; exact (List.getElem?_eq_some_iff.mp hy).1
      have ei : ss[i]? = some (ss[i]'il) := List.getElem?_eq_getElem il
      obtain ⟨q, eq, hq⟩ := hs.2 i _ ei
      rw [hy] at eq
      cases eq
      have ok1 := o.ok _ (List.getElem_mem il)
      have len32 := o.len
      rw [take_fold _ _ ei]
      generalize ss[i]'il = st at hq ok1 ⊢
      generalize (ss.take i).foldl (turnL sg f) (fun _ => none) = acc at ok ⊢
      have dg := DGet.k (k := .inl (st.b : Int)) (z _ _ hr0)
      refine k_gt ((same_tups z).sq hq) rfl ?_
      unfold stpV
      walk_at "go"
      refine ⟨r, _, rfl, dg, ?_⟩
      walk_at "go"
      cases fb : f st.b with
      | none =>
        rw [(hf.2 st.b).1 (by unfold E2; rw [fb]; rfl)]
        refine iteF ?_
        walk_at "go"
        have et : turnL sg f acc st = acc := by unfold turnL; rw [fb]
        rw [et]
        exact ⟨kvs', _, _, _, _, _, _, z, eD, ok, by omega, rfl⟩
      | some v =>
        obtain ⟨p, ep, sp⟩ := (hf.2 st.b).2 (ent2 v) (by unfold E2; rw [fb]; rfl)
        have lw := hw _ _ fb
        rw [ep] at dg ⊢
        refine iteT ?_
        walk_at "go"
        refine ⟨r, _, rfl, dg, ?_⟩
        refine k_gt ((same_tups z).sq sp) rfl ?_
        unfold ent2
        walk_at "go"
        refine k_I (wide_mul (a := 1) (b := 108) (by rcases hsg with rfl | rfl | rfl <;> decide) (by have := ok1.g; have := ok1.g'; omega) (by decide) (by decide) (by decide)) ?_
        walk_at "go"
        refine ⟨_, _, rfl, rfl, by rw [sOf_len]; show v.2.length + 1 ≤ sizeLine; exact Nat.le_trans (show v.2.length + 1 ≤ 65 by omega) (by decide), ?_⟩
        rw [sOf_snoc]
        dsimp only
        refine k_ifS ?_
        refine test_better (x := (v.1 + sg * st.g, v.2 ++ [st.c])) (acc := acc) (e := st.e) eD ok ?_ ?_ ?_ ?_ ?_
        iterate 4 rfl
        have et : turnL sg f acc st = if better (v.1 + sg * st.g, v.2 ++ [st.c]) (acc st.e) = true then acc.put st.e (v.1 + sg * st.g, v.2 ++ [st.c]) else acc := by unfold turnL; rw [fb]
        rw [et]
        refine k_bool (fun c => ?_) (fun c => ?_)
        · rw [if_pos c]
          walk_at "go"
          refine ⟨(by decide : 2 ≤ sizeLine), fun pn hpn => ?_⟩
          walk_at "go"
          have eD2 : (upd H1 pn (.tup [.int (v.1 + sg * st.g), .str (sOf (v.2 ++ [st.c]))])) D = some (.dK kvs') := by rw [upd_ne (ne_of_none eD hpn)]; exact eD
          refine ⟨D, _, rfl, DPut.k (k := .inl (st.e : Int)) eD2 (Nat.lt_of_le_of_lt len (Nat.lt_trans (show i < 1000 by omega) (by decide))), ?_⟩
          refine ⟨_, _, _, _, _, _, _, Same.mut (z.trans (Same.new hpn)) hD, upd_same, ?_, by have := length_putK kvs' (.inl (st.e : Int)) (V.ref pn); omega, rfl⟩
          refine ((KvOk.put (n := st.e) (ok.tups (Tups.new hpn)) (l := ent2 (v.1 + sg * st.g, v.2 ++ [st.c])) (SqT.of upd_same)).tups (Tups.dk eD2)).congr fun n => ?_
          exact E2_put acc st.e _ n
        · rw [if_neg (by rw [c]; exact Bool.false_ne_true)]
          walk_at "go"
          exact ⟨kvs', _, _, _, _, _, _, z, eD, ok, by omega, rfl⟩
    · rintro σ H1 ⟨kvs', a4, a5, a6, a7, a8, a9, z, eD, ok, len, rfl⟩
      walk_at "go"
      rw [hs.1, List.take_length] at ok
      have := o.len
      exact k D kvs' H1 z hD eD ok (by rw [hs.1] at len; omega)
end
/-! ### which stands have a better row; which stands letters lead to -/
inductive Reach (ss : List Stp) (l : List Nat) : Nat → Prop
  | base {n : Nat} : n ∈ l → Reach ss l n
  | step {s : Stp} : s ∈ ss → Reach ss l s.b → Reach ss l s.e
def fkv (F : List Nat) : List (Key × V) := F.map fun (n : Nat) => ((.inl (n : Int) : Key), V.bl true)
theorem key_eq (a b : Nat) : ((Sum.inl (a : Int) : Key) = .inl (b : Int)) ↔ a = b := ⟨fun z => by injection z with z; omega, fun z => by rw [z]⟩
theorem valV_fkv (n : Nat) : ∀ F : List Nat, valV (fkv F) (.inl (n : Int)) = if n ∈ F then some (.bl true) else none
  | [] => rfl
  | a :: F => by
    have ih := valV_fkv n F
    by_cases c : a = n
    · rw [if_pos (by rw [c]; exact List.mem_cons_self)]
      exact valV_pos (p := ((.inl (a : Int) : Key), V.bl true)) ((key_eq a n).mpr c)
    · have e : valV (fkv (a :: F)) (.inl (n : Int)) = valV (fkv F) (.inl (n : Int)) := valV_neg (p := ((.inl (a : Int) : Key), V.bl true)) fun z => c ((key_eq a n).mp z)
      rw [e, ih]
      by_cases d : n ∈ F
      · rw [if_pos d, if_pos (List.mem_cons_of_mem _ d)]
      · rw [if_neg d, if_neg (fun z => by rcases List.mem_cons.mp z with z | z; exact c z.symm; exact d z)]
def addN (F : List Nat) (n : Nat) : List Nat := if n ∈ F then F else F ++ [n]
theorem addN_mem {F : List Nat} {n k : Nat} : k ∈ addN F n ↔ k ∈ F ∨ k = n := by
  unfold addN
  by_cases c : n ∈ F
  · rw [if_pos c]
    exact ⟨.inl, fun z => by rcases z with z | rfl <;> assumption⟩
  · rw [if_neg c, List.mem_append, List.mem_singleton]
theorem addN_nodup {F : List Nat} {n : Nat} (h : F.Nodup) : (addN F n).Nodup := by
  unfold addN
  by_cases c : n ∈ F
  · rw [if_pos c]; exact h
  · rw [if_neg c]
    exact List.nodup_append.mpr ⟨h, by simp, fun a ha b hb e => by rw [List.mem_singleton] at hb; rw [e, hb] at ha; exact c ha⟩
theorem putK_fkv (F : List Nat) (n : Nat) : putK (fkv F) (.inl (n : Int)) (.bl true) = fkv (addN F n) := by
  by_cases c : n ∈ F
  · unfold addN putK
    have h := valV_any (.inl (n : Int) : Key) (fkv F)
    rw [valV_fkv, if_pos c] at h
    rw [h, if_pos c, if_pos (show (some (V.bl true)).isSome = true from rfl)]
    unfold fkv
    rw [List.map_map]
    refine List.map_congr_left fun a _ => ?_
    show (if (Sum.inl (a : Int) : Key) = .inl (n : Int) then ((Sum.inl (a : Int) : Key), V.bl true) else ((Sum.inl (a : Int) : Key), V.bl true)) = _
    split <;> rfl
  · rw [putK_new _ (by rw [valV_fkv, if_neg c])]
    unfold addN fkv
    rw [if_neg c, List.map_append]
    rfl
theorem nats_snoc (l : List Nat) (n : Nat) : nats (l ++ [n]) = nats l ++ [.int (n : Nat)] := by unfold nats; rw [List.map_append]; rfl
theorem nats_at {l : List Nat} {i : Nat} {x : V} (h : (nats l)[i]? = some x) : ∃ n, l[i]? = some n ∧ x = .int (n : Nat) := by
  unfold nats at h
  rw [List.getElem?_map] at h
  cases e : l[i]? with
  | none => rw [e] at h; cases h
  | some n => rw [e] at h; exact ⟨n, rfl, (Option.some.inj h).symm⟩
theorem nodup_small {F : List Nat} {n : Nat} (h : F.Nodup) (b : ∀ k ∈ F, k < n) : F.length ≤ n := by
  induction n generalizing F with
  | zero =>
    cases F with
    | nil => exact Nat.le_refl _
    | cons a F => exact absurd (b a List.mem_cons_self) (Nat.not_lt_zero _)
  | succ n ih =>
    by_cases c : n ∈ F
    · have e1 := ih (F := F.erase n) (h.erase n) fun k hk => by
        have hk' := (List.Nodup.mem_erase_iff h).mp hk
        have := b k hk'.2
        have := hk'.1
        omega
      rw [List.length_erase_of_mem c] at e1
      omega
    · have := ih h fun k hk => by
        have := b k hk
        have : k ≠ n := fun z => c (z ▸ hk)
        omega
      omega
def sp_led (K : PySem.W.Frag) : Sp := fun vs H Q _ => ∃ (t p : Addr) (N : Nat) (ss : List Stp) (l : List Nat), vs = [.ref t, .ref p] ∧ StSq K H t ss ∧ SsOk N ss ∧ H p = some (.lst (nats l)) ∧ (∀ n ∈ l, n < N) ∧ l.length ≤ 300 ∧
  ∀ q (l' : List Nat) H', Same H H' → H q = none → H' q = some (.lst (nats l')) → (∀ n, n ∈ l' ↔ Reach ss l n) → l'.Pairwise (· < ·) → Q (.ref q) H'
/-! ### which stands have a better row -/
def impr (f D : RF) (n : Nat) : Bool := match f n with
  | none => false
  | some x => match D n with
    | none => true
    | some y => decide (y.1 < x.1)
def sp_improved (K : PySem.W.Frag) : Sp := fun vs H Q _ => ∃ (r b : Addr) (f D : RF) (kvs kvb : List (Key × V)), vs = [.ref r, .ref b] ∧ H r = some (.dK kvs) ∧ KvOk K H kvs (E2 f) ∧ H b = some (.dK kvb) ∧ KvOk K H kvb (E2 D) ∧ r ≠ b ∧ kvs.length ≤ 300 ∧
  ∀ p (l : List Nat) H', Same H H' → H p = none → H' p = some (.lst (nats l)) → (∀ n, n ∈ l ↔ impr f D n = true) → l.length ≤ 300 → Q (.ref p) H'
section
variable {P : Program} {w : World} {K : PySem.W.Frag} {mg : Str → Option Value} {base : Heap}
theorem ok_improved (T : Txt K mg) : FnOk P w K mg base (L2.CX P w) 1 T.a_improved T.fd_improved ["rows", "best"] (sp_improved K) := by
  refine T.F_improved.okX sc_improved (fun vs H Q E h => ?_) (fun cdv A outer s H vs Q E hr h => ?_)
  · obtain ⟨r, b, f, D, kvs, kvb, rfl, _⟩ := h
    rfl
  · obtain ⟨r, b, f, g, kvs, kvb, rfl, hr0, hf, hb, hg, ne, len, k⟩ := h
    refine ⟨_, (PSs.nox (pss_one (ps_ret (pe_lock (pe_lc (own := [("stand", 2)]) (g := (gName 2)) rfl sc_improved.nd (pi_keys (pv 0)) (blkOk_by (own := [("stand", 2)]) (N := ["rows", "best", "stand"]) (sc := defScope s_improved) (by decide +kernel)) (fun _ _ _ _ _ => (pg_name (i := 2) sc_improved.nd rfl (Or.inl rfl))) (fun _ _ _ _ _ => (pts_one (PW.pt (pw_or (pt_cmp (pc_dnotin (hu_of hr) (pv 2) (pv 1)) (by rfl)) (pw_or1 (pt_cmpR op_gt (pe_ix (show IxR _ (rIxT K) from ix_tup) (pe_dget (hu_of hr) (pv 0) (pv 2) (fun _ _ => rfl)) pe_int (fun _ _ => rfl)) (pe_ix (show IxR _ (rIxT K) from ix_tup) (pe_dget (hu_of hr) (pv 1) (pv 2) (fun _ _ => rfl)) pe_int (fun _ _ => rfl)) (nomark _))))))) (fun _ _ _ _ _ => (pv 2))))))), ?_⟩
    walk_at "begin"
    refine k_ret ⟨r, _, hr0, trivial, fun od => ?_⟩
    obtain ⟨HL, eL⟩ : ∃ z, z = upd H r (.frz od (.dK kvs)) := ⟨_, rfl⟩
    rw [← eL]
    have tL : Tups H HL := by rw [eL]; exact Tups.dk hr0
    have bL : HL b = some (.dK kvb) := by rw [eL, upd_ne ne.symm]; exact hb
    have rL : HL r = some (.frz od (.dK kvs)) := by rw [eL, upd_same]
    walk_at "go"
    refine ⟨_, rfl, r, od, rfl, .inl ⟨kvs, rL, fun L hL => ?_⟩⟩
    have nLr : L ≠ r := fun z => by rw [z, rL] at hL; cases hL
    have hL0 : H L = none := by rw [eL, upd_ne nLr] at hL; exact hL
    refine lc_it walk_keys (fun i H' => Same HL H' ∧ ∃ l : List Nat, H' L = some (.lst (nats l)) ∧ l.length ≤ i ∧ ∀ n, n ∈ l ↔ (impr f g n = true ∧ ∃ j v, j < i ∧ kvs[j]? = some (.inl (n : Int), v)))
      ⟨Same.new hL, [], upd_same, Nat.le_refl _, fun n => ⟨fun z => absurd z (by simp), fun ⟨_, j, _, hj, _⟩ => absurd hj (Nat.not_lt_zero _)⟩⟩ (fun i H' _ ⟨z, _⟩ => z _ _ rL) ?_ ?_
    · rintro i x H0 H1 hi ⟨z, l, el, ll, hl⟩ ⟨rfl, key, v, hk, rfl⟩
      obtain ⟨n, rfl⟩ := hf.1 (key, v) (List.mem_of_getElem? hk)
      have more : ∀ q, (q ∈ l ∨ (impr f g n = true ∧ q = n)) ↔ (impr f g q = true ∧ ∃ j v, j < i + 1 ∧ kvs[j]? = some (.inl (q : Int), v)) := fun q => by
        constructor
        · rintro (h | ⟨h, rfl⟩)
          · obtain ⟨h1, j, v', hj, e⟩ := (hl q).mp h
            exact ⟨h1, j, v', by omega, e⟩
          · exact ⟨h, i, v, by omega, hk⟩
        · rintro ⟨h1, j, v', hj, e⟩
          by_cases c : j = i
          · rw [c, hk] at e
            have e' : ((Sum.inl (n : Int) : Key), v) = (.inl (q : Int), v') := Option.some.inj e
            have e2 : n = q := (key_eq n q).mp (congrArg Prod.fst e')
            exact .inr ⟨by rw [e2]; exact h1, e2.symm⟩
          · exact .inl ((hl q).mpr ⟨h1, j, v', by omega, e⟩)
      have keep : ∀ {H2 : Hp}, H2 = H1 → impr f g n = false → (Same HL H2 ∧ ∃ l : List Nat, H2 L = some (.lst (nats l)) ∧ l.length ≤ i + 1 ∧ ∀ q, q ∈ l ↔ (impr f g q = true ∧ ∃ j v, j < i + 1 ∧ kvs[j]? = some (.inl (q : Int), v))) := by
        rintro H2 rfl h
        refine ⟨z, l, el, by omega, fun q => ?_⟩
        rw [← more q, h]
        simp
      have snoc : impr f g n = true → ∃ acc, H1 L = some (.lst acc) ∧ acc.length < sizeLine ∧ (Same HL (upd H1 L (.lst (acc ++ [V.int (n : Nat)]))) ∧ ∃ l : List Nat, (upd H1 L (.lst (acc ++ [V.int (n : Nat)]))) L = some (.lst (nats l)) ∧ l.length ≤ i + 1 ∧ ∀ q, q ∈ l ↔ (impr f g q = true ∧ ∃ j v, j < i + 1 ∧ kvs[j]? = some (.inl (q : Int), v))) := fun h => by
        refine ⟨_, el, ?_, Same.mut z hL, l ++ [n], by rw [upd_same, nats_snoc], by rw [List.length_append, List.length_singleton]; omega, fun q => ?_⟩
        · have : (nats l).length < 1000 := by unfold nats; rw [List.length_map]; omega
          exact Nat.lt_trans this (by decide)
        · rw [← more q, h, List.mem_append, List.mem_singleton]
          simp
      have dr : DGet H1 r (.int (n : Nat)) (valV kvs (.inl (n : Int))) := .inl ⟨kvs, .inl (n : Int), .inr ⟨od, z _ _ rL⟩, rfl, rfl⟩
      have db : DGet H1 b (.int (n : Nat)) (valV kvb (.inl (n : Int))) := DGet.k (k := .inl (n : Int)) (z _ _ bL)
      have fr : ∃ y, f n = some y := by
        cases e : f n with
        | some y => exact ⟨y, rfl⟩
        | none =>
          have q := (hf.2 n).1 (by unfold E2; rw [e]; rfl)
          have a := valV_any (.inl (n : Int) : Key) kvs
          rw [q] at a
          have : kvs.any (fun kv => decide (kv.1 = (.inl (n : Int) : Key))) = true := List.any_eq_true.mpr ⟨_, List.mem_of_getElem? hk, decide_eq_true rfl⟩
          rw [this] at a
          cases a
      obtain ⟨y, ey⟩ := fr
      obtain ⟨p, ep, sp⟩ := (hf.2 n).2 (ent2 y) (by unfold E2; rw [ey]; rfl)
      rw [ep] at dr
      have sp1 := (tL.sq sp)
      have sp2 := (same_tups z).sq sp1
      have ei : impr f g n = match g n with | none => true | some y' => decide (y'.1 < y.1) := by unfold impr; rw [ey]
      walk_at "st"
      refine ⟨rfl, ?_⟩
      walk_at "go"
      refine ⟨b, _, rfl, db, ?_⟩
      walk_at "go"
      cases eg : g n with
      | none =>
        rw [(hg.2 n).1 (by unfold E2; rw [eg]; rfl)]
        rw [eg] at ei
        refine iteT (iteT ?_)
        walk_at "go"
        exact snoc ei
      | some y' =>
        obtain ⟨p', ep', sp'⟩ := (hg.2 n).2 (ent2 y') (by unfold E2; rw [eg]; rfl)
        rw [ep'] at db ⊢
        rw [eg] at ei
        refine iteF ?_
        walk_at "go"
        refine ⟨r, _, rfl, dr, ?_⟩
        walk_at "go"
        refine k_ixT sp2 (v := .int y.1) rfl ?_
        walk_at "go"
        refine ⟨b, _, rfl, db, ?_⟩
        walk_at "go"
        refine k_ixT ((same_tups z).sq (tL.sq sp')) (v := .int y'.1) rfl ?_
        walk_at "go"
        refine k_ite (fun c => ?_) (fun c => ?_)
        · walk_at "go"
          exact snoc (ei.trans (decide_eq_true c))
        · exact keep rfl (ei.trans (decide_eq_false c))
    · rintro H1 ⟨z, l, el, ll, hl⟩
      refine ⟨z _ _ rL, k L l _ (fun c o ec => ?_) hL0 ?_ (fun n => ?_) (by omega)⟩
      · by_cases cr : c = r
        · rw [cr, upd_same]
          rw [cr, hr0] at ec
          exact ec
        · rw [upd_ne cr]
          exact z _ _ (by rw [eL, upd_ne cr]; exact ec)
      · rw [upd_ne nLr]; exact el
      · rw [hl n]
        refine ⟨fun h => h.1, fun h => ⟨h, ?_⟩⟩
        have fs : ∃ y, f n = some y := by
          unfold impr at h
          cases e : f n with
          | none => rw [e] at h; cases h
          | some y => exact ⟨y, rfl⟩
        obtain ⟨y, ey⟩ := fs
        obtain ⟨p, ep, _⟩ := (hf.2 n).2 (ent2 y) (by unfold E2; rw [ey]; rfl)
        have a := valV_any (.inl (n : Int) : Key) kvs
        rw [ep] at a
        obtain ⟨kv, hm, hd⟩ := List.any_eq_true.mp (a.trans rfl)
        obtain ⟨j, hj, ej⟩ := List.getElem_of_mem hm
        refine ⟨j, kv.2, hj, ?_⟩
        rw [List.getElem?_eq_getElem hj, ej]
        have : kv.1 = .inl (n : Int) := of_decide_eq_true hd
        rw [← this]
end
/-- the stands found and those that wait -/
structure Led (N : Nat) (ss : List Stp) (l F Wt : List Nat) : Prop where
  nd : F.Nodup
  bd : ∀ n ∈ F, n < N
  re : ∀ n ∈ F, Reach ss l n
  sub : ∀ n ∈ Wt, n ∈ F
  bas : ∀ n ∈ l, n ∈ F
/-- all but those that wait (and it, from the step i on) are closed -/
def Closed (ss : List Stp) (F Wt : List Nat) : Prop := ∀ s ∈ ss, s.b ∈ F → s.b ∉ Wt → s.e ∈ F
section
variable {P : Program} {w : World} {K : PySem.W.Frag} {mg : Str → Option Value} {base : Heap}
theorem ok_led_to (T : Txt K mg) : FnOk P w K mg base (L2.CX P w) 3 T.a_led_to T.fd_led_to ["steps", "begins"] (sp_led K) := by
  refine T.F_led_to.okX sc_led_to (fun vs H Q E h => ?_) (fun cdv A outer s H vs Q E hr h => ?_)
  · obtain ⟨t, p, N, ss, l, rfl, _⟩ := h
    rfl
  · obtain ⟨t, p, N, ss, l, rfl, ⟨us, ht, hs⟩, o, hp, hl, ll, k⟩ := h
    refine ⟨_, (PSs.nox (pss_cons (ps_setDc (i := 2) (own := [("stand", 4)]) (g := (gName 4)) (tt := tYes) rfl sc_led_to.nd rfl rfl (sw_trueD rfl rfl rfl (by decide +kernel)) (pi_list (pv 1)) (blkOk_by (own := [("stand", 4)]) (N := ["steps", "begins", "found", "waiting", "stand", "begun", "_", "end"]) (sc := defScope s_led_to) (by decide +kernel)) (fun _ _ _ _ _ => (pg_name (i := 4) sc_led_to.nd rfl (Or.inl rfl))) (fun _ _ _ _ _ => pts_nil) (fun _ _ _ _ _ => (pv 4)) (fun _ _ _ _ _ => pe_bl))
  (pss_cons (ps_set (i := 3) sc_led_to.nd rfl (Or.inl rfl) (pe_callTy call_list_of (by rfl) T.z_list PySem.Pv.boot_list (pa_cons (pv 1) pa_nil)))
  (pss_cons (ps_while PassesOwn.never (pt_truth (pv 3) (fun _ => rfl))
  (pss_cons (ps_set (i := 4) sc_led_to.nd rfl (Or.inl rfl) (pe_bm0 PySem.F.plainAttrs_list PySem.F.slot_list_pop PySem.F.type_list_pop mt_pop (pv 3)))
  (pss_one (ps_for PassesOwn.never rfl (pi_sq (pv 0)) (pg_tup rfl (pgs_cons (pg_name (i := 5) sc_led_to.nd rfl (Or.inl rfl)) (pgs_cons (pg_name (i := 6) sc_led_to.nd rfl (Or.inl rfl)) (pgs_cons (pg_name (i := 7) sc_led_to.nd rfl (Or.inl rfl)) (pgs_cons (pg_name (i := 6) sc_led_to.nd rfl (Or.inl rfl)) pgs_nil)))))
  (pss_one (ps_if (PW.pt (pw_and (pt_cmpR op_eq (pv 5) (pv 4) (nomark _)) (pw_and1 (pt_cmp (pc_dnotin (hu_of hr) (pv 7) (pv 2)) (by rfl)))))
  (pss_cons (ps_dput (hu_of hr) (pv 2) (pv 7) pe_bl rfl)
  (pss_one (ps_expr (pe_bm PySem.F.plainAttrs_list PySem.F.slot_list_append PySem.F.type_list_append mt_append (pv 3) (pa_cons (pv 7) pa_nil)))))
  pss_nil))))))
  (pss_one (ps_ret (pe_callB (call_sortedDI rfl) (by rfl) T.z_sorted (by decide +kernel) (pa_cons (pv 2) pa_nil)))))))), ?_⟩
    walk_at "begin"
    walk_at "go"
    refine ⟨p, rfl, ⟨_, SqL.of hp⟩, fun D hD => ?_⟩
    refine dc_lst (xs := nats l) (fun i H' => Same H H' ∧ ∃ F, H' D = some (.dK (fkv F)) ∧ F.length ≤ i ∧ F.Nodup ∧ (∀ n, n ∈ F ↔ n ∈ l.take i)) ⟨Same.new hD, [], upd_same, Nat.le_refl _, .nil, fun n => by simp⟩
      (fun i H' _ ⟨z, _⟩ => z.seq (SqL.of hp)) ?_ ?_
    · rintro i y H1 hy ⟨z, F, eF, lF, nF, mF⟩
      obtain ⟨n, hn, rfl⟩ := nats_at hy
      walk_at "go"
      refine ⟨rfl, ?_⟩
      walk_at "go"
      refine iteT ?_
      walk_at "go"
      have il := (List.getElem?_eq_some_iff.mp hn).1
      refine ⟨_, .inl (n : Int), rfl, eF, ?_, ?_⟩
      · have : (fkv F).length < 1000 := by unfold fkv; rw [List.length_map]; omega
        exact Nat.lt_trans this (by decide)
      · refine ⟨Same.mut z hD, addN F n, by rw [upd_same, putK_fkv], ?_, addN_nodup nF, fun q => ?_⟩
        · unfold addN
          split
          · omega
          · rw [List.length_append, List.length_singleton]; omega
        · rw [addN_mem, mF q, List.take_add_one, hn, List.mem_append]
          simp
    · rintro H1 ⟨z, F, eF, lF, nF, mF⟩
      have tl : l.take (nats l).length = l := by unfold nats; rw [List.length_map, List.take_length]
      rw [tl] at mF
      walk_at "go"
      refine ⟨p, _, rfl, .inl (z.seq (SqL.of hp)), fun B hB => ?_⟩
      have nDB : D ≠ B := ne_of_none eF hB
      have hB0 : H B = none := by
        cases q : H B with
        | none => rfl
        | some ob => rw [z _ _ q] at hB; cases hB
      have L0 : Led N ss l F l := ⟨nF, fun n h => hl n ((mF n).mp h), fun n h => .base ((mF n).mp h), fun n h => (mF n).mpr h, fun n h => (mF n).mpr h⟩
      have C0 : Closed ss F l := fun st _ h1 h2 => absurd ((mF _).mp h1) h2
      walk_at "go"
      refine k_whl (fun q σ H' => ∃ F Wt a4 a5 a6 a7, q = 2 * (64 - F.length) + Wt.length ∧ Same H H' ∧ H' D = some (.dK (fkv F)) ∧ H' B = some (.lst (nats Wt)) ∧ Led N ss l F Wt ∧ Closed ss F Wt ∧ q ≤ 500 ∧
        σ = [some (.ref t), some (.ref p), some (.ref D), some (.ref B), a4, a5, a6, a7]) ⟨_, F, l, none, none, none, none, rfl, Same.mut z hB0, by rw [upd_ne nDB]; exact eF, upd_same, L0, C0, by omega, rfl⟩ ?_
        (fun σ H R R' h ⟨v, e, c, t, q⟩ => ⟨v, e, c, t, h _ _ q⟩)
      rintro q σ H2 ⟨F, Wt, a4, a5, a6, a7, rfl, z, eF, eB, L, C, lW, rfl⟩
      clear mF nF lF L0 C0
      refine k_var rfl ⟨_, .inl ⟨_, SqL.of eB, rfl⟩, ?_⟩
      rcases List.eq_nil_or_concat Wt with rfl | ⟨W', st, eW⟩
      · refine iteF ?_
        walk_at "go"
        have nk : (fkv F).map (·.1) = (F.map fun n : Nat => (n : Int)).map Sum.inl := by unfold fkv; rw [List.map_map, List.map_map]; rfl
        have f8 := nodup_small L.nd L.bd
        refine ⟨D, fkv F, F.map fun n : Nat => (n : Int), rfl, .inl eF, nk, by rw [List.length_map]; have := o.n64; omega, fun ys q perm up hq => ?_⟩
        -- the sorted keys are stands again
        obtain ⟨F', rfl⟩ : ∃ F' : List Nat, ys = F'.map fun n : Nat => (n : Int) := by
          have all : ∀ y ∈ ys, ∃ n : Nat, y = (n : Int) := fun y hy => by
            have := perm.mem_iff.mp hy
            obtain ⟨n, _, rfl⟩ := List.mem_map.mp this
            exact ⟨n, rfl⟩
          clear perm up hq
          induction ys with
          | nil => exact ⟨[], rfl⟩
          | cons y ys ih =>
            obtain ⟨n, rfl⟩ := all y List.mem_cons_self
            obtain ⟨F', e⟩ := ih fun y hy => all y (List.mem_cons_of_mem _ hy)
            exact ⟨n :: F', by rw [e]; rfl⟩
        have mem : ∀ n, n ∈ F' ↔ n ∈ F := fun n => by
          have := perm.mem_iff (a := (n : Int))
          constructor
          · intro h
            have h2 := this.mp (List.mem_map.mpr ⟨n, h, rfl⟩)
            obtain ⟨n', h3, e⟩ := List.mem_map.mp h2
            have : n' = n := by exact_mod_cast e
            rw [← this]; exact h3
          · intro h
            have h2 := this.mpr (List.mem_map.mpr ⟨n, h, rfl⟩)
            obtain ⟨n', h3, e⟩ := List.mem_map.mp h2
            have : n' = n := by exact_mod_cast e
            rw [← this]; exact h3
        have inj : ∀ a b : Nat, (a : Int) = (b : Int) → a = b := fun a b e => by exact_mod_cast e
        have nd' : (F'.map fun n : Nat => (n : Int)).Nodup := perm.nodup_iff.mpr (List.Pairwise.map _ (fun a b h e => h (inj a b e)) L.nd)
        have hq0 : H q = none := by
          cases e : H q with
          | none => rfl
          | some ob => rw [z _ _ e] at hq; cases hq
        refine k q F' _ (z.trans (Same.new hq)) hq0 ?_ (fun n => ?_) ?_
        · rw [upd_same]
          unfold nats
          rw [List.map_map]
          rfl
        · rw [mem n]
          refine ⟨L.re n, fun h => ?_⟩
          induction h with
          | base h => exact L.bas _ h
          | step h _ ih => exact C _ h ih (by simp)
        · have up' : (F'.map fun n : Nat => (n : Int)).Pairwise (· < ·) := by
            have := List.Pairwise.and up nd'
            exact this.imp fun ⟨h1, h2⟩ => by omega
          rw [List.pairwise_map] at up'
          exact up'.imp fun h => by omega
      · rw [List.concat_eq_append] at eW
        subst eW
        have ne : nats (W' ++ [st]) = nats W' ++ [.int (st : Nat)] := nats_snoc W' st
        rw [ne] at eB ⊢
        have ql : (W' ++ [st]).length = W'.length + 1 := by rw [List.length_append]; rfl
        rw [ql] at lW ⊢
        obtain ⟨q0, hq0⟩ : ∃ q0, q0 = 2 * (64 - F.length) + (W'.length + 1) := ⟨_, rfl⟩
        rw [← hq0] at lW ⊢
        refine k_yes (by simp) ?_
        walk_at "go"
        refine ⟨.inl ⟨rfl, _, SqL.of eB⟩, B, _, .int (st : Nat), rfl, rfl, eB, by simp, ?_⟩
        rw [List.dropLast_concat]
        have z3 : Same H (upd H2 B (.lst (nats W'))) := Same.mut z hB0
        have t3 := same_tups z3
        have stF : st ∈ F := L.sub _ (by simp)
        walk_at "go"
        refine for_sq (xs := us) rfl ht (fun i σ H' => ∃ F Wt a5 a6 a7, 2 * (64 - F.length) + Wt.length + 1 ≤ q0 ∧ Same H H' ∧ H' D = some (.dK (fkv F)) ∧ H' B = some (.lst (nats Wt)) ∧ Led N ss l F Wt ∧ st ∈ F ∧
          (∀ s ∈ ss, s.b ∈ F → s.b ∉ Wt → s.b ≠ st → s.e ∈ F) ∧ (∀ s ∈ ss.take i, s.b = st → s.e ∈ F) ∧
          σ = [some (.ref t), some (.ref p), some (.ref D), some (.ref B), some (.int (st : Nat)), a5, a6, a7])
          ⟨F, W', _, _, _, by omega, z3, by rw [upd_ne nDB]; exact eF, upd_same, ⟨L.nd, L.bd, L.re, fun n h => L.sub n (by simp [h]), L.bas⟩, stF, fun s hs h1 h2 h3 => C s hs h1 (by simp [h2, h3]), fun s h => by simp at h, rfl⟩
          (fun i σ H' ⟨_, _, _, _, _, _, z, _⟩ => z) ?_ ?_
        · clear eF eB L C z z3 t3 stF ql hq0 ne
          rintro i y σ H3 hy ⟨F, Wt, a5, a6, a7, le, z, eF, eB, L, stF, C1, C2, rfl⟩
          have il : i < ss.length := by rw [← hs.1]; exact (List.getElem?_eq_some_iff.mp hy).1
          have ei : ss[i]? = some (ss[i]'il) := List.getElem?_eq_getElem il
          obtain ⟨q, eq, hq⟩ := hs.2 i _ ei
          rw [hy] at eq
          cases eq
          have ok1 := o.ok _ (List.getElem_mem il)
          have im : ss[i]'il ∈ ss := List.getElem_mem il
          have tk : ∀ s, s ∈ ss.take (i + 1) ↔ s ∈ ss.take i ∨ s = ss[i]'il := fun s => by rw [List.take_add_one, ei, List.mem_append]; simp
          generalize ss[i]'il = s0 at hq ok1 im tk
          have dg : DGet H3 D (.int (s0.e : Nat)) (valV (fkv F) (.inl (s0.e : Int))) := DGet.k (k := .inl (s0.e : Int)) eF
          refine k_gt ((same_tups z).sq hq) rfl ?_
          unfold stpV
          walk_at "go"
          refine k_ite (fun c => ?_) (fun c => ?_)
          · have c' : s0.b = st := by
              injection c with c
              omega
            walk_at "go"
            refine ⟨D, _, rfl, dg, ?_⟩
            walk_at "go"
            rw [valV_fkv]
            by_cases d : s0.e ∈ F
            · rw [if_pos d]
              refine iteF ?_
              walk_at "go"
              exact ⟨F, Wt, _, _, _, le, z, eF, eB, L, stF, C1, fun s h e => by
                rcases (tk s).mp h with h | rfl
                · exact C2 s h e
                · exact d, rfl⟩
            · rw [if_neg d]
              refine iteT ?_
              walk_at "go"
              have ad : addN F s0.e = F ++ [s0.e] := if_neg d
              have f8 : (fkv F).length < sizeLine := by
                have := nodup_small L.nd L.bd
                have := o.n64
                have : (fkv F).length < 1000 := by unfold fkv; rw [List.length_map]; omega
                exact Nat.lt_trans this (by decide)
              have w8 : (nats Wt).length < sizeLine := by
                have : (nats Wt).length < 1000 := by unfold nats; rw [List.length_map]; omega
                exact Nat.lt_trans this (by decide)
              refine ⟨D, _, rfl, DPut.k (k := .inl (s0.e : Int)) eF f8, ?_⟩
              rw [putK_fkv, ad]
              have eB3 : (upd H3 D (.dK (fkv (F ++ [s0.e])))) B = some (.lst (nats Wt)) := by rw [upd_ne nDB.symm]; exact eB
              walk_at "go"
              refine ⟨.inl ⟨rfl, _, SqL.of eB3⟩, ?_⟩
              walk_at "go"
              refine k_append eB3 w8 ?_
              rw [← nats_snoc]
              have nd2 : (F ++ [s0.e]).Nodup := by rw [← ad]; exact addN_nodup L.nd
              have bd2 : ∀ n ∈ F ++ [s0.e], n < N := fun n h => by
                rcases List.mem_append.mp h with h | h
                · exact L.bd n h
                · rw [List.mem_singleton.mp h]; exact ok1.e
              refine ⟨F ++ [s0.e], Wt ++ [s0.e], _, _, _, ?_, Same.mut (Same.mut z hD) hB0, by rw [upd_ne nDB, upd_same], upd_same, ⟨nd2, bd2, ?_, ?_, fun n h => List.mem_append_left _ (L.bas n h)⟩, List.mem_append_left _ stF, ?_, ?_, rfl⟩
              · have := nodup_small nd2 bd2
                have := o.n64
                rw [List.length_append, List.length_append, List.length_singleton] at *
                omega
              · intro n h
                rcases List.mem_append.mp h with h | h
                · exact L.re n h
                · rw [List.mem_singleton.mp h]
                  exact .step im (L.re _ (by rw [c']; exact stF))
              · intro n h
                rcases List.mem_append.mp h with h | h
                · exact List.mem_append_left _ (L.sub n h)
                · exact List.mem_append_right _ h
              · intro s hs h1 h2 h3
                rcases List.mem_append.mp h1 with h1 | h1
                · exact List.mem_append_left _ (C1 s hs h1 (fun z => h2 (List.mem_append_left _ z)) h3)
                · exact absurd (List.mem_append_right _ h1) h2
              · intro s h e
                rcases (tk s).mp h with h | rfl
                · exact List.mem_append_left _ (C2 s h e)
                · exact List.mem_append_right _ (List.mem_singleton.mpr rfl)
          · refine iteF ?_
            walk_at "go"
            refine ⟨F, Wt, _, _, _, le, z, eF, eB, L, stF, C1, fun s h e => ?_, rfl⟩
            rcases (tk s).mp h with h | rfl
            · exact C2 s h e
            · exact absurd (show V.int (s.b : Nat) = V.int (st : Nat) by rw [e]) c
        · rintro σ H3 ⟨F, Wt, a5, a6, a7, le, z, eF, eB, L, stF, C1, C2, rfl⟩
          rw [hs.1, List.take_length] at C2
          refine ⟨_, ?_, F, Wt, _, _, _, _, rfl, z, eF, eB, L, fun s hs h1 h2 => ?_, by omega, rfl⟩
          · omega
          · by_cases c : s.b = st
            · exact C2 s hs c
            · exact C1 s hs h1 h2 c
end
/-! ### the best rows of all -/
def lvl (sg : Int) (ss : List Stp) : Nat → RF
  | 0 => fun n => if n = 0 then some (0, []) else none
  | i + 1 => longer sg (lvl sg ss i) ss
def bst (sg : Int) (ss : List Stp) : Nat → RF
  | 0 => fun _ => none
  | i + 1 => fun n => if impr (lvl sg ss i) (bst sg ss i) n = true then lvl sg ss i n else bst sg ss i n
theorem longer_ind {sg : Int} {f : RF} {ss : List Stp} {P : Nat → Int × Wd → Prop} (h : ∀ s ∈ ss, ∀ y, f s.b = some y → P s.e (y.1 + sg * s.g, y.2 ++ [s.c])) : ∀ n y, longer sg f ss n = some y → P n y := by
  have gen : ∀ (ss' : List Stp) (acc : RF), (∀ s ∈ ss', s ∈ ss) → (∀ n y, acc n = some y → P n y) → ∀ n y, ss'.foldl (turnL sg f) acc n = some y → P n y := by
    intro ss'
    induction ss' with
    | nil => exact fun acc _ ha => ha
    | cons s r ih =>
      intro acc sub ha
      refine ih (turnL sg f acc s) (fun t ht => sub t (List.mem_cons_of_mem _ ht)) fun n y e => ?_
      unfold turnL at e
      cases fb : f s.b with
      | none => rw [fb] at e; exact ha n y e
      | some v =>
        rw [fb] at e
        dsimp only at e
        split at e
        · unfold RF.put at e
          split at e
          · rename_i q
            cases e
            rw [q]
            exact h s (sub s List.mem_cons_self) v fb
          · exact ha n y e
        · exact ha n y e
  exact gen ss _ (fun _ h => h) fun _ _ e => nomatch e
theorem lvl_sok {sg : Int} {N : Nat} {ss : List Stp} (o : SsOk N ss) : ∀ i n y, lvl sg ss i n = some y → n < N ∧ y.2.length = i
  | 0, n, y, e => by
    unfold lvl at e
    split at e
    · rename_i q
      cases e
      exact ⟨by rw [q]; exact o.n1, rfl⟩
    · cases e
  | i + 1, n, y, e => longer_ind (P := fun n y => n < N ∧ y.2.length = i + 1) (fun s hs v ev => ⟨(o.ok s hs).e, by rw [List.length_append, (lvl_sok o i _ _ ev).2]; rfl⟩) n y e
theorem lvl_ok {sg : Int} {m : MD} (o : m.Ok) : ∀ i n y, lvl sg m.ss i n = some y → n < m.n ∧ y.2.length = i := lvl_sok o.sok
def endE : List V := [.str "endless", .non]
def sp_best (K : PySem.W.Frag) : Sp := fun vs H Q _ => ∃ (t : Addr) (sg : Int) (N : Nat) (ss : List Stp), vs = [.int (N : Nat), .ref t, .int sg] ∧ StSq K H t ss ∧ SsOk N ss ∧ Sgn sg ∧
  ∀ p kvs H' (l L : List Nat), Same H H' → H p = none → H' p = some (.dK kvs) → (∀ n, n ∈ l ↔ impr (lvl sg ss N) (bst sg ss N) n = true) → (∀ n, n ∈ L ↔ Reach ss l n) →
    KvOk K H' kvs (fun n => if n ∈ L then some endE else E2 (bst sg ss N) n) → Q (.ref p) H'
section
variable {P : Program} {w : World} {K : PySem.W.Frag} {mg : Str → Option Value} {base : Heap}
theorem ok_best_rows (T : Txt K mg) : FnOk P w K mg base (L2.CX P w) 4 T.a_best_rows T.fd_best_rows ["many", "steps", "sign"] (sp_best K) := by
  refine T.F_best_rows.okX sc_best_rows (fun vs H Q E h => ?_) (fun cdv A outer s H vs Q E hr h => ?_)
  · obtain ⟨t, sg, N, ss, rfl, _⟩ := h
    rfl
  · obtain ⟨t, sg, N, ss, rfl, hm, o, hsg, k⟩ := h
    refine ⟨_, (PSs.nox (pss_cons (ps_set (i := 3) sc_best_rows.nd rfl (Or.inl rfl) pe_dnewK)
  (pss_cons (ps_set (i := 4) sc_best_rows.nd rfl (Or.inl rfl) (pe_disp (pps_cons pe_int (pe_tup (pa_cons pe_int (pa_cons pe_str pa_nil))) pps_nil) (by rfl) (by rfl) (fun z => by cases z) (by decide)))
  (pss_cons (ps_for PassesOwn.never rfl (pi_range1 (by rfl) T.z_range (pa_cons (pv 0) pa_nil)) (pg_name (i := 5) sc_best_rows.nd rfl (Or.inl rfl))
  (pss_cons (ps_set (i := 6) sc_best_rows.nd rfl (Or.inl rfl) (pe_call (ok_improved T) (hr.mono (by decide)) (by rfl) T.m_improved T.k_improved T.b_improved .nil passL (pa_cons (pv 4) (pa_cons (pv 3) pa_nil))))
  (pss_cons (ps_for PassesOwn.never rfl (pi_list (pv 6)) (pg_name (i := 7) sc_best_rows.nd rfl (Or.inl rfl))
  (pss_one (ps_dput (hu_of hr) (pv 3) (pv 7) (pe_dget (hu_of hr) (pv 4) (pv 7) (fun _ _ => rfl)) rfl)))
  (pss_one (ps_set (i := 4) sc_best_rows.nd rfl (Or.inl rfl) (pe_call (ok_longer_rows T) (hr.mono (by decide)) (by rfl) T.m_longer_rows T.k_longer_rows T.b_longer_rows .nil passL (pa_cons (pv 1) (pa_cons (pv 2) (pa_cons (pv 4) pa_nil)))))))))
  (pss_cons (ps_set (i := 8) sc_best_rows.nd rfl (Or.inl rfl) (pe_call (ok_led_to T) (hr.mono (by decide)) (by rfl) T.m_led_to T.k_led_to T.b_led_to .nil passL (pa_cons (pv 1) (pa_cons (pe_call (ok_improved T) (hr.mono (by decide)) (by rfl) T.m_improved T.k_improved T.b_improved .nil passL (pa_cons (pv 4) (pa_cons (pv 3) pa_nil))) pa_nil))))
  (pss_cons (ps_for PassesOwn.never rfl (pi_list (pv 8)) (pg_name (i := 7) sc_best_rows.nd rfl (Or.inl rfl))
  (pss_one (ps_dput (hu_of hr) (pv 3) (pv 7) (pe_tup (pa_cons (pe_glob (by rfl) T.m_ENDLESS T.r_ENDLESS) (pa_cons pe_non pa_nil))) rfl)))
  (pss_one (ps_ret (pv 3))))))))), ?_⟩
    walk_at "begin"
    walk_at "go"
    intro D hD
    walk_at "go"
    intro r hr0
    walk_at "go"
    refine ⟨(by decide : 2 ≤ sizeLine), fun q hq => ?_⟩
    walk_at "go"
    have nDr : D ≠ r := ne_of_none (upd_same (H := H) (o := .dK [])) hr0
    have nrq : r ≠ q := ne_of_none upd_same hq
    have nDq : D ≠ q := fun e => by rw [← e, upd_ne nDr, upd_same] at hq; cases hq
    have hr1 : H r = none := by rw [upd_ne nDr.symm] at hr0; exact hr0
    have z1 : Same H (upd (upd (upd H D (.dK [])) r (.dK [])) q (.tup [.int 0, .str ""])) := ((Same.new hD).trans (Same.new hr0)).trans (Same.new hq)
    refine ⟨by rw [upd_ne nrq, upd_same], [(.inl 0, .ref q)], rfl, (by decide : 1 ≤ 15), ?_⟩
    have em : mergeK [] [((.inl 0 : Key), V.ref q)] = [(.inl 0, .ref q)] := rfl
    rw [em]
    have z2 := Same.mut (o := .dK [(.inl 0, .ref q)]) z1 hr1
    generalize hH1 : upd (upd (upd (upd H D (.dK [])) r (.dK [])) q (.tup [.int 0, .str ""])) r (.dK [(.inl 0, .ref q)]) = H1 at z2 ⊢
    have eD1 : H1 D = some (.dK []) := by rw [← hH1, upd_ne nDr, upd_ne nDq, upd_ne nDr, upd_same]
    have er1 : H1 r = some (.dK [(.inl 0, .ref q)]) := by rw [← hH1, upd_same]
    have eq1 : H1 q = some (.tup [.int 0, .str ""]) := by rw [← hH1, upd_ne nrq.symm, upd_same]
    have ok0 : KvOk K H1 [(.inl 0, .ref q)] (E2 (lvl sg ss 0)) := by
      have := KvOk.put (n := 0) (KvOk.nil (K := K) (H := H1)) (l := ent2 (0, [])) (SqT.of eq1)
      refine KvOk.congr this fun n => ?_
      unfold E2 lvl
      by_cases c : n = 0
      · rw [if_pos c, if_pos c]; rfl
      · rw [if_neg c, if_neg c]; rfl
    clear hH1 z1 em hq hr0 nrq nDq eq1
    walk_at "go"
    have n8 := o.n64
    refine k_rg (by omega) (by omega) ?_
    refine for_range (lo := 0) (n := (((N : Nat) : Int)).toNat) (fun i σ H' => ∃ kvD kvR r a4 a5 a6 a7, Same H H' ∧ H' D = some (.dK kvD) ∧ KvOk K H' kvD (E2 (bst sg ss i)) ∧ kvD.length ≤ 300 * i ∧ H' r = some (.dK kvR) ∧ KvOk K H' kvR (E2 (lvl sg ss i)) ∧
      kvR.length ≤ 300 ∧ r ≠ D ∧ σ = [some (.int (N : Nat)), some (.ref t), some (.int sg), some (.ref D), some (.ref r), a4, a5, a6, a7])
      ⟨[], _, r, none, none, none, none, z2, eD1, KvOk.nil, Nat.le_refl _, er1, ok0, (by decide : 1 ≤ 300), nDr.symm, rfl⟩ ?_ ?_
    · clear z2 eD1 er1 ok0 nDr hr1
      rintro i σ H2 hi ⟨kvD, kvR, r, a4, a5, a6, a7, z, eD, okD, lD, er, okR, lR, ne, rfl⟩
      have im : i < N := hi
      walk_at "go"
      refine ⟨r, D, _, _, kvR, kvD, rfl, er, okR, eD, okD, ne, by omega, fun p l H3 z3 hp0 ep mem ll => ?_⟩
      walk_at "go"
      have nDp : D ≠ p := ne_of_none eD hp0
      refine ⟨p, rfl, ⟨_, SqL.of ep⟩, for_list (xs := nats l) (fun j σ H' => ∃ kvD' a6, Same H H' ∧ H' D = some (.dK kvD') ∧ KvOk K H' kvD' (E2 fun n => if n ∈ l.take j then lvl sg ss i n else bst sg ss i n) ∧ kvD'.length ≤ 300 * i + j ∧
        H' r = some (.dK kvR) ∧ KvOk K H' kvR (E2 (lvl sg ss i)) ∧ H' p = some (.lst (nats l)) ∧ σ = [some (.int (N : Nat)), some (.ref t), some (.int sg), some (.ref D), some (.ref r), some (.int (0 + (i : Nat))), some (.ref p), a6, a7])
        ⟨kvD, a6, z.trans z3, z3 _ _ eD, (okD.tups (same_tups z3)).congr fun n => by simp [E2], by omega, z3 _ _ er, okR.tups (same_tups z3), ep, rfl⟩ (fun _ _ _ _ ⟨_, _, _, _, _, _, _, _, h, _⟩ => SqL.of h) ?_ ?_⟩
      · rintro j y σ H4 hy ⟨kvD', a6, z4, eD4, ok4, l4, er4, okR4, ep4, rfl⟩
        obtain ⟨n, hn, rfl⟩ := nats_at hy
        have jl : j < l.length := (List.getElem?_eq_some_iff.mp hn).1
        have nm := (mem n).mp (List.mem_of_getElem? hn)
        obtain ⟨yv, ey⟩ : ∃ y, lvl sg ss i n = some y := by
          unfold impr at nm
          cases e : lvl sg ss i n with
          | none => rw [e] at nm; cases nm
          | some y => exact ⟨y, rfl⟩
        obtain ⟨p4, ep4', sp4⟩ := (okR4.2 n).2 (ent2 yv) (by unfold E2; rw [ey]; rfl)
        have dg : DGet H4 r (.int (n : Nat)) (valV kvR (.inl (n : Int))) := DGet.k (k := .inl (n : Int)) er4
        rw [ep4'] at dg
        walk_at "go"
        refine ⟨r, _, rfl, dg, ?_⟩
        walk_at "go"
        refine ⟨D, _, rfl, DPut.k (k := .inl (n : Int)) eD4 (Nat.lt_trans (show kvD'.length < 30000 by omega) (by decide)), ?_⟩
        refine ⟨_, _, Same.mut z4 hD, upd_same, ?_, by have := length_putK kvD' (.inl (n : Int)) (V.ref p4); omega, by rw [upd_ne ne]; exact er4, okR4.tups (Tups.dk eD4), by rw [upd_ne nDp.symm]; exact ep4, rfl⟩
        refine ((KvOk.put (n := n) ok4 sp4).tups (Tups.dk eD4)).congr fun n' => ?_
        have m1 : n' ∈ l.take (j + 1) ↔ n' ∈ l.take j ∨ n' = n := by rw [List.take_add_one, hn, List.mem_append]; simp
        unfold E2
        dsimp only
        by_cases c : n' = n
        · rw [if_pos c, if_pos (m1.mpr (.inr c)), c, ey]
          rfl
        · rw [if_neg c]
          by_cases d : n' ∈ l.take j
          · rw [if_pos d, if_pos (m1.mpr (.inl d))]
          · rw [if_neg d, if_neg (fun z => by rcases m1.mp z with z | z; exact d z; exact c z)]
      · rintro σ H4 ⟨kvD', a6, z4, eD4, ok4, l4, er4, okR4, ep4, rfl⟩
        have tl : l.take (nats l).length = l := by unfold nats; rw [List.length_map, List.take_length]
        rw [tl] at ok4
        have ll' : (nats l).length = l.length := by unfold nats; rw [List.length_map]
        walk_at "go"
        refine ⟨t, r, sg, N, ss, _, kvR, rfl, hm.same z4, o, er4, okR4, hsg, fun n y e => by have := (lvl_sok o i n y e).2; omega, fun p' kvs' H5 z5 hp5 ep5 ok5 l5 => ?_⟩
        walk_at "go"
        refine ⟨kvD', kvs', p', _, _, _, _, z4.trans z5, z5 _ _ eD4, (ok4.tups (same_tups z5)).congr fun n => ?_, by omega, ep5, ok5, l5, (ne_of_none eD4 hp5).symm, rfl⟩
        unfold E2
        show Option.map ent2 (if n ∈ l then lvl sg ss i n else bst sg ss i n) = Option.map ent2 (if impr (lvl sg ss i) (bst sg ss i) n = true then lvl sg ss i n else bst sg ss i n)
        by_cases c : n ∈ l
        · rw [if_pos c, if_pos ((mem n).mp c)]
        · rw [if_neg c, if_neg fun q => c ((mem n).mpr q)]
    · clear z2 eD1 er1 ok0 nDr hr1
      rintro σ H2 ⟨kvD, kvR, r, a4, a5, a6, a7, z, eD, okD, lD, er, okR, lR, ne, rfl⟩
      have nn : (((N : Nat) : Int)).toNat = N := rfl
      rw [nn] at okD okR lD
      walk_at "go"
      refine ⟨r, D, _, _, kvR, kvD, rfl, er, okR, eD, okD, ne, by omega, fun p l H3 z3 hp0 ep mem ll => ?_⟩
      walk_at "go"
      have lb : ∀ n ∈ l, n < N := fun n h => by
        have nm := (mem n).mp h
        unfold impr at nm
        cases e : lvl sg ss N n with
        | none => rw [e] at nm; cases nm
        | some y => exact (lvl_sok o _ _ _ e).1
      refine ⟨t, p, N, ss, l, rfl, hm.same (z.trans z3), o, ep, lb, ll, fun q L H4 z4 hq0 eq mL up => ?_⟩
      have nDq : D ≠ q := ne_of_none (z3 _ _ eD) hq0
      have lL : L.length ≤ 64 := by
        have nd : L.Nodup := up.imp fun h => Nat.ne_of_lt h
        have b : ∀ n ∈ L, n < N := fun n h => by
          have hr2 := (mL n).mp h
          clear h
          induction hr2 with
          | base h => exact lb _ h
          | step hs _ _ => exact (o.ok _ hs).e
        have := nodup_small nd b
        omega
      walk_at "go"
      refine ⟨q, rfl, ⟨_, SqL.of eq⟩, for_list (xs := nats L) (fun j σ H' => ∃ kvD' a6, Same H H' ∧ H' D = some (.dK kvD') ∧ KvOk K H' kvD' (fun n => if n ∈ L.take j then some endE else E2 (bst sg ss N) n) ∧ kvD'.length ≤ 20000 + j ∧
        H' q = some (.lst (nats L)) ∧ σ = [some (.int (N : Nat)), some (.ref t), some (.int sg), some (.ref D), some (.ref r), a4, a5, a6, some (.ref q)])
        ⟨kvD, a6, (z.trans z3).trans z4, z4 _ _ (z3 _ _ eD), (okD.tups (same_tups (z3.trans z4))).congr fun n => by simp, by omega, eq, rfl⟩ (fun _ _ _ _ ⟨_, _, _, _, _, _, h, _⟩ => SqL.of h) ?_ ?_⟩
      · rintro j y σ H5 hy ⟨kvD', a6, z5, eD5, ok5, l5, eq5, rfl⟩
        obtain ⟨n, hn, rfl⟩ := nats_at hy
        have jl : j < L.length := (List.getElem?_eq_some_iff.mp hn).1
        walk_at "go"
        refine ⟨(by decide : 2 ≤ sizeLine), fun pn hpn => ?_⟩
        walk_at "go"
        have eD6 : (upd H5 pn (.tup [.str "endless", .non])) D = some (.dK kvD') := by rw [upd_ne (ne_of_none eD5 hpn)]; exact eD5
        have eq6 : (upd H5 pn (.tup [.str "endless", .non])) q = some (.lst (nats L)) := by rw [upd_ne (ne_of_none eq5 hpn)]; exact eq5
        refine ⟨D, _, rfl, DPut.k (k := .inl (n : Int)) eD6 (Nat.lt_trans (show kvD'.length < 30000 by omega) (by decide)), ?_⟩
        refine ⟨_, _, Same.mut (z5.trans (Same.new hpn)) hD, upd_same, ?_, by have := length_putK kvD' (.inl (n : Int)) (V.ref pn); omega, by rw [upd_ne nDq.symm]; exact eq6, rfl⟩
        refine ((KvOk.put (n := n) (ok5.tups (Tups.new hpn)) (l := endE) (SqT.of upd_same)).tups (Tups.dk eD6)).congr fun n' => ?_
        have m1 : n' ∈ L.take (j + 1) ↔ n' ∈ L.take j ∨ n' = n := by rw [List.take_add_one, hn, List.mem_append]; simp
        by_cases c : n' = n
        · rw [if_pos c, if_pos (m1.mpr (.inr c))]
        · rw [if_neg c]
          by_cases d : n' ∈ L.take j
          · rw [if_pos d, if_pos (m1.mpr (.inl d))]
          · rw [if_neg d, if_neg (fun z => by rcases m1.mp z with z | z; exact d z; exact c z)]
      · rintro σ H5 ⟨kvD', a6, z5, eD5, ok5, l5, eq5, rfl⟩
        have tl : L.take (nats L).length = L := by unfold nats; rw [List.length_map, List.take_length]
        rw [tl] at ok5
        walk_at "go"
        exact k D kvD' H5 l L z5 hD eD5 mem mL ok5
end
/-! ### a machine is one -/
def sp_check_machine (C : Addr) : Sp := fun vs H Q _ => ∃ x dx fs, vs = [.ref x] ∧ H x = some (.ins C dx fs) ∧ Q .non H
section
variable {P : Program} {w : World} {K : PySem.W.Frag} {mg : Str → Option Value} {base : Heap}
theorem ty_Machine (T : Txt K mg) {H : Hp} {x dx : Addr} {fs : List (Str × V)} (h : H x = some (.ins T.c_Machine dx fs)) : TyX K H (.ref x) (.ref T.c_Machine) := .base (.ins h T.cl_Machine T.i1_Machine T.i2_Machine T.i3_Machine T.i4_Machine)
theorem kit_self {C : Addr} : PySem.W.kitOne K (.ref C) (.ref C) = some true := by
  unfold PySem.W.kitOne
  rw [if_pos (by simp)]
theorem ok_check_machine (T : Txt K mg) : FnOk P w K mg base (L2.CX P w) 1 T.a_check_machine T.fd_check_machine ["value"] (sp_check_machine T.c_Machine) := by
  refine T.F_check_machine.okX sc_check_machine (fun vs H Q E h => ?_) (fun cdv A outer s H vs Q E hr h => ?_)
  · obtain ⟨x, dx, fs, rfl, _⟩ := h
    rfl
  · obtain ⟨x, dx, fs, rfl, hx, k⟩ := h
    refine ⟨_, (PSs.nox (pss_one (ps_if (pt_not (pt_val (pe_callB call_isi (by rfl) T.z_isinstance (by decide +kernel) (pa_cons (pv 0) (pa_cons (pe_glob (v := .ref T.c_Machine) (by rfl) T.m_Machine rfl) pa_nil)))))
  (pss_one ps_never)
  pss_nil))), ?_⟩
    walk_at "begin"
    walk_at "go"
    refine k_isi (.own _) (ty_Machine T hx) kit_self ?_
    walk_at "go"
    refine iteF ?_
    walk_at "go"
    exact k
end
/-! ### least and greatest tallies and their rows at a stand -/
theorem lvl_small {sg : Int} {m : MD} (o : m.Ok) (hsg : sg = 1 ∨ sg = -1) : ∀ i n y, lvl sg m.ss i n = some y → -(i * 10 ^ 30 : Int) ≤ y.1 ∧ y.1 ≤ i * 10 ^ 30
  | 0, n, y, e => by
    unfold lvl at e
    split at e
    · cases e; exact ⟨by decide, by decide⟩
    · cases e
  | i + 1, n, y, e => longer_ind (P := fun n y => -(((i + 1 : Nat) : Int) * 10 ^ 30) ≤ y.1 ∧ y.1 ≤ ((i + 1 : Nat) : Int) * 10 ^ 30) (fun s hs v ev => by
      have := lvl_small o hsg i _ _ ev
      have := (o.ok s hs).g
      have := (o.ok s hs).g'
      rcases hsg with rfl | rfl
      · constructor <;> dsimp only <;> omega
      · constructor <;> dsimp only <;> omega) n y e
theorem bst_of {sg : Int} {ss : List Stp} : ∀ i n y, bst sg ss i n = some y → ∃ j, j < i ∧ lvl sg ss j n = some y
  | 0, n, y, e => nomatch e
  | i + 1, n, y, e => by
    unfold bst at e
    split at e
    · exact ⟨i, Nat.lt_succ_self _, e⟩
    · obtain ⟨j, h, q⟩ := bst_of i n y e
      exact ⟨j, by omega, q⟩
def impL (sg : Int) (m : MD) : List Nat := (List.range m.n).filter fun n => impr (lvl sg m.ss m.n) (bst sg m.ss m.n) n
theorem mem_impL {sg : Int} {m : MD} (o : m.Ok) (n : Nat) : n ∈ impL sg m ↔ impr (lvl sg m.ss m.n) (bst sg m.ss m.n) n = true := by
  unfold impL
  rw [List.mem_filter, List.mem_range]
  refine ⟨fun h => h.2, fun h => ⟨?_, h⟩⟩
  unfold impr at h
  cases e : lvl sg m.ss m.n n with
  | none => rw [e] at h; cases h
  | some y => exact (lvl_ok o _ _ _ e).1
theorem reach_congr {ss : List Stp} {l l' : List Nat} (h : ∀ n, n ∈ l ↔ n ∈ l') (n : Nat) : Reach ss l n ↔ Reach ss l' n := by
  constructor
  · intro q
    induction q with
    | base q => exact .base ((h _).mp q)
    | step q _ ih => exact .step q ih
  · intro q
    induction q with
    | base q => exact .base ((h _).mpr q)
    | step q _ ih => exact .step q ih
/-- no best tally there -/
def Endl (sg : Int) (m : MD) (n : Nat) : Prop := Reach m.ss (impL sg m) n
open Classical in
noncomputable def bestE (sg : Int) (m : MD) (n : Nat) : Option (List V) := if Endl sg m n then some endE else E2 (bst sg m.ss m.n) n
open Classical in
noncomputable def tallyAt (sg : Int) (m : MD) (n : Nat) : V := if Endl sg m n then .str "endless" else match bst sg m.ss m.n n with
  | none => .non
  | some y => .int (sg * y.1)
open Classical in
noncomputable def rowAt (sg : Int) (m : MD) (n : Nat) : V := if Endl sg m n then .non else match bst sg m.ss m.n n with
  | none => .non
  | some y => .str (sOf y.2)
def sp_check_stand (K : PySem.W.Frag) (C : Addr) : Sp := fun vs H Q _ => ∃ (x : Addr) (n : Nat) (m : MD), vs = [.ref x, .int (n : Nat)] ∧ MAt K C H x m ∧ n < m.n ∧ Q .non H
def sp_at3 (K : PySem.W.Frag) (C : Addr) (f : Int → MD → Nat → V) : Sp := fun vs H Q _ => ∃ (x : Addr) (n : Nat) (sg : Int) (m : MD), vs = [.ref x, .int (n : Nat), .int sg] ∧ MAt K C H x m ∧ m.Ok ∧ n < m.n ∧ (sg = 1 ∨ sg = -1) ∧ ∀ H', Same H H' → Q (f sg m n) H'
def sp_at2 (K : PySem.W.Frag) (C : Addr) (f : MD → Nat → V) : Sp := fun vs H Q _ => ∃ (x : Addr) (n : Nat) (m : MD), vs = [.ref x, .int (n : Nat)] ∧ MAt K C H x m ∧ m.Ok ∧ n < m.n ∧ ∀ H', Same H H' → Q (f m n) H'
section
variable {P : Program} {w : World} {K : PySem.W.Frag} {mg : Str → Option Value} {base : Heap}
theorem bestE_of {sg : Int} {m : MD} {l L : List Nat} (o : m.Ok) (h : ∀ n, n ∈ l ↔ impr (lvl sg m.ss m.n) (bst sg m.ss m.n) n = true) (h2 : ∀ n, n ∈ L ↔ Reach m.ss l n) : (fun n => if n ∈ L then some endE else E2 (bst sg m.ss m.n) n) = bestE sg m := by
  funext n
  unfold bestE Endl
  have e : n ∈ L ↔ Reach m.ss (impL sg m) n := (h2 n).trans (reach_congr (fun k => (h k).trans (mem_impL o k).symm) n)
  by_cases c : n ∈ L
  · rw [if_pos c, if_pos (e.mp c)]
  · rw [if_neg c, if_neg fun z => c (e.mpr z)]
end
/-! ### what the best rows are worth -/
theorem le_of_not {v w : Wd} (h : ¬ w < v) : v ≤ w := h
theorem wd_trans {u v w : Wd} (h : ¬ v < u) (q : ¬ w < v) : ¬ w < u := List.le_trans (le_of_not h) (le_of_not q)
theorem wd_asymm {v w : Wd} (h : v < w) : ¬ w < v := List.lt_asymm h
theorem wd_snoc : ∀ {v w : Wd} {c : Nat}, v.length = w.length → (v ++ [c] < w ++ [c] ↔ v < w)
  | [], [], c, _ => by simp
  | a :: v, b :: w, c, h => by
    have ih := wd_snoc (v := v) (w := w) (c := c) (by simpa using h)
    rw [List.cons_append, List.cons_append, List.cons_lt_cons_iff, List.cons_lt_cons_iff, ih]
  | [], _ :: _, _, h => by simp at h
  | _ :: _, [], _, h => by simp at h
/-- y is at least as good as x -/
def NW (x y : Int × Wd) : Prop := x.1 < y.1 ∨ (x.1 = y.1 ∧ ¬ x.2 < y.2)
theorem NW.refl (x : Int × Wd) : NW x x := .inr ⟨rfl, List.lt_irrefl _⟩
theorem NW.trans {x y z : Int × Wd} (h : NW x y) (q : NW y z) : NW x z := by
  rcases h with h | ⟨h1, h2⟩
  · rcases q with q | ⟨q1, q2⟩
    · exact .inl (by omega)
    · exact .inl (by omega)
  · rcases q with q | ⟨q1, q2⟩
    · exact .inl (by omega)
    · exact .inr ⟨by omega, wd_trans q2 h2⟩
theorem NW.le {x y : Int × Wd} (h : NW x y) : x.1 ≤ y.1 := by
  rcases h with h | ⟨h, _⟩ <;> omega
theorem better_no {x y : Int × Wd} (h : better x (some y) = false) : NW x y := by
  have e : better x (some y) = (decide (y.1 < x.1) || (decide (x.1 = y.1) && decide (x.2 < y.2))) := rfl
  rw [e, Bool.or_eq_false_iff, Bool.and_eq_false_iff] at h
  obtain ⟨h1, h2⟩ := h
  have h1 := of_decide_eq_false h1
  by_cases c : x.1 = y.1
  · rcases h2 with h2 | h2
    · exact absurd c (of_decide_eq_false h2)
    · exact .inr ⟨c, of_decide_eq_false h2⟩
  · exact .inl (by omega)
theorem better_yes {x y : Int × Wd} (h : better x (some y) = true) : NW y x := by
  have e : better x (some y) = (decide (y.1 < x.1) || (decide (x.1 = y.1) && decide (x.2 < y.2))) := rfl
  rw [e, Bool.or_eq_true, Bool.and_eq_true] at h
  rcases h with h | ⟨h1, h2⟩
  · exact .inl (of_decide_eq_true h)
  · exact .inr ⟨(of_decide_eq_true h1).symm, wd_asymm (of_decide_eq_true h2)⟩
theorem turnL_grow {sg : Int} {f acc : RF} {s : Stp} {n : Nat} {y : Int × Wd} (h : acc n = some y) : ∃ z, turnL sg f acc s n = some z ∧ NW y z := by
  unfold turnL
  cases fb : f s.b with
  | none => exact ⟨y, h, .refl y⟩
  | some v =>
    dsimp only
    by_cases c : better (v.1 + sg * s.g, v.2 ++ [s.c]) (acc s.e) = true
    · rw [if_pos c]
      unfold RF.put
      by_cases d : n = s.e
      · rw [if_pos d]
        rw [← d, h] at c
        exact ⟨_, rfl, better_yes c⟩
      · rw [if_neg d]
        exact ⟨y, h, .refl y⟩
    · rw [if_neg c]
      exact ⟨y, h, .refl y⟩
theorem turnL_has {sg : Int} {f acc : RF} {s : Stp} {v : Int × Wd} (h : f s.b = some v) : ∃ z, turnL sg f acc s s.e = some z ∧ NW (v.1 + sg * s.g, v.2 ++ [s.c]) z := by
  unfold turnL
  rw [h]
  dsimp only
  by_cases c : better (v.1 + sg * s.g, v.2 ++ [s.c]) (acc s.e) = true
  · rw [if_pos c]
    unfold RF.put
    rw [if_pos rfl]
    exact ⟨_, rfl, .refl _⟩
  · rw [if_neg c]
    cases e : acc s.e with
    | none => rw [e] at c; exact absurd rfl c
    | some y =>
      rw [e] at c
      exact ⟨y, rfl, better_no (by simpa using c)⟩
theorem fold_grow {sg : Int} {f : RF} {n : Nat} : ∀ (ss : List Stp) (acc : RF) (y : Int × Wd), acc n = some y → ∃ z, ss.foldl (turnL sg f) acc n = some z ∧ NW y z
  | [], _, y, h => ⟨y, h, .refl y⟩
  | s :: r, acc, y, h => by
    obtain ⟨z, e, q⟩ := turnL_grow (sg := sg) (f := f) (s := s) h
    obtain ⟨z', e', q'⟩ := fold_grow r _ z e
    exact ⟨z', e', q.trans q'⟩
theorem longer_has {sg : Int} {f : RF} {s : Stp} {v : Int × Wd} (h : f s.b = some v) : ∀ (ss : List Stp), s ∈ ss → ∀ acc : RF, ∃ z, ss.foldl (turnL sg f) acc s.e = some z ∧ NW (v.1 + sg * s.g, v.2 ++ [s.c]) z
  | a :: r, hs, acc => by
    rcases List.mem_cons.mp hs with rfl | hs
    · obtain ⟨z, e, q⟩ := turnL_has (sg := sg) (f := f) (acc := acc) h
      obtain ⟨z', e', q'⟩ := fold_grow (sg := sg) (f := f) r _ z e
      exact ⟨z', e', q.trans q'⟩
    · exact longer_has h r hs _
/-- the rows -/
def stepOf (m : MD) (b c : Nat) : Option Stp := m.ss.find? fun s => s.b == b && s.c == c
def runW (m : MD) : Nat × Int → Wd → Option (Nat × Int)
  | st, [] => some st
  | st, c :: w => match stepOf m st.1 c with
    | none => none
    | some x => runW m (x.e, st.2 + x.g) w
def run (m : MD) (w : Wd) : Option (Nat × Int) := runW m (0, 0) w
theorem runW_snoc (m : MD) (c : Nat) : ∀ (w : Wd) (st : Nat × Int), runW m st (w ++ [c]) = (runW m st w).bind fun q => (stepOf m q.1 c).map fun x => (x.e, q.2 + x.g)
  | [], st => by
    show (match stepOf m st.1 c with | none => none | some x => some (x.e, st.2 + x.g)) = (stepOf m st.1 c).map _
    cases stepOf m st.1 c <;> rfl
  | a :: w, st => by
    show (match stepOf m st.1 a with | none => none | some x => runW m (x.e, st.2 + x.g) (w ++ [c])) = (match stepOf m st.1 a with | none => none | some x => runW m (x.e, st.2 + x.g) w).bind _
    cases stepOf m st.1 a with
    | none => rfl
    | some x => exact runW_snoc m c w (x.e, st.2 + x.g)
theorem stepOf_mem {m : MD} {b c : Nat} {s : Stp} (h : stepOf m b c = some s) : s ∈ m.ss ∧ s.b = b ∧ s.c = c := by
  have h1 := List.mem_of_find?_eq_some h
  have h2 := List.find?_some h
  rw [Bool.and_eq_true] at h2
  exact ⟨h1, by simpa using h2.1, by simpa using h2.2⟩
theorem stepOf_self {m : MD} (o : m.Ok) {s : Stp} (h : s ∈ m.ss) : stepOf m s.b s.c = some s := by
  cases e : stepOf m s.b s.c with
  | none =>
    have := List.find?_eq_none.mp e s h
    simp at this
  | some t =>
    obtain ⟨h1, h2, h3⟩ := stepOf_mem e
    obtain ⟨i, hi, ei⟩ := List.getElem_of_mem h
    obtain ⟨j, hj, ej⟩ := List.getElem_of_mem h1
    have up := List.pairwise_iff_getElem.mp o.up
    have : i = j := by
      rcases Nat.lt_trichotomy i j with c | c | c
      · have := up i j hi hj c
        rw [ei, ej] at this
        rcases this with z | z <;> omega
      · exact c
      · have := up j i hj hi c
        rw [ei, ej] at this
        rcases this with z | z <;> omega
    subst this
    rw [← ei, ← ej]
theorem run_snoc {m : MD} {w : Wd} {c : Nat} {n : Nat} {t : Int} : run m (w ++ [c]) = some (n, t) ↔ ∃ u t' s, run m w = some (u, t') ∧ stepOf m u c = some s ∧ n = s.e ∧ t = t' + s.g := by
  unfold run
  rw [runW_snoc]
  constructor
  · intro h
    cases e : runW m (0, 0) w with
    | none => rw [e] at h; cases h
    | some q =>
      rw [e] at h
      cases e2 : stepOf m q.1 c with
      | none =>
        have h' : (stepOf m q.1 c).map (fun x => (x.e, q.2 + x.g)) = some (n, t) := h
        rw [e2] at h'
        cases h'
      | some s =>
        have h' : (stepOf m q.1 c).map (fun x => (x.e, q.2 + x.g)) = some (n, t) := h
        rw [e2] at h'
        have h2 : (s.e, q.2 + s.g) = (n, t) := Option.some.inj h'
        injection h2 with h3 h4
        exact ⟨q.1, q.2, s, rfl, e2, h3.symm, h4.symm⟩
  · rintro ⟨u, t', s, e, e2, rfl, rfl⟩
    rw [e]
    show (stepOf m u c).map _ = _
    rw [e2]
    rfl
theorem lvl_run {sg : Int} {m : MD} (o : m.Ok) (hsg : sg = 1 ∨ sg = -1) : ∀ i n y, lvl sg m.ss i n = some y → run m y.2 = some (n, sg * y.1)
  | 0, n, y, e => by
    unfold lvl at e
    split at e
    · rename_i q
      cases e
      rw [q, Int.mul_zero]
      rfl
    · cases e
  | i + 1, n, y, e => longer_ind (P := fun n y => run m y.2 = some (n, sg * y.1)) (fun s hs v ev => by
      refine run_snoc.mpr ⟨s.b, _, s, lvl_run o hsg i _ _ ev, stepOf_self o hs, rfl, ?_⟩
      rcases hsg with rfl | rfl
      · omega
      · omega) n y e
theorem lvl_best {sg : Int} {m : MD} (o : m.Ok) (hsg : sg = 1 ∨ sg = -1) : ∀ i (w : Wd) n t, w.length = i → run m w = some (n, t) → ∃ y, lvl sg m.ss i n = some y ∧ NW (sg * t, w) y := by
  intro i
  induction i with
  | zero =>
    intro w n t hl hr
    have : w = [] := List.eq_nil_of_length_eq_zero hl
    subst this
    cases hr
    exact ⟨(0, []), rfl, .inr ⟨by rw [Int.mul_zero], by simp⟩⟩
  | succ i ih =>
    intro w n t hl hr
    rcases List.eq_nil_or_concat w with rfl | ⟨w', c, e⟩
    · cases hl
    · rw [List.concat_eq_append] at e
      subst e
      obtain ⟨u, t', s, h1, h2, rfl, rfl⟩ := run_snoc.mp hr
      obtain ⟨hs, hb, hc⟩ := stepOf_mem h2
      have hl' : w'.length = i := by simpa using hl
      obtain ⟨v, ev, nv⟩ := ih w' u t' hl' h1
      have lv := (lvl_ok o i _ _ ev).2
      rw [← hb] at ev
      obtain ⟨z, ez, nz⟩ := longer_has (sg := sg) ev m.ss hs fun _ => none
      refine ⟨z, ez, NW.trans ?_ nz⟩
      rw [hc]
      have e1 : sg * (t' + s.g) = sg * t' + sg * s.g := Int.mul_add ..
      rcases nv with nv | ⟨n1, n2⟩
      · exact .inl (by show sg * (t' + s.g) < v.1 + sg * s.g; dsimp only at nv; omega)
      · refine .inr ⟨by show sg * (t' + s.g) = v.1 + sg * s.g; dsimp only at n1; omega, fun q => n2 ((wd_snoc (by rw [hl', lv])).mp q)⟩
/-- the best of the lengths below i, and where it is found first -/
theorem bst_spec {sg : Int} {ss : List Stp} {n : Nat} : ∀ i y, bst sg ss i n = some y → (∃ j, j < i ∧ lvl sg ss j n = some y ∧ ∀ k x, k < j → lvl sg ss k n = some x → x.1 < y.1) ∧ ∀ k x, k < i → lvl sg ss k n = some x → x.1 ≤ y.1
  | 0, _, h => nomatch h
  | i + 1, y, h => by
    unfold bst at h
    split at h
    · rename_i c
      have up : ∀ k x, k < i → lvl sg ss k n = some x → x.1 < y.1 := fun k x hk ex => by
        unfold impr at c
        rw [h] at c
        dsimp only at c
        cases eb : bst sg ss i n with
        | none =>
          exfalso
          have none_of : ∀ i, bst sg ss i n = none → ∀ k, k < i → lvl sg ss k n = none := by
            intro i
            induction i with
            | zero => exact fun _ k hk => absurd hk (Nat.not_lt_zero _)
            | succ i ih =>
              intro hn k hk
              unfold bst at hn
              split at hn
              · rename_i q
                unfold impr at q
                rw [hn] at q
                cases q
              · rename_i q
                by_cases e : k = i
                · cases el : lvl sg ss i n with
                  | none => rw [e]; exact el
                  | some z =>
                    exfalso
                    apply q
                    unfold impr
                    rw [el, hn]
                · exact ih hn k (by omega)
          have := none_of i eb k hk
          rw [ex] at this
          cases this
        | some z =>
          rw [eb] at c
          have c' := of_decide_eq_true c
          have := (bst_spec i z eb).2 k x hk ex
          omega
      refine ⟨⟨i, Nat.lt_succ_self _, h, up⟩, fun k x hk ex => ?_⟩
      by_cases e : k = i
      · rw [e, h] at ex
        cases ex
        exact Int.le_refl _
      · exact Int.le_of_lt (up k x (by omega) ex)
    · rename_i c
      obtain ⟨⟨j, hj, ej, up⟩, all⟩ := bst_spec i y h
      refine ⟨⟨j, by omega, ej, up⟩, fun k x hk ex => ?_⟩
      by_cases e : k = i
      · unfold impr at c
        rw [e] at ex
        rw [ex, h] at c
        have c' : ¬ decide (y.1 < x.1) = true := c
        have : ¬ y.1 < x.1 := fun z => c' (decide_eq_true z)
        omega
      · exact all k x (by omega) ex
theorem bst_has {sg : Int} {ss : List Stp} {n : Nat} : ∀ i k x, k < i → lvl sg ss k n = some x → ∃ y, bst sg ss i n = some y
  | i + 1, k, x, hk, ex => by
    unfold bst
    by_cases c : impr (lvl sg ss i) (bst sg ss i) n = true
    · rw [if_pos c]
      unfold impr at c
      cases e : lvl sg ss i n with
      | none => rw [e] at c; cases c
      | some y => exact ⟨y, rfl⟩
    · rw [if_neg c]
      by_cases e : k = i
      · rw [e] at ex
        unfold impr at c
        rw [ex] at c
        cases eb : bst sg ss i n with
        | none => rw [eb] at c; exact absurd rfl c
        | some y => exact ⟨y, rfl⟩
      · exact bst_has i k x (by omega) ex
/-- no row is better, if there is a best one -/
theorem no_better {sg : Int} {m : MD} (o : m.Ok) (hsg : sg = 1 ∨ sg = -1) : ∀ (k : Nat) (w : Wd) n t, w.length = k → run m w = some (n, t) → ¬ Endl sg m n → ∃ y, bst sg m.ss m.n n = some y ∧ sg * t ≤ y.1 := by
  have up : ∀ j x n, j ≤ m.n → lvl sg m.ss j n = some x → ¬ Endl sg m n → ∃ y, bst sg m.ss m.n n = some y ∧ x.1 ≤ y.1 := fun j x n hj ex hn => by
    by_cases c : j < m.n
    · obtain ⟨y, ey⟩ := bst_has m.n j x c ex
      exact ⟨y, ey, (bst_spec _ _ ey).2 j x c ex⟩
    · have e : j = m.n := by omega
      rw [e] at ex
      have ni : ¬ impr (lvl sg m.ss m.n) (bst sg m.ss m.n) n = true := fun q => hn (.base ((mem_impL o n).mpr q))
      unfold impr at ni
      rw [ex] at ni
      cases eb : bst sg m.ss m.n n with
      | none => rw [eb] at ni; exact absurd rfl ni
      | some y =>
        rw [eb] at ni
        refine ⟨y, rfl, ?_⟩
        have : ¬ y.1 < x.1 := fun z => ni (decide_eq_true z)
        omega
  intro k
  induction k with
  | zero =>
    intro w n t hl hr hn
    have e0 : w = [] := List.eq_nil_of_length_eq_zero hl
    subst e0
    cases hr
    obtain ⟨y, ey, hy⟩ := up 0 (0, []) 0 (Nat.zero_le _) rfl hn
    exact ⟨y, ey, by rw [Int.mul_zero]; exact hy⟩
  | succ k ih =>
    intro w n t hl hr hn
    rcases List.eq_nil_or_concat w with rfl | ⟨w', c, e⟩
    · cases hl
    · rw [List.concat_eq_append] at e
      subst e
      obtain ⟨u, t', s, h1, h2, rfl, rfl⟩ := run_snoc.mp hr
      obtain ⟨hs, hb, hc⟩ := stepOf_mem h2
      have hu : ¬ Endl sg m u := fun q => hn (.step hs (by rw [hb]; exact q))
      obtain ⟨y, ey, hy⟩ := ih w' u t' (by simpa using hl) h1 hu
      obtain ⟨⟨j, hj, ej, _⟩, _⟩ := bst_spec _ _ ey
      have r1 := lvl_run o hsg j _ _ ej
      have l1 := (lvl_ok o j _ _ ej).2
      obtain ⟨x, ex, nx⟩ := lvl_best o hsg (j + 1) (y.2 ++ [c]) s.e (sg * y.1 + s.g) (by rw [List.length_append, l1]; rfl) (run_snoc.mpr ⟨u, _, s, r1, h2, rfl, rfl⟩)
      obtain ⟨z, ez, hz⟩ := up (j + 1) x s.e (by omega) ex hn
      refine ⟨z, ez, ?_⟩
      have := nx.le
      dsimp only at this
      rcases hsg with rfl | rfl
      · omega
      · omega
/-- the best one that is told is the least of the shortest ones -/
theorem first_best {sg : Int} {m : MD} (o : m.Ok) (hsg : sg = 1 ∨ sg = -1) {w : Wd} {n : Nat} {t : Int} {y : Int × Wd} (hr : run m w = some (n, t)) (ey : bst sg m.ss m.n n = some y) (ht : sg * t = y.1) : y.2.length < w.length ∨ (y.2.length = w.length ∧ ¬ w < y.2) := by
  obtain ⟨⟨j, hj, ej, first⟩, all⟩ := bst_spec _ _ ey
  have l1 := (lvl_ok o j _ _ ej).2
  by_cases c : w.length < m.n
  · obtain ⟨x, ex, nx⟩ := lvl_best o hsg w.length w n t rfl hr
    have hx := all _ _ c ex
    rcases nx with nx | ⟨n1, n2⟩
    · dsimp only at nx
      omega
    · dsimp only at n1 n2
      rcases Nat.lt_trichotomy w.length j with d | d | d
      · have := first _ _ d ex
        omega
      · rw [d, ej] at ex
        cases ex
        exact .inr ⟨by omega, n2⟩
      · exact .inl (by omega)
  · exact .inl (by omega)
/-! ### two words one after the other -/
theorem runW_append (m : MD) (v : Wd) : ∀ (u : Wd) (st : Nat × Int), runW m st (u ++ v) = (runW m st u).bind fun q => runW m q v
  | [], st => rfl
  | a :: u, st => by
    show (match stepOf m st.1 a with | none => none | some x => runW m (x.e, st.2 + x.g) (u ++ v)) = (match stepOf m st.1 a with | none => none | some x => runW m (x.e, st.2 + x.g) u).bind _
    cases stepOf m st.1 a with
    | none => rfl
    | some x => exact runW_append m v u (x.e, st.2 + x.g)
/-! ### the steps from a stand -/
def nxV (s : Stp) : List V := [.str ⟨#[s.c]⟩, .int (s.e : Nat), .int s.g]
def NxAt (K : PySem.W.Frag) (H : Hp) (vs : List V) (ns : List Stp) : Prop := vs.length = ns.length ∧ ∀ (i : Nat) (s : Stp), ns[i]? = some s → ∃ p, vs[i]? = some (V.ref p) ∧ SqT K H p (nxV s)
theorem NxAt.tups {K : PySem.W.Frag} {H H' : Hp} {vs : List V} {ns : List Stp} (h : NxAt K H vs ns) (t : Tups H H') : NxAt K H' vs ns := ⟨h.1, fun i s e => let ⟨p, q, z⟩ := h.2 i s e; ⟨p, q, t.sq z⟩⟩
theorem NxAt.snoc {K : PySem.W.Frag} {H : Hp} {vs : List V} {ns : List Stp} {p : Addr} {s : Stp} (h : NxAt K H vs ns) (q : SqT K H p (nxV s)) : NxAt K H (vs ++ [V.ref p]) (ns ++ [s]) := by
  refine ⟨by rw [List.length_append, List.length_append, h.1]; rfl, fun i t e => ?_⟩
  by_cases c : i < ns.length
  · rw [List.getElem?_append_left c] at e
    obtain ⟨r, e1, q1⟩ := h.2 i t e
    exact ⟨r, by rw [List.getElem?_append_left (by rw [h.1]; exact c)]; exact e1, q1⟩
  · rw [List.getElem?_append_right (by omega)] at e
    have z : i - ns.length = 0 := by
      have := (List.getElem?_eq_some_iff.mp e).1
      simp at this
      omega
    rw [z] at e
    cases e
    exact ⟨p, by rw [List.getElem?_append_right (by rw [h.1]; omega), h.1, z]; rfl, q⟩
def fromS (m : MD) (n : Nat) : List Stp := m.ss.filter fun s => s.b == n
def sp_next (K : PySem.W.Frag) : Sp := fun vs H Q _ => ∃ (d : Addr) (n : Nat) (m : MD), vs = [.ref d, .int (n : Nat)] ∧ DAt K H d m ∧ m.Ok ∧
  ∀ p us H', Same H H' → H p = none → H' p = some (.lst us) → NxAt K H' us (fromS m n) → Q (.ref p) H'
section
variable {P : Program} {w : World} {K : PySem.W.Frag} {mg : Str → Option Value} {base : Heap}
theorem ok_law_next (T : Txt K mg) : FnOk P w K mg base (L2.CX P w) 1 T.a_law_next T.fd_law_next ["_law_d", "_law_stand"] (sp_next K) := by
  refine T.F_law_next.okX sc_law_next (fun vs H Q E h => ?_) (fun cdv A outer s H vs Q E hr h => ?_)
  · obtain ⟨d, n, m, rfl, _⟩ := h
    rfl
  · obtain ⟨d, n, m, rfl, ⟨t, u, hd, ⟨us, ht, hs⟩, hu⟩, o, k⟩ := h
    refine ⟨_, (PSs.nox (pss_one (ps_ret (pe_lc (own := [("_law_begun", 2), ("_law_letter", 3), ("_law_end", 4), ("_law_gain", 5)]) (g := (gTup K 4 (gCons (gName 2) (gCons (gName 3) (gCons (gName 4) (gCons (gName 5) gNil)))))) rfl sc_law_next.nd (pi_tup (pe_dget (hu_of hr) (pv 0) pe_str (fun _ _ => rfl))) (blkOk_by (own := [("_law_begun", 2), ("_law_letter", 3), ("_law_end", 4), ("_law_gain", 5)]) (N := ["_law_d", "_law_stand", "_law_begun", "_law_letter", "_law_end", "_law_gain"]) (sc := defScope s_law_next) (by decide +kernel)) (fun _ _ _ _ _ => (pg_tup rfl (pgs_cons (pg_name (i := 2) sc_law_next.nd rfl (Or.inl rfl)) (pgs_cons (pg_name (i := 3) sc_law_next.nd rfl (Or.inl rfl)) (pgs_cons (pg_name (i := 4) sc_law_next.nd rfl (Or.inl rfl)) (pgs_cons (pg_name (i := 5) sc_law_next.nd rfl (Or.inl rfl)) pgs_nil)))))) (fun _ _ _ _ _ => (pts_one (pt_cmpR op_eq (pv 2) (pv 1) (nomark _)))) (fun _ _ _ _ _ => (pe_tup (pa_cons (pv 3) (pa_cons (pv 4) (pa_cons (pv 5) pa_nil))))))))), ?_⟩
    walk_at "begin"
    walk_at "go"
    refine ⟨d, .ref t, rfl, DGet.k (k := .inr "steps") hd, t, rfl, ⟨us, ht⟩, fun D hD => ?_⟩
    refine lc_tup (xs := us) (fun i H' => Same H H' ∧ ∃ ws, H' D = some (.lst ws) ∧ NxAt K H' ws ((m.ss.take i).filter fun s => s.b == n) ∧ ws.length ≤ i) ⟨Same.new hD, [], upd_same, ⟨rfl, fun i s e => by simp at e⟩, Nat.le_refl _⟩
      (fun i H' _ ⟨z, _⟩ => (same_tups z).sq ht) ?_ ?_
    · rintro i y H1 hy ⟨z, ws, eD, nx, lw⟩
      have il : i < m.ss.length := by rw [← hs.1]; exact (List.getElem?_eq_some_iff.mp hy).1
      have ei : m.ss[i]? = some (m.ss[i]'il) := List.getElem?_eq_getElem il
      obtain ⟨q, eq, hq⟩ := hs.2 i _ ei
      rw [hy] at eq
      cases eq
      have l32 := o.len
      have tk : (m.ss.take (i + 1)).filter (fun s => s.b == n) = (m.ss.take i).filter (fun s => s.b == n) ++ (if (m.ss[i]'il).b == n then [m.ss[i]'il] else []) := by
        rw [List.take_add_one, ei, List.filter_append]
        congr 1
        show List.filter _ [m.ss[i]'il] = _
        rw [List.filter_cons]
        rfl
      rw [tk]
      generalize m.ss[i]'il = s0 at hq
      refine k_gt ((same_tups z).sq hq) rfl ?_
      unfold stpV
      walk_at "go"
      refine ⟨rfl, ?_⟩
      walk_at "go"
      refine k_ite (fun c => ?_) (fun c => ?_)
      · have c' : s0.b = n := by
          injection c with c
          omega
        walk_at "go"
        refine ⟨(by decide : 3 ≤ sizeLine), fun pn hpn => ?_⟩
        have eD2 : (upd H1 pn (.tup [.str ⟨#[s0.c]⟩, .int (s0.e : Nat), .int s0.g])) D = some (.lst ws) := by rw [upd_ne (ne_of_none eD hpn)]; exact eD
        refine ⟨ws, eD2, Nat.lt_trans (show ws.length < 100 by omega) (by decide), Same.mut (z.trans (Same.new hpn)) hD, _, upd_same, ?_, by rw [List.length_append, List.length_singleton]; omega⟩
        rw [if_pos (by rw [c']; exact beq_self_eq_true n)]
        exact ((nx.tups (Tups.new hpn)).snoc (SqT.of upd_same)).tups (Tups.lst eD2)
      · have c' : ¬ s0.b = n := fun z => c (by rw [z])
        refine ⟨z, ws, eD, ?_, by omega⟩
        rw [if_neg (by simpa using c'), List.append_nil]
        exact nx
    · rintro H1 ⟨z, ws, eD, nx, lw⟩
      rw [hs.1, List.take_length] at nx
      walk_at "go"
      exact k D ws H1 z hD eD nx
end
/-! ### words; the steps told as data -/
theorem bl_ne (b : Bool) : decide (V.bl (!b) = V.bl b) = false := by cases b <;> rfl
theorem sOf_fits {w : Wd} (h : w.length ≤ 100) : (sOf w).length ≤ sizeLine := by rw [sOf_len]; exact Nat.le_trans h (by decide)
theorem dp2 {K : PySem.W.Frag} {H : Hp} {p : Addr} {i j : Int} (h : SqT K H p [.int i, .int j]) : Dp K H (.ref p) (.tuple [.int i, .int j]) := .tup h (.cons (.int _) (.cons (.int _) .nil))
theorem eqv2 (i j : Int) : PyData.eqv (.tuple [.int i, .int j]) (.tuple [.int i, .int j]) = true := by
  show ((i == i) && ((j == j) && true)) = true
  simp
def nxD (s : Stp) : PyData := .tuple [.str ⟨#[s.c]⟩, .int (s.e : Nat), .int s.g]
theorem dp_nx {K : PySem.W.Frag} {H : Hp} : ∀ {us : List V} {ns : List Stp}, NxAt K H us ns → DpAll K H us (ns.map nxD)
  | [], [], _ => .nil
  | [], _ :: _, h => by have := h.1; simp at this
  | _ :: _, [], h => by have := h.1; simp at this
  | v :: us, s :: ns, h => by
    obtain ⟨p, e, q⟩ := h.2 0 s rfl
    have ev : v = .ref p := Option.some.inj e
    subst ev
    refine .cons (.tup q (.cons (.str _) (.cons (.int _) (.cons (.int _) .nil)))) (dp_nx (ns := ns) ⟨by have := h.1; simpa using this, fun i t et => h.2 (i + 1) t et⟩)
theorem nx_shaped : ∀ {ns : List Stp}, (∀ s ∈ ns, s.c ≤ 100) → PyData.canLayAll0 (ns.map nxD) = true ∧ PyData.depthAll (ns.map nxD) ≤ 3
  | [], _ => ⟨rfl, Nat.zero_le _⟩
  | s :: ns, h => by
    obtain ⟨h1, h2⟩ := nx_shaped (ns := ns) fun t ht => h t (List.mem_cons_of_mem _ ht)
    have hc := h s List.mem_cons_self
    constructor
    · show (PyData.canLay0 (nxD s) && PyData.canLayAll0 (ns.map nxD)) = true
      rw [h1, Bool.and_true]
      show ((#[s.c].all (· < 0x110000)) && (true && (true && true))) = true
      simp
      omega
    · show max (PyData.depth (nxD s)) (PyData.depthAll (ns.map nxD)) ≤ 3
      have : PyData.depth (nxD s) ≤ 3 := by
        show max _ (max _ (max _ _)) + 1 ≤ 3
        simp [PyData.depth, PyData.depthAll]
      omega
theorem nx_sh {ns : List Stp} (h : ∀ s ∈ ns, s.c ≤ 100) : SeqAt.shaped (.list (ns.map nxD)) = true := by
  obtain ⟨h1, h2⟩ := nx_shaped h
  show (PyData.canLayAll0 (ns.map nxD) && decide (PyData.depthAll (ns.map nxD) + 1 ≤ 64)) = true
  rw [h1, Bool.true_and]
  exact decide_eq_true (by omega)
theorem nx_eqv (ns : List Stp) : PyData.eqv (.list (ns.map nxD)) (.list []) = ns.isEmpty := by
  cases ns with
  | nil => rfl
  | cons s ns => rfl
/-! ### the reached stands, round by round -/
theorem addN_len {F : List Nat} {n : Nat} : F.length ≤ (addN F n).length := by
  unfold addN
  split
  · exact Nat.le_refl _
  · rw [List.length_append]
    omega
def ClosedS (m : MD) (F : List Nat) : Prop := ∀ s ∈ m.ss, s.b ∈ F → s.e ∈ F
theorem reach_closed {m : MD} {F : List Nat} (h0 : 0 ∈ F) (c : ClosedS m F) : ∀ n, Reach m.ss [0] n → n ∈ F := fun n q => by
  induction q with
  | base q => rw [List.mem_singleton.mp q]; exact h0
  | step hs _ ih => exact c _ hs ih
theorem mem_fromS' {m : MD} {n : Nat} {s : Stp} : s ∈ fromS m n ↔ s ∈ m.ss ∧ s.b = n := by
  unfold fromS
  rw [List.mem_filter]
  simp
/-- what stands found in a round: of F those before, at least those of G and of what they lead to, but no others than the reached ones -/
structure Fd (m : MD) (F : List Nat) : Prop where
  zero : 0 ∈ F
  nd : F.Nodup
  lt : ∀ k ∈ F, k < m.n
  re : ∀ k ∈ F, Reach m.ss [0] k
theorem Fd.add {m : MD} {F : List Nat} (o : m.Ok) (h : Fd m F) {s : Stp} (hs : s ∈ m.ss) (hb : s.b ∈ F) : Fd m (addN F s.e) :=
  ⟨addN_mem.mpr (.inl h.zero), addN_nodup h.nd, fun k hk => by
    rcases addN_mem.mp hk with hk | rfl
    · exact h.lt k hk
    · exact (o.ok s hs).e, fun k hk => by
    rcases addN_mem.mp hk with hk | rfl
    · exact h.re k hk
    · exact .step hs (h.re _ hb)⟩
theorem asc_eq : ∀ {l l' : List Nat}, l.Pairwise (· < ·) → l'.Pairwise (· < ·) → (∀ n, n ∈ l ↔ n ∈ l') → l = l'
  | [], [], _, _, _ => rfl
  | [], a :: _, _, _, h => absurd ((h a).mpr List.mem_cons_self) (by simp)
  | a :: _, [], _, _, h => absurd ((h a).mp List.mem_cons_self) (by simp)
  | a :: l, b :: l', h1, h2, h => by
    have p1 := List.pairwise_cons.mp h1
    have p2 := List.pairwise_cons.mp h2
    have e : a = b := by
      rcases List.mem_cons.mp ((h a).mp List.mem_cons_self) with e | e
      · exact e
      · rcases List.mem_cons.mp ((h b).mpr List.mem_cons_self) with d | d
        · exact d.symm
        · have := p1.1 b d
          have := p2.1 a e
          omega
    subst e
    rw [asc_eq p1.2 p2.2 fun n => ⟨fun q => by
      rcases List.mem_cons.mp ((h n).mp (List.mem_cons_of_mem _ q)) with e | e
      · have := p1.1 n q; omega
      · exact e, fun q => by
      rcases List.mem_cons.mp ((h n).mpr (List.mem_cons_of_mem _ q)) with e | e
      · have := p2.1 n q; omega
      · exact e⟩]
def Grown (l l' : List Nat) : Prop := (∀ k ∈ l, k ∈ l') ∧ (l' = l ∨ l.length < l'.length)
theorem Grown.add {l l' : List Nat} {n : Nat} (g : Grown l l') : Grown l (addN l' n) := by
  refine ⟨fun k hk => addN_mem.mpr (.inl (g.1 k hk)), ?_⟩
  unfold addN
  split
  · exact g.2
  · right
    rw [List.length_append, List.length_singleton]
    rcases g.2 with e | e
    · rw [e]; omega
    · omega
theorem inV_nats (n : Nat) : ∀ l : List Nat, inV (.int (n : Nat)) (nats l) = decide (n ∈ l)
  | [] => rfl
  | a :: l => by
    have ih := inV_nats n l
    unfold inV nats at ih ⊢
    rw [List.map_cons, List.any_cons, ih]
    have e : eqV (.int (a : Nat)) (.int (n : Nat)) = decide (n = a) := by
      show ((((a : Nat) : Int)) == ((n : Nat) : Int)) = decide (n = a)
      rw [Bool.eq_iff_iff, beq_iff_eq, decide_eq_true_iff]
      omega
    rw [e]
    by_cases c : n = a
    · subst c
      simp
    · simp [c]
theorem flat_nats : ∀ l : List Nat, (nats l).all flatV = true
  | [] => rfl
  | a :: l => by
    show (flatV (.int (a : Nat)) && (nats l).all flatV) = true
    rw [flat_nats l]
    rfl
def sp_lreached (K : PySem.W.Frag) : Sp := fun vs H Q _ => ∃ (d : Addr) (m : MD), vs = [.ref d] ∧ DAt K H d m ∧ m.Ok ∧
  ∀ q (l' : List Nat) H', Same H H' → H q = none → H' q = some (.lst (nats l')) → (∀ n, n ∈ l' ↔ Reach m.ss [0] n) → l'.Pairwise (· < ·) → Q (.ref q) H'
def sp_reached (K : PySem.W.Frag) (C : Addr) : Sp := fun vs H Q _ => ∃ (x : Addr) (m : MD), vs = [.ref x] ∧ MAt K C H x m ∧ m.Ok ∧
  ∀ q (l' : List Nat) H', Same H H' → H q = none → H' q = some (.lst (nats l')) → (∀ n, n ∈ l' ↔ Reach m.ss [0] n) → l'.Pairwise (· < ·) → Q (.ref q) H'
section
variable {P : Program} {w : World} {K : PySem.W.Frag} {mg : Str → Option Value} {base : Heap}
theorem ok_law_reached (T : Txt K mg) : FnOk P w K mg base (L2.CX P w) 2 T.a_law_reached T.fd_law_reached ["_law_d"] (sp_lreached K) := by
  refine T.F_law_reached.okX sc_law_reached (fun vs H Q E h => ?_) (fun cdv A outer s H vs Q E hr h => ?_)
  · obtain ⟨d, m, rfl, _⟩ := h
    rfl
  · obtain ⟨d, m, rfl, hd, o, k⟩ := h
    refine ⟨_, (PSs.nox (pss_cons (ps_set (i := 1) sc_law_reached.nd rfl (Or.inl rfl) (pe_lst (pa_cons pe_int pa_nil)))
  (pss_cons (ps_for PassesOwn.never rfl (pi_range1 (by rfl) T.z_range (pa_cons (pe_dget (hu_of hr) (pv 0) pe_str (fun _ _ => rfl)) pa_nil)) (pg_name (i := 2) sc_law_reached.nd rfl (Or.inl rfl))
  (pss_one (ps_for PassesOwn.never rfl (pi_list (pe_callTy call_list_of (by rfl) T.z_list PySem.Pv.boot_list (pa_cons (pv 1) pa_nil))) (pg_name (i := 3) sc_law_reached.nd rfl (Or.inl rfl))
  (pss_one (ps_for PassesOwn.never rfl (pi_list (pe_call (ok_law_next T) (hr.mono (by decide)) (by rfl) T.m_law_next T.k_law_next T.b_law_next .nil passL (pa_cons (pv 0) (pa_cons (pv 3) pa_nil)))) (pg_tup rfl (pgs_cons (pg_name (i := 4) sc_law_reached.nd rfl (Or.inl rfl)) (pgs_cons (pg_name (i := 5) sc_law_reached.nd rfl (Or.inl rfl)) (pgs_cons (pg_name (i := 6) sc_law_reached.nd rfl (Or.inl rfl)) pgs_nil))))
  (pss_one (ps_if (pt_cmpR op_notIn_seq (pv 5) (pv 1) (by rfl))
  (pss_one (ps_expr (pe_bm PySem.F.plainAttrs_list PySem.F.slot_list_append PySem.F.type_list_append mt_append (pv 1) (pa_cons (pv 5) pa_nil))))
  pss_nil)))))))
  (pss_one (ps_ret (pe_callB cr_sortedI (by rfl) T.z_sorted (by decide +kernel) (pa_cons (pv 1) pa_nil))))))), ?_⟩
    walk_at "begin"
    walk_at "go"
    refine ⟨(by decide : 1 ≤ sizeLine), fun F hF => ?_⟩
    walk_at "go"
    have zF := Same.new (o := .lst [.int 0]) hF
    have eF := upd_same (H := H) (a := F) (o := .lst [.int 0])
    have n8 := o.n8
    generalize upd H F (.lst [.int 0]) = H1 at zF eF ⊢
    obtain ⟨t, u, ed, _⟩ := id hd
    refine ⟨d, .int (m.n : Nat), rfl, DGet.k (k := .inr "stands") (zF _ _ ed), ?_⟩
    walk_at "go"
    refine k_rg (by omega) (by omega) ?_
    refine for_range (lo := 0) (n := (((m.n : Nat) : Int)).toNat) (fun i σ H' => ∃ l a2 a3 a4 a5 a6, Same H H' ∧ H' F = some (.lst (nats l)) ∧ Fd m l ∧ (ClosedS m l ∨ i + 1 ≤ l.length) ∧ σ = [some (.ref d), some (.ref F), a2, a3, a4, a5, a6])
      ⟨[0], _, _, _, _, _, zF, eF, ⟨List.mem_singleton.mpr rfl, by simp, fun k hk => by rw [List.mem_singleton.mp hk]; exact o.n1, fun k hk => .base hk⟩, .inr (Nat.le_refl _), rfl⟩ ?_ ?_
    · rintro i σ H2 hi ⟨l, a2, a3, a4, a5, a6, z2, eF2, fd, hcl, rfl⟩
      walk_at "go"
      refine ⟨F, nats l, rfl, .inl (SqL.of eF2), fun G hG => ?_⟩
      have zG := Same.new (o := .lst (nats l)) hG
      have eG := upd_same (H := H2) (a := G) (o := .lst (nats l))
      have nGF : G ≠ F := by intro e; rw [e, eF2] at hG; cases hG
      have z3 := z2.trans zG
      have eF3 := zG _ _ eF2
      generalize upd H2 G (.lst (nats l)) = H3 at z3 eF3 eG ⊢
      refine ⟨G, rfl, ⟨_, SqL.of eG⟩, for_list (xs := nats l) (fun j σ H' => ∃ l' a3 a4 a5 a6, Same H H' ∧ H' G = some (.lst (nats l)) ∧ H' F = some (.lst (nats l')) ∧ Fd m l' ∧ Grown l l' ∧ (∀ b n, b < j → l[b]? = some n → ∀ s ∈ m.ss, s.b = n → s.e ∈ l') ∧
          σ = [some (.ref d), some (.ref F), some (.int (0 + (i : Nat))), a3, a4, a5, a6])
        ⟨l, _, _, _, _, z3, eG, eF3, fd, ⟨fun _ h => h, .inl rfl⟩, fun b n h => absurd h (Nat.not_lt_zero _), rfl⟩ (fun _ _ _ _ ⟨_, _, _, _, _, _, e, _⟩ => SqL.of e) ?_ ?_⟩
      · rintro j y σ H4 hy ⟨l', b3, b4, b5, b6, z4, eG4, eF4, fd4, g4, al, rfl⟩
        obtain ⟨n, en, rfl⟩ := nats_at hy
        have hn : n ∈ l := List.mem_of_getElem? en
        walk_at "go"
        refine ⟨d, n, m, rfl, hd.same z4, o, fun p us H5 z5 hp ep nx => ?_⟩
        have npF : p ≠ F := by intro e; rw [e, eF4] at hp; cases hp
        refine ⟨p, rfl, ⟨_, SqL.of ep⟩, for_list (xs := us) (fun c σ H' => ∃ l' a4 a5 a6, Same H H' ∧ H' G = some (.lst (nats l)) ∧ H' F = some (.lst (nats l')) ∧ H' p = some (.lst us) ∧ NxAt K H' us (fromS m n) ∧ Fd m l' ∧ Grown l l' ∧ (∀ b n, b < j → l[b]? = some n → ∀ s ∈ m.ss, s.b = n → s.e ∈ l') ∧
            (∀ s ∈ (fromS m n).take c, s.e ∈ l') ∧ σ = [some (.ref d), some (.ref F), some (.int (0 + (i : Nat))), some (.int (n : Nat)), a4, a5, a6])
          ⟨l', _, _, _, z4.trans z5, z5 _ _ eG4, z5 _ _ eF4, ep, nx, fd4, g4, al, fun s hs => by simp at hs, rfl⟩ (fun _ _ _ _ ⟨_, _, _, _, _, _, _, e, _⟩ => SqL.of e) ?_ ?_⟩
        · rintro c y σ H6 hc ⟨l2, c4, c5, c6, z6, eG6, eF6, ep6, nx6, fd6, g6, al6, tk6, rfl⟩
          have cl : c < (fromS m n).length := by rw [← nx6.1]; exact (List.getElem?_eq_some_iff.mp hc).1
          have es : (fromS m n)[c]? = some ((fromS m n)[c]'cl) := List.getElem?_eq_getElem cl
          have hs : (fromS m n)[c]'cl ∈ fromS m n := List.getElem_mem cl
          have tk : (fromS m n).take (c + 1) = (fromS m n).take c ++ [(fromS m n)[c]'cl] := by rw [List.take_add_one, es]; rfl
          rw [tk]
          generalize (fromS m n)[c]'cl = s0 at es hs
          obtain ⟨hs1, hs2⟩ := mem_fromS'.mp hs
          obtain ⟨q, eq, hq⟩ := nx6.2 _ _ es
          rw [hc] at eq
          cases eq
          refine k_gt hq rfl ?_
          unfold nxV
          walk_at "go"
          refine ⟨F, nats l2, rfl, .inl (SqL.of eF6), rfl, flat_nats _, ?_⟩
          rw [inV_nats]
          have nF : H F = none ∨ True := .inr trivial
          have l2l : l2.length ≤ 8 := Nat.le_trans (nodup_small fd6.nd fd6.lt) n8
          have fd7 := fd6.add o hs1 (by rw [hs2]; exact g6.1 n hn)
          have e7 : ∀ k, k ∈ l2 → k ∈ addN l2 s0.e := fun k hk => addN_mem.mpr (.inl hk)
          walk_at "go"
          refine k_iteN (fun c => ?_) (fun c => ?_)
          · walk_at "go"
            have ea : addN l2 s0.e = l2 := by unfold addN; rw [if_pos c]
            refine ⟨l2, _, _, _, z6, eG6, eF6, ep6, nx6, fd6, g6, al6, fun s h => ?_, rfl⟩
            rcases List.mem_append.mp h with h | h
            · exact tk6 s h
            · rw [List.mem_singleton.mp h]; exact c
          · walk_at "go"
            have ea : addN l2 s0.e = l2 ++ [s0.e] := by unfold addN; rw [if_neg c]
            refine ⟨.inl ⟨rfl, _, SqL.of eF6⟩, ?_⟩
            walk_at "go"
            refine k_append eF6 (by unfold nats; rw [List.length_map]; exact Nat.lt_of_le_of_lt l2l (by decide)) ?_
            have ft := Tups.lst (o := .lst (nats l2 ++ [.int (s0.e : Nat)])) eF6
            refine ⟨addN l2 s0.e, _, _, _, Same.mut z6 hF, by rw [upd_ne nGF]; exact eG6, by rw [upd_same, ea, nats_snoc], by rw [upd_ne npF]; exact ep6, nx6.tups ft, fd7, g6.add, fun b k h1 h2 s h3 h4 => e7 _ (al6 b k h1 h2 s h3 h4), fun s h => ?_, rfl⟩
            rcases List.mem_append.mp h with h | h
            · exact e7 _ (tk6 s h)
            · rw [List.mem_singleton.mp h]; exact addN_mem.mpr (.inr rfl)
        · rintro σ H6 ⟨l2, c4, c5, c6, z6, eG6, eF6, ep6, nx6, fd6, g6, al6, tk6, rfl⟩
          rw [nx6.1, List.take_length] at tk6
          refine ⟨l2, _, _, _, _, z6, eG6, eF6, fd6, g6, fun b k h1 h2 s h3 h4 => ?_, rfl⟩
          by_cases e : b = j
          · rw [e, en] at h2
            cases h2
            exact tk6 s (mem_fromS'.mpr ⟨h3, h4⟩)
          · exact al6 b k (by omega) h2 s h3 h4
      · rintro σ H4 ⟨l', b3, b4, b5, b6, z4, eG4, eF4, fd4, g4, al, rfl⟩
        refine ⟨l', _, _, _, _, _, z4, eF4, fd4, ?_, rfl⟩
        have full : ∀ n ∈ l, ∀ s ∈ m.ss, s.b = n → s.e ∈ l' := fun n hn s hs e => by
          obtain ⟨b, hb, eb⟩ := List.getElem_of_mem hn
          exact al b n (by unfold nats; rw [List.length_map]; exact hb) (by rw [List.getElem?_eq_getElem hb, eb]) s hs e
        rcases g4.2 with e | e
        · left
          rw [e] at full ⊢
          exact fun s hs h => full _ h s hs rfl
        · rcases hcl with c | c
          · left
            exact fun s hs h => g4.1 _ (reach_closed fd.zero c _ (.step hs (fd4.re _ h)))
          · right
            omega
    · rintro σ H2 ⟨l, a2, a3, a4, a5, a6, z2, eF2, fd, hcl, rfl⟩
      have cl : ClosedS m l := by
        rcases hcl with c | c
        · exact c
        · have h1 := nodup_small fd.nd fd.lt
          have : m.n + 1 ≤ l.length := c
          omega
      walk_at "go"
      refine ⟨F, l.map Int.ofNat, rfl, SqL.of (by rw [eF2]; unfold nats; rw [List.map_map]; rfl), fun ns' p pm pw hp => ?_⟩
      have nn : ∀ x ∈ ns', 0 ≤ x := fun x hx => by
        obtain ⟨y, _, rfl⟩ := List.mem_map.mp (pm.mem_iff.mp hx)
        exact Int.natCast_nonneg _
      have em : (ns'.map Int.toNat).map (fun e => ((e : Nat) : Int)) = ns' := by
        rw [List.map_map]
        exact (List.map_congr_left fun x hx => Int.toNat_of_nonneg (nn x hx)).trans (List.map_id _)
      have ev : ns'.map V.int = nats (ns'.map Int.toNat) := by
        unfold nats
        have : (ns'.map Int.toNat).map (fun e => V.int ((e : Nat) : Int)) = ((ns'.map Int.toNat).map (fun e => ((e : Nat) : Int))).map V.int := by rw [List.map_map (g := V.int)]; rfl
        rw [this, em]
      have pm2 : (ns'.map Int.toNat).Perm l := by
        have := pm.map Int.toNat
        rw [List.map_map] at this
        exact this.trans (by rw [show (Int.toNat ∘ Int.ofNat) = id from funext fun _ => rfl, List.map_id])
      have le2 : (ns'.map Int.toNat).Pairwise (· ≤ ·) := List.pairwise_map.mpr (pw.imp fun {a b} h => by omega)
      have lt2 : (ns'.map Int.toNat).Pairwise (· < ·) := by
        have nd2 : (ns'.map Int.toNat).Nodup := pm2.symm.nodup fd.nd
        exact (le2.and nd2).imp fun {a b} h => Nat.lt_of_le_of_ne h.1 h.2
      rw [ev]
      refine k p _ _ (z2.trans (Same.new hp)) ?_ upd_same (fun n => (pm2.mem_iff).trans ⟨fd.re n, reach_closed fd.zero cl n⟩) lt2
      cases e : H p with
      | none => rfl
      | some ob => rw [z2 _ _ e] at hp; cases hp
end
/-! ### rows cut short -/
theorem runW_shift (m : MD) (d : Int) : ∀ (w : Wd) (v : Nat) (a : Int) (k : Nat) (t : Int), runW m (v, a) w = some (k, t) → runW m (v, a + d) w = some (k, t + d)
  | [], v, a, k, t, h => by
    cases h
    rfl
  | c :: w, v, a, k, t, h => by
    unfold runW at h ⊢
    dsimp only at h ⊢
    cases e : stepOf m v c with
    | none => rw [e] at h; cases h
    | some x =>
      rw [e] at h
      have q := runW_shift m d w x.e (a + x.g) k t h
      dsimp only
      rw [show a + d + x.g = a + x.g + d by omega]
      exact q
theorem runW_lt {m : MD} (o : m.Ok) : ∀ (w : Wd) (v : Nat) (a : Int) (k : Nat) (t : Int), v < m.n → runW m (v, a) w = some (k, t) → k < m.n
  | [], v, a, k, t, hv, h => by
    cases h
    exact hv
  | c :: w, v, a, k, t, hv, h => by
    unfold runW at h
    dsimp only at h
    cases e : stepOf m v c with
    | none => rw [e] at h; cases h
    | some x =>
      rw [e] at h
      exact runW_lt o w x.e (a + x.g) k t (o.ok x (stepOf_mem e).1).e h
theorem run_cut {m : MD} {w : Wd} {k : Nat} {t : Int} (h : run m w = some (k, t)) (i : Nat) : ∃ v tv, run m (w.take i) = some (v, tv) ∧ runW m (v, tv) (w.drop i) = some (k, t) := by
  have e : run m (w.take i ++ w.drop i) = some (k, t) := by rw [List.take_append_drop]; exact h
  unfold run at e ⊢
  rw [runW_append] at e
  cases q : runW m (0, 0) (w.take i) with
  | none => rw [q] at e; cases e
  | some p =>
    rw [q] at e
    exact ⟨p.1, p.2, rfl, e⟩
theorem run_reach {m : MD} : ∀ (L : Nat) (w : Wd) (k : Nat) (t : Int), w.length = L → run m w = some (k, t) → Reach m.ss [0] k
  | 0, w, k, t, hl, h => by
    have : w = [] := List.eq_nil_of_length_eq_zero hl
    subst this
    cases h
    exact .base (List.mem_singleton.mpr rfl)
  | L + 1, w, k, t, hl, h => by
    rcases List.eq_nil_or_concat w with rfl | ⟨w', c, e⟩
    · cases hl
    · rw [List.concat_eq_append] at e
      subst e
      obtain ⟨u, t', s, h1, h2, rfl, rfl⟩ := run_snoc.mp h
      obtain ⟨hs, hb, _⟩ := stepOf_mem h2
      have ih := run_reach L w' u t' (by simpa using hl) h1
      rw [← hb] at ih
      exact .step hs ih
/-- F rises at least by what a step adds, into the stands of N, that come from N alone -/
def Pot (sg : Int) (m : MD) (N : Nat → Prop) (F : Nat → Int) : Prop := ∀ s ∈ m.ss, Reach m.ss [0] s.b → N s.e → N s.b ∧ F s.b + sg * s.g ≤ F s.e
theorem pot_run {sg : Int} {m : MD} {N : Nat → Prop} {F : Nat → Int} (p : Pot sg m N F) : ∀ (w : Wd) (v : Nat) (a : Int) (k : Nat) (t : Int), Reach m.ss [0] v → runW m (v, a) w = some (k, t) → N k → N v ∧ F v + sg * (t - a) ≤ F k
  | [], v, a, k, t, hv, h, hk => by
    cases h
    refine ⟨hk, ?_⟩
    rw [Int.sub_self, Int.mul_zero]
    omega
  | c :: w, v, a, k, t, hv, h, hk => by
    unfold runW at h
    dsimp only at h
    cases e : stepOf m v c with
    | none => rw [e] at h; cases h
    | some x =>
      rw [e] at h
      obtain ⟨hs, hb, _⟩ := stepOf_mem e
      rw [← hb] at hv
      obtain ⟨h1, h2⟩ := pot_run p w x.e (a + x.g) k t (.step hs hv) h hk
      obtain ⟨h3, h4⟩ := p x hs hv h1
      rw [hb] at h3 h4
      refine ⟨h3, ?_⟩
      have e1 : sg * (t - a) = sg * (t - (a + x.g)) + sg * x.g := by rw [← Int.mul_add]; congr 1; omega
      omega
theorem not_nodup {l : List Nat} {n : Nat} (b : ∀ k ∈ l, k < n) (h : n < l.length) : ∃ i j, ∃ (hi : i < l.length) (hj : j < l.length), i < j ∧ l[i] = l[j] := by
  apply Classical.byContradiction
  intro c
  have nd : l.Nodup := List.pairwise_iff_getElem.mpr fun i j hi hj hij e => c ⟨i, j, hi, hj, hij, e⟩
  have := nodup_small nd b
  omega
theorem cut_row {sg : Int} {m : MD} (o : m.Ok) {N : Nat → Prop} {F : Nat → Int} (p : Pot sg m N F) {w : Wd} {k : Nat} {t : Int} (h : run m w = some (k, t)) (hk : N k) (hl : m.n ≤ w.length) :
    ∃ w' t', w'.length < w.length ∧ run m w' = some (k, t') ∧ sg * t ≤ sg * t' := by
  have st : ∀ i, ∃ v, ∃ tv, run m (w.take i) = some (v, tv) ∧ runW m (v, tv) (w.drop i) = some (k, t) := run_cut h
  let f : Nat → Nat := fun i => (st i).choose
  have hf : ∀ i, ∃ tv, run m (w.take i) = some (f i, tv) ∧ runW m (f i, tv) (w.drop i) = some (k, t) := fun i => (st i).choose_spec
  have n1 := o.n1
  obtain ⟨i, j, hi, hj, hij, e⟩ := not_nodup (l := (List.range (w.length + 1)).map f) (n := m.n) (fun v hv => by
    obtain ⟨i, _, rfl⟩ := List.mem_map.mp hv
    obtain ⟨tv, q, _⟩ := hf i
    exact runW_lt o _ 0 0 _ _ (by omega) q) (by rw [List.length_map, List.length_range]; omega)
  rw [List.length_map, List.length_range] at hi hj
  rw [List.getElem_map, List.getElem_map, List.getElem_range, List.getElem_range] at e
  obtain ⟨ti, a1, a2⟩ := hf i
  obtain ⟨tj, b1, b2⟩ := hf j
  rw [← e] at b1 b2
  have rv := run_reach _ _ _ _ rfl a1
  have hNv := (pot_run p _ _ _ _ _ rv a2 hk).1
  have mid : runW m (f i, ti) ((w.take j).drop i) = some (f i, tj) := by
    have s : run m (w.take i ++ (w.take j).drop i) = some (f i, tj) := by
      have : w.take i = (w.take j).take i := by rw [List.take_take, Nat.min_eq_left (by omega)]
      rw [this, List.take_append_drop]
      exact b1
    unfold run at s a1
    rw [runW_append, a1] at s
    exact s
  have gain := (pot_run p _ _ _ _ _ rv mid hNv).2
  refine ⟨w.take i ++ w.drop j, t + (ti - tj), ?_, ?_, ?_⟩
  · rw [List.length_append, List.length_take, List.length_drop]
    omega
  · unfold run at a1 ⊢
    rw [runW_append, a1]
    have q := runW_shift m (ti - tj) _ _ _ _ _ b2
    rw [show tj + (ti - tj) = ti by omega] at q
    exact q
  · have e1 : sg * (t + (ti - tj)) = sg * t - sg * (tj - ti) := by rw [← Int.mul_sub]; congr 1; omega
    omega
theorem pot_short {sg : Int} {m : MD} (o : m.Ok) {N : Nat → Prop} {F : Nat → Int} (p : Pot sg m N F) {k : Nat} (hk : N k) : ∀ (L : Nat) (w : Wd) (t : Int), w.length ≤ L → run m w = some (k, t) → ∃ w' t', w'.length < m.n ∧ run m w' = some (k, t') ∧ sg * t ≤ sg * t'
  | 0, w, t, hl, h => ⟨w, t, by have := o.n1; omega, h, Int.le_refl _⟩
  | L + 1, w, t, hl, h => by
    by_cases c : w.length < m.n
    · exact ⟨w, t, c, h, Int.le_refl _⟩
    · obtain ⟨w1, t1, h1, h2, h3⟩ := cut_row o p h hk (by omega)
      obtain ⟨w2, t2, q1, q2, q3⟩ := pot_short o p hk L w1 t1 (by omega) h2
      exact ⟨w2, t2, q1, q2, Int.le_trans h3 q3⟩
theorem best_short {sg : Int} {m : MD} (o : m.Ok) (hsg : sg = 1 ∨ sg = -1) {k : Nat} {w : Wd} {t : Int} (hl : w.length < m.n) (h : run m w = some (k, t)) : ∃ y, bst sg m.ss m.n k = some y ∧ sg * t ≤ y.1 := by
  obtain ⟨x, ex, nx⟩ := lvl_best o hsg w.length w k t rfl h
  obtain ⟨y, ey⟩ := bst_has m.n _ _ hl ex
  have h1 := (bst_spec _ _ ey).2 _ _ hl ex
  have h2 := nx.le
  dsimp only at h2
  exact ⟨y, ey, by omega⟩
theorem endl_reach {sg : Int} {m : MD} (o : m.Ok) (hsg : sg = 1 ∨ sg = -1) : ∀ k, Endl sg m k → Reach m.ss [0] k := fun k h => by
  induction h with
  | base h =>
    have q := (mem_impL o _).mp h
    unfold impr at q
    cases ex : lvl sg m.ss m.n _ with
    | none => rw [ex] at q; cases q
    | some x => exact run_reach _ _ _ _ rfl (lvl_run o hsg _ _ _ ex)
  | step hs _ ih => exact .step hs ih
/-- where there is such an F nothing is endless -/
theorem pot_not_endl {sg : Int} {m : MD} (o : m.Ok) (hsg : sg = 1 ∨ sg = -1) {N : Nat → Prop} {F : Nat → Int} (p : Pot sg m N F) : ∀ k, Endl sg m k → ¬ N k := fun k h => by
  induction h with
  | base h =>
    rename_i k
    intro hk
    have q := (mem_impL o k).mp h
    unfold impr at q
    cases ex : lvl sg m.ss m.n k with
    | none => rw [ex] at q; cases q
    | some x =>
      rw [ex] at q
      have hr := lvl_run o hsg _ _ _ ex
      obtain ⟨w', t', h1, h2, h3⟩ := pot_short o p hk x.2.length x.2 _ (Nat.le_refl _) hr
      obtain ⟨y, ey, hy⟩ := best_short o hsg h1 h2
      rw [ey] at q
      have q : y.1 < x.1 := of_decide_eq_true q
      rcases hsg with rfl | rfl <;> omega
  | step hs hb ih => exact fun he => ih (p _ hs (endl_reach o hsg _ hb) he).1
/-! ### the least and greatest tallies of several stands -/
theorem reach_run {m : MD} (o : m.Ok) {k : Nat} (h : Reach m.ss [0] k) : ∃ w t, run m w = some (k, t) := by
  induction h with
  | base h =>
    rw [List.mem_singleton.mp h]
    exact ⟨[], 0, rfl⟩
  | step hs _ ih =>
    obtain ⟨w, t, q⟩ := ih
    exact ⟨_, _, run_snoc.mpr ⟨_, _, _, q, stepOf_self o hs, rfl, rfl⟩⟩
theorem reach_bst {sg : Int} {m : MD} (o : m.Ok) (hsg : sg = 1 ∨ sg = -1) {k : Nat} (h : Reach m.ss [0] k) (ne : ¬ Endl sg m k) : ∃ y, bst sg m.ss m.n k = some y := by
  obtain ⟨w, t, q⟩ := reach_run o h
  obtain ⟨y, e, _⟩ := no_better o hsg w.length w k t rfl q ne
  exact ⟨y, e⟩
/-- what is told of the stands l: none of them may be endless -/
def EdgeOf (sg : Int) (m : MD) (l : List Nat) (r : V) : Prop := (r = .non ∧ ∃ k ∈ l, Endl sg m k) ∨
  ∃ v : Int, r = .int (sg * v) ∧ (∀ k ∈ l, ¬ Endl sg m k) ∧ (∃ k ∈ l, ∃ y, bst sg m.ss m.n k = some y ∧ y.1 = v) ∧ ∀ k ∈ l, ∀ y, bst sg m.ss m.n k = some y → y.1 ≤ v
theorem EdgeOf.uniq {sg : Int} {m : MD} {l : List Nat} {r r' : V} (h : EdgeOf sg m l r) (h' : EdgeOf sg m l r') : r = r' := by
  rcases h with ⟨e, k, hk, q⟩ | ⟨v, e, h1, ⟨k, hk, y, ey, hy⟩, h3⟩
  · rcases h' with ⟨e', _⟩ | ⟨v', e', h1', _⟩
    · rw [e, e']
    · exact absurd q (h1' k hk)
  · rcases h' with ⟨e', k', hk', q'⟩ | ⟨v', e', h1', ⟨k', hk', y', ey', hy'⟩, h3'⟩
    · exact absurd q' (h1 k' hk')
    · have a1 := h3 k' hk' y' ey'
      have a2 := h3' k hk y ey
      have : v = v' := by omega
      rw [e, e', this]
open Classical in
noncomputable def tl0 (sg : Int) (m : MD) (k : Nat) : V := if Endl sg m k then .str "endless" else match bst sg m.ss m.n k with
  | none => .non
  | some y => .int y.1
theorem tl0_flat {sg : Int} {m : MD} (l : List Nat) : (l.map (tl0 sg m)).all flatV = true := by
  rw [List.all_eq_true]
  intro v hv
  obtain ⟨k, _, rfl⟩ := List.mem_map.mp hv
  unfold tl0
  split
  · rfl
  · split <;> rfl
theorem tl0_in {sg : Int} {m : MD} {l : List Nat} (h : ∃ k ∈ l, Endl sg m k) : inV (.str "endless") (l.map (tl0 sg m)) = true := by
  obtain ⟨k, hk, e⟩ := h
  unfold inV
  rw [List.any_eq_true]
  refine ⟨.str "endless", List.mem_map.mpr ⟨k, hk, by unfold tl0; rw [if_pos e]⟩, by decide⟩
theorem tl0_out {sg : Int} {m : MD} {l : List Nat} (h : ¬ ∃ k ∈ l, Endl sg m k) : inV (.str "endless") (l.map (tl0 sg m)) = false := by
  cases q : inV (.str "endless") (l.map (tl0 sg m)) with
  | false => rfl
  | true =>
    exfalso
    unfold inV at q
    rw [List.any_eq_true] at q
    obtain ⟨v, hv, e⟩ := q
    obtain ⟨k, hk, rfl⟩ := List.mem_map.mp hv
    unfold tl0 at e
    rw [if_neg fun z => h ⟨k, hk, z⟩] at e
    split at e <;> cases e
noncomputable def bst1 (sg : Int) (m : MD) (k : Nat) : Int := ((bst sg m.ss m.n k).getD (0, [])).1
theorem reach_lt {m : MD} (o : m.Ok) {k : Nat} (h : Reach m.ss [0] k) : k < m.n := by
  cases h with
  | base h => rw [List.mem_singleton.mp h]; exact o.n1
  | step hs _ => exact (o.ok _ hs).e
theorem free_of {H H' : Hp} {q : Addr} (z : Same H H') (hq : H' q = none) : H q = none := by
  cases e : H q with
  | none => rfl
  | some ob => rw [z _ _ e] at hq; cases hq
/-! ### tallies at a stand -/
section
variable {P : Program} {w : World} {K : PySem.W.Frag} {mg : Str → Option Value} {base : Heap}
theorem ok_check_stand (T : Txt K mg) : FnOk P w K mg base (L2.CX P w) 4 T.a_check_stand T.fd_check_stand ["machine", "value"] (sp_check_stand K T.c_Machine) := by
  refine T.F_check_stand.okX sc_check_stand (fun vs H Q E h => ?_) (fun cdv A outer s H vs Q E hr h => ?_)
  · obtain ⟨x, n, m, rfl, _⟩ := h
    rfl
  · obtain ⟨x, n, m, rfl, ⟨dx, t, u, hx, _⟩, hn, k⟩ := h
    refine ⟨_, (PSs.nox (pss_one (ps_if (pt_not (pt_val (pe_call (ok_is_stand T) (hr.mono (by decide)) (by rfl) T.m_is_stand T.k_is_stand T.b_is_stand .nil passL (pa_cons (pe_prop (pv 0) T.cl_Machine T.p_stands (ok_Machine_stands T) (hr.mono (by decide)) T.b_Machine_stands .nil passL rfl) (pa_cons (pv 1) pa_nil)))))
  (pss_one ps_never)
  pss_nil))), ?_⟩
    walk_at "begin"
    walk_at "go"
    refine ⟨x, dx, _, rfl, hx, x, dx, _, .int (m.n : Nat), rfl, hx, rfl, ?_⟩
    walk_at "go"
    refine ⟨_, _, rfl, .inl ⟨_, rfl, ?_⟩⟩
    rw [decide_eq_true (show 0 ≤ ((n : Nat) : Int) ∧ ((n : Nat) : Int) < (m.n : Nat) from ⟨Int.natCast_nonneg _, by omega⟩)]
    walk_at "go"
    refine iteF ?_
    walk_at "go"
    exact k
theorem ok_tally_at (T : Txt K mg) : FnOk P w K mg base (L2.CX P w) 5 T.a_tally_at T.fd_tally_at ["machine", "stand", "sign"] (sp_at3 K T.c_Machine tallyAt) := by
  refine T.F_tally_at.okX sc_tally_at (fun vs H Q E h => ?_) (fun cdv A outer s H vs Q E hr h => ?_)
  · obtain ⟨x, n, sg, m, rfl, _⟩ := h
    rfl
  · obtain ⟨x, n, sg, m, rfl, hm, o, hn, hsg, k⟩ := h
    obtain ⟨dx, t, u, hx, _⟩ := id hm
    refine ⟨_, (PSs.nox (pss_cons (ps_expr (pe_call (ok_check_machine T) (hr.mono (by decide)) (by rfl) T.m_check_machine T.k_check_machine T.b_check_machine .nil passL (pa_cons (pv 0) pa_nil)))
  (pss_cons (ps_expr (pe_call (ok_check_stand T) (hr.mono (by decide)) (by rfl) T.m_check_stand T.k_check_stand T.b_check_stand .nil passL (pa_cons (pv 0) (pa_cons (pv 1) pa_nil))))
  (pss_cons (ps_set (i := 3) sc_tally_at.nd rfl (Or.inl rfl) (pe_call (ok_best_rows T) (hr.mono (by decide)) (by rfl) T.m_best_rows T.k_best_rows T.b_best_rows .nil passL (pa_cons (pe_prop (pv 0) T.cl_Machine T.p_stands (ok_Machine_stands T) (hr.mono (by decide)) T.b_Machine_stands .nil passL rfl) (pa_cons (pe_prop (pv 0) T.cl_Machine T.p_steps (ok_Machine_steps T) (hr.mono (by decide)) T.b_Machine_steps .nil passL rfl) (pa_cons (pv 2) pa_nil)))))
  (pss_cons (ps_if (pt_cmp (pc_dnotin (hu_of hr) (pv 1) (pv 3)) (by rfl))
  (pss_one (ps_ret pe_non))
  pss_nil)
  (pss_cons (ps_set (i := 4) sc_tally_at.nd rfl (Or.inl rfl) (pe_ix ix_tup (pe_dget (hu_of hr) (pv 3) (pv 1) (fun _ _ => rfl)) pe_int (fun _ _ => rfl)))
  (pss_one (ps_ret (pe_ifExp (pt_cmpR op_eq (pv 4) (pe_glob (by rfl) T.m_ENDLESS T.r_ENDLESS) (nomark _)) (pe_glob (by rfl) T.m_ENDLESS T.r_ENDLESS) (pe_op op_mulW (pv 2) (pv 4))))))))))), ?_⟩
    walk_at "begin"
    walk_at "go"
    refine ⟨x, dx, _, rfl, hx, ?_⟩
    walk_at "go"
    refine ⟨x, n, m, rfl, hm, hn, ?_⟩
    walk_at "go"
    obtain ⟨dx, t, u, hx, hp⟩ := id hm
    refine ⟨x, dx, _, rfl, hx, x, dx, _, .int (m.n : Nat), rfl, hx, rfl, ?_⟩
    walk_at "go"
    refine ⟨x, dx, _, rfl, hx, x, dx, _, .ref t, rfl, hx, rfl, ?_⟩
    walk_at "go"
    refine ⟨t, sg, m.n, m.ss, rfl, .of hp.1, o.sok, .of hsg, fun p kvs H1 l L z _ ep hl hL ok => ?_⟩
    rw [bestE_of o hl hL] at ok
    have k' := k H1 z
    have dg : DGet H1 p (.int (n : Nat)) (valV kvs (.inl (n : Int))) := DGet.k (k := .inl (n : Int)) ep
    walk_at "go"
    refine ⟨p, _, rfl, dg, ?_⟩
    walk_at "go"
    by_cases c : Endl sg m n
    · have e1 : bestE sg m n = some endE := by unfold bestE; rw [if_pos c]
      have e2 : tallyAt sg m n = .str "endless" := by unfold tallyAt; rw [if_pos c]
      obtain ⟨q, eq, sq⟩ := (ok.2 n).2 _ e1
      rw [eq] at dg ⊢
      rw [e2] at k'
      refine iteF ?_
      walk_at "go"
      refine ⟨p, _, rfl, dg, ?_⟩
      walk_at "go"
      refine k_ixT sq (v := .str "endless") rfl ?_
      walk_at "go"
      refine k_yes (by decide) ?_
      walk_at "go"
      exact k'
    · have e1 : bestE sg m n = E2 (bst sg m.ss m.n) n := by unfold bestE; rw [if_neg c]
      cases eb : bst sg m.ss m.n n with
      | none =>
        have e2 : tallyAt sg m n = .non := by unfold tallyAt; rw [if_neg c, eb]
        rw [(ok.2 n).1 (by rw [e1]; unfold E2; rw [eb]; rfl)]
        rw [e2] at k'
        refine iteT ?_
        walk_at "go"
        exact k'
      | some y =>
        have e2 : tallyAt sg m n = .int (sg * y.1) := by unfold tallyAt; rw [if_neg c, eb]
        obtain ⟨q, eq, sq⟩ := (ok.2 n).2 (ent2 y) (by rw [e1]; unfold E2; rw [eb]; rfl)
        rw [eq] at dg ⊢
        rw [e2] at k'
        obtain ⟨j, hj, ej⟩ := bst_of _ _ _ eb
        have sm := lvl_small o hsg j _ _ ej
        have n8 := o.n8
        refine iteF ?_
        walk_at "go"
        refine ⟨p, _, rfl, dg, ?_⟩
        walk_at "go"
        refine k_ixT sq (v := .int y.1) rfl ?_
        walk_at "go"
        refine k_no (decide_eq_false (by intro z; cases z)) ?_
        walk_at "go"
        refine k_I (wide_mul (a := 1) (b := 110) (by rcases hsg with rfl | rfl <;> decide) ?_ (by decide) (by decide) (by decide)) ?_
        · have : (j : Int) * 10 ^ 30 ≤ 8 * 10 ^ 30 := by omega
          omega
        · exact k'
theorem ok_greatest_at (T : Txt K mg) : FnOk P w K mg base (L2.CX P w) 6 T.a_greatest_at T.fd_greatest_at ["machine", "stand"] (sp_at2 K T.c_Machine (tallyAt 1)) := by
  refine T.F_greatest_at.okX sc_greatest_at (fun vs H Q E h => ?_) (fun cdv A outer s H vs Q E hr h => ?_)
  · obtain ⟨x, n, m, rfl, _⟩ := h
    rfl
  · obtain ⟨x, n, m, rfl, hm, o, hn, k⟩ := h
    refine ⟨_, (PSs.nox (pss_one (ps_ret (pe_call (ok_tally_at T) (hr.mono (by decide)) (by rfl) T.m_tally_at T.k_tally_at T.b_tally_at .nil passL (pa_cons (pv 0) (pa_cons (pv 1) (pa_cons pe_int pa_nil))))))), ?_⟩
    walk_at "begin"
    walk_at "go"
    exact ⟨x, n, 1, m, rfl, hm, o, hn, .inl rfl, k⟩
theorem ok_least_at (T : Txt K mg) : FnOk P w K mg base (L2.CX P w) 6 T.a_least_at T.fd_least_at ["machine", "stand"] (sp_at2 K T.c_Machine (tallyAt (-1))) := by
  refine T.F_least_at.okX sc_least_at (fun vs H Q E h => ?_) (fun cdv A outer s H vs Q E hr h => ?_)
  · obtain ⟨x, n, m, rfl, _⟩ := h
    rfl
  · obtain ⟨x, n, m, rfl, hm, o, hn, k⟩ := h
    refine ⟨_, (PSs.nox (pss_one (ps_ret (pe_call (ok_tally_at T) (hr.mono (by decide)) (by rfl) T.m_tally_at T.k_tally_at T.b_tally_at .nil passL (pa_cons (pv 0) (pa_cons (pv 1) (pa_cons (pe_un un_neg pe_int) pa_nil))))))), ?_⟩
    walk_at "begin"
    walk_at "go"
    exact ⟨x, n, -1, m, rfl, hm, o, hn, .inr rfl, k⟩
end
/-! ### a call that an error may leave -/
section
variable {K : PySem.W.Frag} {σ : L2.St} {H : Hp} {Q : VK}
theorem k_callS {sp : Sp} {E : L2.St → XK} {t : TA} (h : t σ H fun vs H1 => sp vs H1 Q (E σ)) : tCallS sp E t σ H Q := h
end
/-! ### a stand that is none -/
def BadV (K : PySem.W.Frag) (H : Hp) (n : Nat) (v : V) : Prop := (∃ i : Int, v = .int i ∧ ¬ (0 ≤ i ∧ i < (n : Nat))) ∨ NotInt K H v
def sp_bad2 (K : PySem.W.Frag) (C B : Addr) : Sp := fun vs H _ E => ∃ (x : Addr) (v : V) (m : MD), vs = [.ref x, v] ∧ MAt K C H x m ∧ BadV K H m.n v ∧ E (.ref B) none H
def sp_bad3 (K : PySem.W.Frag) (C B : Addr) : Sp := fun vs H _ E => ∃ (x : Addr) (v u : V) (m : MD), vs = [.ref x, v, u] ∧ MAt K C H x m ∧ BadV K H m.n v ∧ E (.ref B) none H
section
variable {P : Program} {w : World} {K : PySem.W.Frag} {mg : Str → Option Value} {base : Heap}
theorem ok_check_stand_bad (T : Txt K mg) : FnOk P w K mg base (L2.CX P w) 4 T.a_check_stand T.fd_check_stand ["machine", "value"] (sp_bad2 K T.c_Machine T.c_BadStand) := by
  refine T.F_check_stand.okX sc_check_stand (fun vs H Q E h => ?_) (fun cdv A outer s H vs Q E hr h => ?_)
  · obtain ⟨x, v, m, rfl, _⟩ := h
    rfl
  · obtain ⟨x, v, m, rfl, ⟨dx, t, u, hx, _⟩, bad, k⟩ := h
    refine ⟨_, (pss_one (ps_if (pt_not (pt_val (pe_call (ok_is_stand T) (hr.mono (by decide)) (by rfl) T.m_is_stand T.k_is_stand T.b_is_stand .nil passL (pa_cons (pe_prop (pv 0) T.cl_Machine T.p_stands (ok_Machine_stands T) (hr.mono (by decide)) T.b_Machine_stands .nil passL rfl) (pa_cons (pv 1) pa_nil)))))
  (pss_one (ps_raise rfl (takes_of rfl rfl rfl rfl) (pmk_own PySem.F.excBase_ValueError T.x_BadStand T.m_BadStand T.k_BadStand (raises_own T.b_BadStand T.t_BadStand) (by exact rfl))))
  pss_nil)), ?_⟩
    walk_at "begin"
    walk_at "go"
    refine ⟨x, dx, _, rfl, hx, x, dx, _, .int (m.n : Nat), rfl, hx, rfl, ?_⟩
    walk_at "go"
    refine ⟨_, _, rfl, ?_⟩
    rcases bad with ⟨i, rfl, hi⟩ | bad
    · refine .inl ⟨i, rfl, ?_⟩
      rw [decide_eq_false hi]
      walk_at "go"
      refine iteT ?_
      walk_at "go"
      exact k
    · refine .inr ⟨bad, ?_⟩
      walk_at "go"
      refine iteT ?_
      walk_at "go"
      exact k
end
/-! ### tallies asked at no stand -/
section
variable {P : Program} {w : World} {K : PySem.W.Frag} {mg : Str → Option Value} {base : Heap}
theorem ok_tally_at_bad (T : Txt K mg) : FnOk P w K mg base (L2.CX P w) 5 T.a_tally_at T.fd_tally_at ["machine", "stand", "sign"] (sp_bad3 K T.c_Machine T.c_BadStand) := by
  refine T.F_tally_at.okX sc_tally_at (fun vs H Q E h => ?_) (fun cdv A outer s H vs Q E hr h => ?_)
  · obtain ⟨x, v, u, m, rfl, _⟩ := h
    rfl
  · obtain ⟨x, v, u, m, rfl, hm, bad, k⟩ := h
    obtain ⟨dx, t, u', hx, _⟩ := id hm
    refine ⟨_, (pss_cons (ps_expr (pe_call (ok_check_machine T) (hr.mono (by decide)) (by rfl) T.m_check_machine T.k_check_machine T.b_check_machine .nil passL (pa_cons (pv 0) pa_nil)))
  (pss_cons (ps_expr (pe_callS (ok_check_stand_bad T) (hr.mono (by decide)) (by rfl) T.m_check_stand T.k_check_stand T.b_check_stand (fun σ => passAt (takes_of rfl rfl rfl rfl) σ) (pa_cons (pv 0) (pa_cons (pv 1) pa_nil))))
  (pss_cons (ps_set (i := 3) sc_tally_at.nd rfl (Or.inl rfl) (pe_call (ok_best_rows T) (hr.mono (by decide)) (by rfl) T.m_best_rows T.k_best_rows T.b_best_rows .nil passL (pa_cons (pe_prop (pv 0) T.cl_Machine T.p_stands (ok_Machine_stands T) (hr.mono (by decide)) T.b_Machine_stands .nil passL rfl) (pa_cons (pe_prop (pv 0) T.cl_Machine T.p_steps (ok_Machine_steps T) (hr.mono (by decide)) T.b_Machine_steps .nil passL rfl) (pa_cons (pv 2) pa_nil)))))
  (pss_cons (ps_if (pt_cmp (pc_dnotin (hu_of hr) (pv 1) (pv 3)) (by rfl))
  (pss_one (ps_ret pe_non))
  pss_nil)
  (pss_cons (ps_set (i := 4) sc_tally_at.nd rfl (Or.inl rfl) (pe_ix ix_tup (pe_dget (hu_of hr) (pv 3) (pv 1) (fun _ _ => rfl)) pe_int (fun _ _ => rfl)))
  (pss_one (ps_ret (pe_ifExp (pt_cmpR op_eq (pv 4) (pe_glob (by rfl) T.m_ENDLESS T.r_ENDLESS) (nomark _)) (pe_glob (by rfl) T.m_ENDLESS T.r_ENDLESS) (pe_op op_mulW (pv 2) (pv 4)))))))))), ?_⟩
    walk_at "begin"
    walk_at "go"
    refine ⟨x, dx, _, rfl, hx, ?_⟩
    walk_at "go"
    refine k_callS ?_
    walk_at "go"
    exact ⟨x, v, m, rfl, hm, bad, k⟩
theorem ok_greatest_at_bad (T : Txt K mg) : FnOk P w K mg base (L2.CX P w) 6 T.a_greatest_at T.fd_greatest_at ["machine", "stand"] (sp_bad2 K T.c_Machine T.c_BadStand) := by
  refine T.F_greatest_at.okX sc_greatest_at (fun vs H Q E h => ?_) (fun cdv A outer s H vs Q E hr h => ?_)
  · obtain ⟨x, v, m, rfl, _⟩ := h
    rfl
  · obtain ⟨x, v, m, rfl, hm, bad, k⟩ := h
    refine ⟨_, (pss_one (ps_ret (pe_callS (ok_tally_at_bad T) (hr.mono (by decide)) (by rfl) T.m_tally_at T.k_tally_at T.b_tally_at (fun σ => passAt (takes_of rfl rfl rfl rfl) σ) (pa_cons (pv 0) (pa_cons (pv 1) (pa_cons pe_int pa_nil)))))), ?_⟩
    walk_at "begin"
    walk_at "go"
    refine k_callS ?_
    walk_at "go"
    exact ⟨x, v, _, m, rfl, hm, bad, k⟩
theorem ok_least_at_bad (T : Txt K mg) : FnOk P w K mg base (L2.CX P w) 6 T.a_least_at T.fd_least_at ["machine", "stand"] (sp_bad2 K T.c_Machine T.c_BadStand) := by
  refine T.F_least_at.okX sc_least_at (fun vs H Q E h => ?_) (fun cdv A outer s H vs Q E hr h => ?_)
  · obtain ⟨x, v, m, rfl, _⟩ := h
    rfl
  · obtain ⟨x, v, m, rfl, hm, bad, k⟩ := h
    refine ⟨_, (pss_one (ps_ret (pe_callS (ok_tally_at_bad T) (hr.mono (by decide)) (by rfl) T.m_tally_at T.k_tally_at T.b_tally_at (fun σ => passAt (takes_of rfl rfl rfl rfl) σ) (pa_cons (pv 0) (pa_cons (pv 1) (pa_cons (pe_un un_neg pe_int) pa_nil)))))), ?_⟩
    walk_at "begin"
    walk_at "go"
    refine k_callS ?_
    walk_at "go"
    exact ⟨x, v, _, m, rfl, hm, bad, k⟩
end
/-! ### a call of one of several defs, picked out of a list -/
def HeldX (P : Program) (w : World) (K : PySem.W.Frag) (mg : Str → Option Value) (base : Heap) (k : Nat) (f : Addr) (sp : Sp) : Prop := ∃ (j : Nat) (fd : FuncData) (ps : List Str), j ≤ k ∧ FnOk P w K mg base (L2.CX P w) j f fd ps sp ∧ PySem.W.keepIn K (.ref f) = true ∧ Binds K fd ps []
def tCallE (H0 : Addr → Sp → Prop) (tf : TE) (E : L2.St → XK) (t : TA) : TE := fun σ H Q => tf σ H fun v H1 => ∃ f sp, v = .ref f ∧ H0 f sp ∧ t σ H1 fun vs H2 => sp vs H2 Q (E σ)
theorem pe_callE {P : Program} {w : World} {K : PySem.W.Frag} {mg : Str → Option Value} {base : Heap} {X : Cx} {k : Nat} {l i e : Expr} {es : List Expr} {ip pos : Pos} {tf : TE} {E : L2.St → XK} {t : TA} (hh : ∀ f sp, HeldX P w K mg base k f sp → HeldX X.prog X.w X.K X.mg X.base k f sp)
    (hf : PE X (.Subscript l i ip) tf) (hr : Room k X.A) (hx : ∀ σ, PassesAt (L2.CX X.prog X.w) X σ (E σ)) (ha : PA X (e :: es) t)
    (he : starEach (e :: es) X.env = (false, eval e X.env) :: starEach es X.env := by rfl) (hpl : (backTo pos (starEach es X.env)).any (·.1) = false := by rfl) :
    PE X (.Call (.Subscript l i ip) (e :: es) [] pos) (tCallE (HeldX P w K mg base k) tf E t) := by
  refine ⟨fun pins s σ H Q I h => ?_⟩
  have ev : eval (.Call (.Subscript l i ip) (e :: es) [] pos) X.env = (do callWith pos (← eval (.Subscript l i ip) X.env) [] (backTo pos (starEach (e :: es) X.env)) (backToKw pos (keywordEach [] X.env))) := rfl
  rw [ev]
  refine wpAny_bind (thn (hf.run pins s σ H _ I h) fun u s0 ⟨v, H0, I0, r0, f, sp, ev, hd, q0⟩ => ?_)
  obtain ⟨j, fd, ps, hj, F, hk, hb⟩ := hh f sp hd
  subst ev
  obtain rfl : u = Value.ref f := r0
  refine PySem.W.callWith_K (h₀ := X.base) I.ok.mod.kin hk (thn (ha.run pos pins s0 σ H0 _ I0 q0) fun us s1 ⟨vs, H1, I1, r, q⟩ => ⟨I1.kIn, ?_⟩) he hpl
  exact run_fnS F (hr.mono hj) hb (hx σ) I1 r q
theorem k_callE {σ : L2.St} {H : Hp} {Q : VK} {H0 : Addr → Sp → Prop} {tf : TE} {E : L2.St → XK} {t : TA} (h : tf σ H fun v H1 => ∃ f sp, v = .ref f ∧ H0 f sp ∧ t σ H1 fun vs H2 => sp vs H2 Q (E σ)) : tCallE H0 tf E t σ H Q := h
/-! ### values that are no stand -/
theorem bad_int {K : PySem.W.Frag} {H : Hp} {n : Nat} {i : Int} (h : ¬ (0 ≤ i ∧ i < (n : Nat))) : BadV K H n (.int i) := .inl ⟨i, rfl, h⟩
theorem bad_bl {K : PySem.W.Frag} {H : Hp} {n : Nat} {b : Bool} : BadV K H n (.bl b) := .inr (.inl ⟨b, rfl⟩)
theorem bad_non {K : PySem.W.Frag} {H : Hp} {n : Nat} : BadV K H n .non := .inr (.inr ⟨_, .base .non, kit_ty (b := "int") (r := false) (by decide +kernel)⟩)
theorem bad_str {K : PySem.W.Frag} {H : Hp} {n : Nat} {z : Str} : BadV K H n (.str z) := .inr (.inr ⟨_, .base (.str _), kit_ty (b := "int") (r := false) (by decide +kernel)⟩)
def sp_refused (K : PySem.W.Frag) (C : Addr) : Sp := fun vs H Q _ => ∃ (i : Int) (x : Addr) (v : V) (m : MD), vs = [.int i, .ref x, v] ∧ (i = 0 ∨ i = 1) ∧ MAt K C H x m ∧ (∀ H', BadV K H' m.n v) ∧ ∀ H', Same H H' → Q (.bl true) H'
section
variable {P : Program} {w : World} {K : PySem.W.Frag} {mg : Str → Option Value} {base : Heap}
theorem ok_law_refused (T : Txt K mg) : FnOk P w K mg base (L2.CX P w) 7 T.a_law_refused T.fd_law_refused ["_law_kind", "_law_machine_here", "_law_stand"] (sp_refused K T.c_Machine) := by
  refine T.F_law_refused.okX sc_law_refused (fun vs H Q E h => ?_) (fun cdv A outer s H vs Q E hr h => ?_)
  · obtain ⟨i, x, v, m, rfl, _⟩ := h
    rfl
  · obtain ⟨i, x, v, m, rfl, hi, hm, bad, k⟩ := h
    refine ⟨_, (PSs.nox (pss_cons (ps_set (i := 3) sc_law_refused.nd rfl (Or.inl rfl) pe_bl)
  (pss_cons (ps_try_only rfl rfl ⟨rfl, by decide, .inl T.m_BadStand⟩ takes0 (fun W pn xe tk _ => (pss_one (ps_expr (pe_callE (P := P) (w := w) (K := K) (mg := mg) (base := base) (fun _ _ z => z) (pe_ix (show IxR _ (rIxL K) from ix_list) (pe_lst (pa_cons (pe_glob (v := .ref T.a_greatest_at) (by rfl) T.m_greatest_at rfl) (pa_cons (pe_glob (v := .ref T.a_least_at) (by rfl) T.m_least_at rfl) pa_nil))) (pv 0) (fun _ _ => rfl)) hr (fun σ => passAt tk σ) (pa_cons (pv 1) (pa_cons (pv 2) pa_nil)))))) (fun a oe cls d pn _ _ => (pss_one (ps_set (i := 3) sc_law_refused.nd rfl (Or.inl rfl) pe_bl))))
  (pss_one (ps_ret (pv 3)))))), ?_⟩
    walk_at "begin"
    walk_at "go"
    refine k_callE ?_
    walk_at "go"
    refine ⟨(by decide : 2 ≤ sizeLine), fun l hl => ?_⟩
    walk_at "go"
    have zl := Same.new (o := .lst [.ref T.a_greatest_at, .ref T.a_least_at]) hl
    have done : ∃ f, atI [V.ref T.a_greatest_at, V.ref T.a_least_at] i = some (.ref f) ∧ HeldX P w K mg base 6 f (sp_bad2 K T.c_Machine T.c_BadStand) := by
      rcases hi with rfl | rfl
      · exact ⟨_, rfl, 6, _, _, Nat.le_refl _, ok_greatest_at_bad T, T.k_greatest_at, T.b_greatest_at⟩
      · exact ⟨_, rfl, 6, _, _, Nat.le_refl _, ok_least_at_bad T, T.k_least_at, T.b_least_at⟩
    obtain ⟨f, ef, hf⟩ := done
    refine k_ixL (SqL.of upd_same) ef ⟨f, _, rfl, hf, ?_⟩
    walk_at "go"
    refine ⟨x, v, m, rfl, hm.same zl, bad _, true, T.e_BadStand, fun _ a ha => ?_, fun q => nomatch q⟩
    walk_at "go"
    exact k _ zl
end
/-! ### the ends read off a machine -/
section
variable {P : Program} {w : World} {K : PySem.W.Frag} {mg : Str → Option Value} {base : Heap}
theorem ok_Machine_ends (T : Txt K mg) : FnOk P w K mg base (L2.CX P w) 1 T.a_Machine_ends T.fd_Machine_ends ["self"] (getSp T.c_Machine "_ends") := by
  refine T.F_Machine_ends.okX sc_Machine_ends (fun vs H Q E h => ?_) (fun cdv A outer s H vs Q E hr h => ?_)
  · obtain ⟨a, dx, fs, v, rfl, _⟩ := h
    rfl
  · obtain ⟨a, dx, fs, v, rfl, ha, hl, k⟩ := h
    refine ⟨_, (PSs.nox (pss_one (ps_ret (pe_fld (pv 0) rfl)))), ?_⟩
    exact ⟨_, rfl, a, _, dx, fs, v, rfl, ha, T.cl_Machine, T.n__ends, hl, k⟩
end
/-! ### the program's reached stands -/
section
variable {P : Program} {w : World} {K : PySem.W.Frag} {mg : Str → Option Value} {base : Heap}
theorem ok_reached (T : Txt K mg) : FnOk P w K mg base (L2.CX P w) 4 T.a_reached T.fd_reached ["machine"] (sp_reached K T.c_Machine) := by
  refine T.F_reached.okX sc_reached (fun vs H Q E h => ?_) (fun cdv A outer s H vs Q E hr h => ?_)
  · obtain ⟨x, m, rfl, _⟩ := h
    rfl
  · obtain ⟨x, m, rfl, hm, o, k⟩ := h
    obtain ⟨dx, t, u, hx, hp0⟩ := id hm
    refine ⟨_, (PSs.nox (pss_cons (ps_expr (pe_call (ok_check_machine T) (hr.mono (by decide)) (by rfl) T.m_check_machine T.k_check_machine T.b_check_machine .nil passL (pa_cons (pv 0) pa_nil)))
  (pss_one (ps_ret (pe_call (ok_led_to T) (hr.mono (by decide)) (by rfl) T.m_led_to T.k_led_to T.b_led_to .nil passL (pa_cons (pe_prop (pv 0) T.cl_Machine T.p_steps (ok_Machine_steps T) (hr.mono (by decide)) T.b_Machine_steps .nil passL rfl) (pa_cons (pe_lst (pa_cons pe_int pa_nil)) pa_nil))))))), ?_⟩
    walk_at "begin"
    walk_at "go"
    refine ⟨x, dx, _, rfl, hx, ?_⟩
    walk_at "go"
    refine ⟨x, dx, _, rfl, hx, x, dx, _, .ref t, rfl, hx, rfl, ?_⟩
    walk_at "go"
    refine ⟨(by decide : 1 ≤ sizeLine), fun p hp => ?_⟩
    walk_at "go"
    refine ⟨t, p, m.n, m.ss, [0], rfl, .of ((Tups.new hp).stAt hp0.1), o.sok, upd_same, fun n hn => by rw [List.mem_singleton.mp hn]; exact o.n1, by decide, fun q l' H' z hq eq h1 h2 => k q l' H' ((Same.new hp).trans z) ?_ eq h1 h2⟩
    cases e : H q with
    | none => rfl
    | some ob => rw [Same.new hp _ _ e] at hq; cases hq
end
/-! ### the program's least and greatest of several stands -/
def sp_best_of (K : PySem.W.Frag) : Sp := fun vs H Q _ => ∃ (x p : Addr) (sg : Int) (m : MD) (l : List Nat), vs = [.int (m.n : Nat), .ref x, .int sg, .ref p] ∧ StAt K H x m.ss ∧ m.Ok ∧ (sg = 1 ∨ sg = -1) ∧ H p = some (.lst (nats l)) ∧
  l ≠ [] ∧ l.length ≤ 8 ∧ (∀ k ∈ l, Reach m.ss [0] k) ∧ ∀ r H', Same H H' → EdgeOf sg m l r → Q r H'
def sp_pair (K : PySem.W.Frag) : Sp := fun vs H Q _ => ∃ (x p : Addr) (m : MD) (l : List Nat), vs = [.int (m.n : Nat), .ref x, .ref p] ∧ StAt K H x m.ss ∧ m.Ok ∧ H p = some (.lst (nats l)) ∧
  l ≠ [] ∧ l.length ≤ 8 ∧ (∀ k ∈ l, Reach m.ss [0] k) ∧ ∀ r1 r2 q H', Same H H' → H q = none → H' q = some (.tup [r1, r2]) → EdgeOf (-1) m l r1 → EdgeOf 1 m l r2 → Q (.ref q) H'
section
variable {P : Program} {w : World} {K : PySem.W.Frag} {mg : Str → Option Value} {base : Heap}
theorem ok_best_of (T : Txt K mg) : FnOk P w K mg base (L2.CX P w) 5 T.a_best_of T.fd_best_of ["many", "steps", "sign", "stands"] (sp_best_of K) := by
  refine T.F_best_of.okX sc_best_of (fun vs H Q E h => ?_) (fun cdv A outer s H vs Q E hr h => ?_)
  · obtain ⟨x, p, sg, m, l, rfl, _⟩ := h
    rfl
  · obtain ⟨x, p, sg, m, l, rfl, hm, o, hsg, hp, hne, h8, hre, k⟩ := h
    refine ⟨_, (PSs.nox (pss_cons (ps_set (i := 4) sc_best_of.nd rfl (Or.inr rfl) (pe_call (ok_best_rows T) (hr.mono (by decide)) (by rfl) T.m_best_rows T.k_best_rows T.b_best_rows .nil passL (pa_cons (pv 0) (pa_cons (pv 1) (pa_cons (pv 2) pa_nil)))))
  (pss_cons (ps_setLc (i := 5) (own := [("stand", 6)]) (g := (gName 6)) (tt := tYes) rfl sc_best_of.nd rfl rfl (sw_true rfl rfl rfl (by decide +kernel)) (pi_list (pv 3)) (blkOk_by (own := [("stand", 6)]) (N := ["many", "steps", "sign", "stands", "best", "tallies", "stand"]) (sc := defScope s_best_of) (by decide +kernel)) (fun _ _ _ _ _ => (pg_name (i := 6) sc_best_of.nd rfl (Or.inl rfl))) (fun _ _ _ _ _ => pts_nil) (fun _ _ _ _ _ => (pe_ix (show IxR _ (rIxT K) from ix_tup) (pe_dget (hu_of hr) (pv 4) (pv 6) (fun _ _ => rfl)) pe_int (fun _ _ => rfl))))
  (pss_one (ps_ret (pe_ifExp (pt_cmpR op_in_seq (pe_glob (by rfl) T.m_ENDLESS T.r_ENDLESS) (pv 5) (by rfl)) pe_non (pe_op op_mulW (pv 2) (pe_callB (cr_max rfl) (by rfl) T.z_max (by decide +kernel) (pa_cons (pv 5) pa_nil))))))))), ?_⟩
    walk_at "begin"
    walk_at "go"
    refine ⟨x, sg, m.n, m.ss, rfl, .of hm, o.sok, .of hsg, fun pb kvs H1 li L z1 _ epb hl hL ok => ?_⟩
    rw [bestE_of o hl hL] at ok
    have hp1 := z1 _ _ hp
    walk_at "go"
    refine ⟨p, rfl, ⟨_, SqL.of hp1⟩, fun D hD => ?_⟩
    have npD : pb ≠ D := by intro e; rw [e] at epb; rw [epb] at hD; cases hD
    refine lc_list (xs := nats l) (fun i H' => Same H1 H' ∧ H' D = some (.lst ((l.take i).map (tl0 sg m)))) ⟨Same.new hD, upd_same⟩ (fun _ H' _ ⟨z, _⟩ => SqL.of (z _ _ hp1)) ?_ ?_
    · rintro i y H2 hy ⟨z2, eD⟩
      obtain ⟨n, en, rfl⟩ := nats_at hy
      have hn : n ∈ l := List.mem_of_getElem? en
      have tk : (l.take (i + 1)).map (tl0 sg m) = (l.take i).map (tl0 sg m) ++ [tl0 sg m n] := by rw [List.take_add_one, en, List.map_append]; rfl
      rw [tk]
      have dg : DGet H2 pb (.int (n : Nat)) (valV kvs (.inl (n : Int))) := DGet.k (k := .inl (n : Int)) (z2 _ _ epb)
      have ok2 := ok.tups (same_tups z2)
      have lt : ((l.take i).map (tl0 sg m)).length < sizeLine := by
        rw [List.length_map, List.length_take]
        exact Nat.lt_of_le_of_lt (show _ ≤ 8 by omega) (by decide)
      walk_at "go"
      refine ⟨rfl, ?_⟩
      walk_at "go"
      refine iteT ?_
      walk_at "go"
      by_cases c : Endl sg m n
      · have e1 : bestE sg m n = some endE := by unfold bestE; rw [if_pos c]
        obtain ⟨q, eq, sq⟩ := (ok2.2 n).2 _ e1
        rw [eq] at dg
        refine ⟨pb, _, rfl, dg, ?_⟩
        walk_at "go"
        refine k_ixT sq (v := .str "endless") rfl ?_
        have e2 : tl0 sg m n = .str "endless" := by unfold tl0; rw [if_pos c]
        rw [e2]
        exact ⟨_, eD, lt, Same.mut z2 hD, upd_same⟩
      · obtain ⟨yv, eb⟩ := reach_bst o hsg (hre n hn) c
        have e1 : bestE sg m n = E2 (bst sg m.ss m.n) n := by unfold bestE; rw [if_neg c]
        obtain ⟨q, eq, sq⟩ := (ok2.2 n).2 (ent2 yv) (by rw [e1]; unfold E2; rw [eb]; rfl)
        rw [eq] at dg
        refine ⟨pb, _, rfl, dg, ?_⟩
        walk_at "go"
        refine k_ixT sq (v := .int yv.1) rfl ?_
        have e2 : tl0 sg m n = .int yv.1 := by unfold tl0; rw [if_neg c, eb]
        rw [e2]
        exact ⟨_, eD, lt, Same.mut z2 hD, upd_same⟩
    · rintro H2 ⟨z2, eD⟩
      have eD : H2 D = some (.lst (l.map (tl0 sg m))) := by
        rw [eD]
        unfold nats
        rw [List.length_map, List.take_length]
      walk_at "go"
      refine ⟨D, _, rfl, .inl (SqL.of eD), rfl, tl0_flat l, ?_⟩
      by_cases c : ∃ k ∈ l, Endl sg m k
      · walk_at "go"
        refine k_yes (tl0_in c) ?_
        walk_at "go"
        exact k _ _ (z1.trans z2) (.inl ⟨rfl, c⟩)
      · walk_at "go"
        refine k_no (tl0_out c) ?_
        walk_at "go"
        have nk : ∀ k ∈ l, ¬ Endl sg m k := fun k hk e => c ⟨k, hk, e⟩
        have em : l.map (tl0 sg m) = (l.map (bst1 sg m)).map V.int := by
          rw [List.map_map]
          refine List.map_congr_left fun k hk => ?_
          obtain ⟨yv, eb⟩ := reach_bst o hsg (hre k hk) (nk k hk)
          show tl0 sg m k = .int (bst1 sg m k)
          unfold tl0 bst1
          rw [if_neg (nk k hk), eb]
          rfl
        rw [em] at eD
        refine ⟨D, _, rfl, SqL.of eD, ?_, fun v hv hmax => ?_⟩
        · rw [List.length_map]
          exact List.length_pos_iff.mpr hne
        · obtain ⟨kb, hkb, rfl⟩ := List.mem_map.mp hv
          obtain ⟨yv, eb⟩ := reach_bst o hsg (hre kb hkb) (nk kb hkb)
          have ev : bst1 sg m kb = yv.1 := by unfold bst1; rw [eb]; rfl
          obtain ⟨j, hj, ej⟩ := bst_of _ _ _ eb
          have sm := lvl_small o hsg j _ _ ej
          have n8 := o.n8
          rw [ev] at hmax ⊢
          refine k_I (wide_mul (a := 1) (b := 110) (by rcases hsg with rfl | rfl <;> decide) ?_ (by decide) (by decide) (by decide)) ?_
          · have : (j : Int) * 10 ^ 30 ≤ 8 * 10 ^ 30 := by omega
            omega
          · refine k _ _ (z1.trans z2) (.inr ⟨yv.1, rfl, nk, ⟨kb, hkb, yv, eb, rfl⟩, fun k2 hk2 y2 ey2 => ?_⟩)
            have := hmax (bst1 sg m k2) (List.mem_map.mpr ⟨k2, hk2, rfl⟩)
            unfold bst1 at this
            rw [ey2] at this
            exact this
theorem ok_least_and_greatest (T : Txt K mg) : FnOk P w K mg base (L2.CX P w) 6 T.a_least_and_greatest T.fd_least_and_greatest ["many", "steps", "stands"] (sp_pair K) := by
  refine T.F_least_and_greatest.okX sc_least_and_greatest (fun vs H Q E h => ?_) (fun cdv A outer s H vs Q E hr h => ?_)
  · obtain ⟨x, p, m, l, rfl, _⟩ := h
    rfl
  · obtain ⟨x, p, m, l, rfl, hm, o, hp, hne, h8, hre, k⟩ := h
    refine ⟨_, (PSs.nox (pss_one (ps_ret (pe_tup (pa_cons (pe_call (ok_best_of T) (hr.mono (by decide)) (by rfl) T.m_best_of T.k_best_of T.b_best_of .nil passL (pa_cons (pv 0) (pa_cons (pv 1) (pa_cons (pe_un un_neg pe_int) (pa_cons (pv 2) pa_nil))))) (pa_cons (pe_call (ok_best_of T) (hr.mono (by decide)) (by rfl) T.m_best_of T.k_best_of T.b_best_of .nil passL (pa_cons (pv 0) (pa_cons (pv 1) (pa_cons pe_int (pa_cons (pv 2) pa_nil))))) pa_nil)))))), ?_⟩
    walk_at "begin"
    walk_at "go"
    refine ⟨x, p, -1, m, l, rfl, hm, o, .inr rfl, hp, hne, h8, hre, fun r1 H1 z1 e1 => ?_⟩
    walk_at "go"
    refine ⟨x, p, 1, m, l, rfl, (same_tups z1).stAt hm, o, .inl rfl, z1 _ _ hp, hne, h8, hre, fun r2 H2 z2 e2 => ?_⟩
    walk_at "go"
    refine ⟨(by show 2 ≤ sizeLine; decide), fun q hq => ?_⟩
    have hq0 : H q = none := by
      cases e : H q with
      | none => rfl
      | some ob => rw [(z1.trans z2) _ _ e] at hq; cases hq
    exact k r1 r2 q _ ((z1.trans z2).trans (Same.new hq)) hq0 upd_same e1 e2
end
/-! ### bounds, end_bounds -/
def sp_bounds (K : PySem.W.Frag) (C : Addr) : Sp := fun vs H Q _ => ∃ (x : Addr) (m : MD), vs = [.ref x] ∧ MAt K C H x m ∧ m.Ok ∧
  ∀ (l : List Nat) r1 r2 q H', (∀ n, n ∈ l ↔ Reach m.ss [0] n) → Same H H' → H q = none → H' q = some (.tup [r1, r2]) → EdgeOf (-1) m l r1 → EdgeOf 1 m l r2 → Q (.ref q) H'
def sp_ebounds (K : PySem.W.Frag) (C : Addr) : Sp := fun vs H Q _ => ∃ (x : Addr) (m : MD), vs = [.ref x] ∧ MAt K C H x m ∧ m.Ok ∧
  ∀ (l : List Nat), (∀ n, n ∈ l ↔ Reach m.ss [0] n ∧ n ∈ m.es) → (l = [] → ∀ H', Same H H' → Q .non H') ∧
    (l ≠ [] → ∀ r1 r2 q H', Same H H' → H q = none → H' q = some (.tup [r1, r2]) → EdgeOf (-1) m l r1 → EdgeOf 1 m l r2 → Q (.ref q) H')
section
variable {P : Program} {w : World} {K : PySem.W.Frag} {mg : Str → Option Value} {base : Heap}
theorem ok_bounds (T : Txt K mg) : FnOk P w K mg base (L2.CX P w) 7 T.a_bounds T.fd_bounds ["machine"] (sp_bounds K T.c_Machine) := by
  refine T.F_bounds.okX sc_bounds (fun vs H Q E h => ?_) (fun cdv A outer s H vs Q E hr h => ?_)
  · obtain ⟨x, m, rfl, _⟩ := h
    rfl
  · obtain ⟨x, m, rfl, hm, o, k⟩ := h
    obtain ⟨dx, t, u, hx, hpp⟩ := id hm
    refine ⟨_, (PSs.nox (pss_cons (ps_expr (pe_call (ok_check_machine T) (hr.mono (by decide)) (by rfl) T.m_check_machine T.k_check_machine T.b_check_machine .nil passL (pa_cons (pv 0) pa_nil)))
  (pss_one (ps_ret (pe_call (ok_least_and_greatest T) (hr.mono (by decide)) (by rfl) T.m_least_and_greatest T.k_least_and_greatest T.b_least_and_greatest .nil passL (pa_cons (pe_prop (pv 0) T.cl_Machine T.p_stands (ok_Machine_stands T) (hr.mono (by decide)) T.b_Machine_stands .nil passL rfl) (pa_cons (pe_prop (pv 0) T.cl_Machine T.p_steps (ok_Machine_steps T) (hr.mono (by decide)) T.b_Machine_steps .nil passL rfl) (pa_cons (pe_call (ok_reached T) (hr.mono (by decide)) (by rfl) T.m_reached T.k_reached T.b_reached .nil passL (pa_cons (pv 0) pa_nil)) pa_nil)))))))), ?_⟩
    walk_at "begin"
    walk_at "go"
    refine ⟨x, dx, _, rfl, hx, ?_⟩
    walk_at "go"
    refine ⟨x, dx, _, rfl, hx, x, dx, _, .int (m.n : Nat), rfl, hx, rfl, ?_⟩
    walk_at "go"
    refine ⟨x, dx, _, rfl, hx, x, dx, _, .ref t, rfl, hx, rfl, ?_⟩
    walk_at "go"
    refine ⟨x, m, rfl, hm, o, fun q l H1 z1 hq eq mem asc => ?_⟩
    have l8 : l.length ≤ 8 := Nat.le_trans (nodup_small (asc.imp fun {a b} h => Nat.ne_of_lt h) fun n hn => reach_lt o ((mem n).mp hn)) o.n8
    walk_at "go"
    refine ⟨t, q, m, l, rfl, (same_tups z1).stAt hpp.1, o, eq, fun e => ?_, l8, fun n hn => (mem n).mp hn, fun r1 r2 q2 H2 z2 hq2 eq2 e1 e2 => k l r1 r2 q2 H2 mem (z1.trans z2) (free_of z1 hq2) eq2 e1 e2⟩
    have := (mem 0).mpr (.base (List.mem_singleton.mpr rfl))
    rw [e] at this
    cases this
end
/-! ### end_bounds -/
section
variable {P : Program} {w : World} {K : PySem.W.Frag} {mg : Str → Option Value} {base : Heap}
theorem ok_end_bounds (T : Txt K mg) : FnOk P w K mg base (L2.CX P w) 7 T.a_end_bounds T.fd_end_bounds ["machine"] (sp_ebounds K T.c_Machine) := by
  refine T.F_end_bounds.okX sc_end_bounds (fun vs H Q E h => ?_) (fun cdv A outer s H vs Q E hr h => ?_)
  · obtain ⟨x, m, rfl, _⟩ := h
    rfl
  · obtain ⟨x, m, rfl, hm, o, k⟩ := h
    obtain ⟨dx, t, u, hx, hpp⟩ := id hm
    refine ⟨_, (PSs.nox (pss_cons (ps_expr (pe_call (ok_check_machine T) (hr.mono (by decide)) (by rfl) T.m_check_machine T.k_check_machine T.b_check_machine .nil passL (pa_cons (pv 0) pa_nil)))
  (pss_cons (ps_setLc (i := 1) (own := [("stand", 2)]) (g := (gName 2)) rfl sc_end_bounds.nd rfl rfl (sw_true rfl rfl rfl (by decide +kernel)) (pi_list (pe_call (ok_reached T) (hr.mono (by decide)) (by rfl) T.m_reached T.k_reached T.b_reached .nil passL (pa_cons (pv 0) pa_nil))) (blkOk_by (own := [("stand", 2)]) (N := ["machine", "stands", "stand"]) (sc := defScope s_end_bounds) (by decide +kernel)) (fun _ _ _ _ _ => (pg_name (i := 2) sc_end_bounds.nd rfl (Or.inl rfl))) (fun _ _ _ _ _ => (pts_one (pt_cmpR (show OpR _ _ (rIn K false) from op_in_seq) (pv 2) (pe_prop (pv 0) T.cl_Machine T.p_ends (ok_Machine_ends T) (hr.mono (by decide)) T.b_Machine_ends .nil passL rfl) (by rfl)))) (fun _ _ _ _ _ => (pv 2)))
  (pss_one (ps_ret (pe_ifExp (pt_truth (pv 1) (fun _ => rfl)) (pe_call (ok_least_and_greatest T) (hr.mono (by decide)) (by rfl) T.m_least_and_greatest T.k_least_and_greatest T.b_least_and_greatest .nil passL (pa_cons (pe_prop (pv 0) T.cl_Machine T.p_stands (ok_Machine_stands T) (hr.mono (by decide)) T.b_Machine_stands .nil passL rfl) (pa_cons (pe_prop (pv 0) T.cl_Machine T.p_steps (ok_Machine_steps T) (hr.mono (by decide)) T.b_Machine_steps .nil passL rfl) (pa_cons (pv 1) pa_nil)))) pe_non)))))), ?_⟩
    walk_at "begin"
    walk_at "go"
    refine ⟨x, dx, _, rfl, hx, ?_⟩
    walk_at "go"
    refine ⟨x, m, rfl, hm, o, fun q l H1 z1 hq eq mem asc => ?_⟩
    have l8 : l.length ≤ 8 := Nat.le_trans (nodup_small (asc.imp fun {a b} h => Nat.ne_of_lt h) fun n hn => reach_lt o ((mem n).mp hn)) o.n8
    walk_at "go"
    refine ⟨q, rfl, ⟨_, SqL.of eq⟩, fun D hD => ?_⟩
    refine lc_list (xs := nats l) (fun i H' => Same H1 H' ∧ H' D = some (.lst (nats ((l.take i).filter fun n => decide (n ∈ m.es))))) ⟨Same.new hD, upd_same⟩ (fun _ H' _ ⟨z, _⟩ => SqL.of (z _ _ eq)) ?_ ?_
    · rintro i y H2 hy ⟨z2, eD⟩
      obtain ⟨n, en, rfl⟩ := nats_at hy
      have tk : (l.take (i + 1)).filter (fun n => decide (n ∈ m.es)) = (l.take i).filter (fun n => decide (n ∈ m.es)) ++ (if decide (n ∈ m.es) then [n] else []) := by
        rw [List.take_add_one, en, List.filter_append]
        congr 1
        show List.filter _ [n] = _
        rw [List.filter_cons]
        rfl
      rw [tk]
      walk_at "go"
      refine ⟨rfl, ?_⟩
      walk_at "go"
      obtain ⟨dx2, t2, u2, hx2, _, hu2⟩ := (hm.same z1).same z2
      refine ⟨x, dx2, _, rfl, hx2, x, dx2, _, .ref u2, rfl, hx2, rfl, ?_⟩
      refine ⟨u2, nats m.es, rfl, .inr hu2, rfl, flat_nats _, ?_⟩
      rw [inV_nats]
      walk_at "go"
      refine k_ite (fun c => ?_) (fun c => ?_)
      · walk_at "go"
        rw [decide_eq_true c, if_pos rfl, nats_snoc]
        refine ⟨_, eD, ?_, Same.mut z2 hD, upd_same⟩
        unfold nats
        rw [List.length_map]
        exact Nat.lt_of_le_of_lt (Nat.le_trans (List.length_filter_le _ _) (show _ ≤ 8 by rw [List.length_take]; omega)) (by decide)
      · rw [decide_eq_false c, if_neg Bool.false_ne_true, List.append_nil]
        exact ⟨z2, eD⟩
    · rintro H2 ⟨z2, eD⟩
      have eD : H2 D = some (.lst (nats (l.filter fun n => decide (n ∈ m.es)))) := by
        rw [eD]
        unfold nats
        rw [List.length_map, List.take_length]
      have mem2 : ∀ n, n ∈ (l.filter fun n => decide (n ∈ m.es)) ↔ Reach m.ss [0] n ∧ n ∈ m.es := fun n => by
        rw [List.mem_filter, decide_eq_true_iff, mem]
      have h8 : (l.filter fun n => decide (n ∈ m.es)).length ≤ 8 := Nat.le_trans (List.length_filter_le _ _) l8
      generalize l.filter (fun n => decide (n ∈ m.es)) = l2 at eD mem2 h8
      walk_at "go"
      refine ⟨_, .inl ⟨_, SqL.of eD, rfl⟩, ?_⟩
      cases l2 with
      | nil =>
        refine k_no (by rfl) ?_
        walk_at "go"
        exact (k [] mem2).1 rfl _ (z1.trans z2)
      | cons a l2 =>
        refine k_yes (by rfl) ?_
        walk_at "go"
        have hx2 := z2 _ _ (z1 _ _ hx)
        refine ⟨x, dx, _, rfl, hx2, x, dx, _, .int (m.n : Nat), rfl, hx2, rfl, ?_⟩
        walk_at "go"
        refine ⟨x, dx, _, rfl, hx2, x, dx, _, .ref t, rfl, hx2, rfl, ?_⟩
        walk_at "go"
        exact ⟨t, D, m, _, rfl, (same_tups (z1.trans z2)).stAt hpp.1, o, eD, by simp, h8, fun n hn => ((mem2 n).mp hn).1, fun r1 r2 q2 H3 z3 hq2 eq2 e1 e2 => (k _ mem2).2 (by simp) r1 r2 q2 H3 ((z1.trans z2).trans z3) (free_of (z1.trans z2) hq2) eq2 e1 e2⟩
end
/-! ### what the law tells of each stand -/
def ToldOk (sg : Int) (m : MD) (kvs : List (Key × V)) : Prop := ∀ n : Nat, (Reach m.ss [0] n → valV kvs (.inl (n : Int)) = some (tl0 sg m n)) ∧ (¬ Reach m.ss [0] n → valV kvs (.inl (n : Int)) = none)
/-! ### the law's own least and greatest of several stands, out of what it tells of each -/
def sp_edge (K : PySem.W.Frag) : Sp := fun vs H Q _ => ∃ (td p : Addr) (sg : Int) (m : MD) (kvs : List (Key × V)) (l : List Nat), vs = [.ref td, .ref p, .int sg] ∧ m.Ok ∧ (sg = 1 ∨ sg = -1) ∧ H td = some (.dK kvs) ∧ ToldOk sg m kvs ∧ H p = some (.lst (nats l)) ∧
  l ≠ [] ∧ l.length ≤ 8 ∧ (∀ k ∈ l, Reach m.ss [0] k) ∧ ∀ r H', Same H H' → EdgeOf sg m l r → Q r H'
section
variable {P : Program} {w : World} {K : PySem.W.Frag} {mg : Str → Option Value} {base : Heap}
theorem ok_law_edge (T : Txt K mg) : FnOk P w K mg base (L2.CX P w) 1 T.a_law_edge T.fd_law_edge ["_law_told", "_law_stands", "_law_sign"] (sp_edge K) := by
  refine T.F_law_edge.okX sc_law_edge (fun vs H Q E h => ?_) (fun cdv A outer s H vs Q E hr h => ?_)
  · obtain ⟨td, p, sg, m, kvs, l, rfl, _⟩ := h
    rfl
  · obtain ⟨td, p, sg, m, kvs, l, rfl, o, hsg, htd, ok, hp, hne, h8, hre, k⟩ := h
    refine ⟨_, (PSs.nox (pss_cons (ps_setLc (i := 3) (own := [("_law_stand", 4)]) (g := (gName 4)) rfl sc_law_edge.nd rfl rfl (sw_true rfl rfl rfl (by decide +kernel)) (pi_list (pv 1)) (blkOk_by (own := [("_law_stand", 4)]) (N := ["_law_told", "_law_stands", "_law_sign", "_law_some", "_law_stand"]) (sc := defScope s_law_edge) (by decide +kernel)) (fun _ _ _ _ _ => (pg_name (i := 4) sc_law_edge.nd rfl (Or.inl rfl))) (fun _ _ _ _ _ => (pts_one (pt_cmp (pc_din (hu_of hr) (pv 4) (pv 0)) (by rfl)))) (fun _ _ _ _ _ => (pe_dget (hu_of hr) (pv 0) (pv 4) (fun _ _ => rfl))))
  (pss_one (ps_ret (pe_ifExp (pt_cmpR op_in_seq pe_str (pv 3) (by rfl)) pe_non (pe_op op_mulW (pv 2) (pe_callB (cr_max rfl) (by rfl) T.z_max (by decide +kernel) (pa_cons (pv 3) pa_nil)))))))), ?_⟩
    walk_at "begin"
    walk_at "go"
    refine ⟨p, rfl, ⟨_, SqL.of hp⟩, fun D hD => ?_⟩
    refine lc_list (xs := nats l) (fun i H' => Same H H' ∧ H' D = some (.lst ((l.take i).map (tl0 sg m)))) ⟨Same.new hD, upd_same⟩ (fun _ H' _ ⟨z, _⟩ => SqL.of (z _ _ hp)) ?_ ?_
    · rintro i y H2 hy ⟨z2, eD⟩
      obtain ⟨n, en, rfl⟩ := nats_at hy
      have hn : n ∈ l := List.mem_of_getElem? en
      have tk : (l.take (i + 1)).map (tl0 sg m) = (l.take i).map (tl0 sg m) ++ [tl0 sg m n] := by rw [List.take_add_one, en, List.map_append]; rfl
      rw [tk]
      have dg : DGet H2 td (.int (n : Nat)) (valV kvs (.inl (n : Int))) := DGet.k (k := .inl (n : Int)) (z2 _ _ htd)
      rw [(ok n).1 (hre n hn)] at dg
      have lt : ((l.take i).map (tl0 sg m)).length < sizeLine := by
        rw [List.length_map, List.length_take]
        exact Nat.lt_of_le_of_lt (show _ ≤ 8 by omega) (by decide)
      walk_at "go"
      refine ⟨rfl, ?_⟩
      walk_at "go"
      refine ⟨td, _, rfl, dg, ?_⟩
      walk_at "go"
      refine iteT ?_
      walk_at "go"
      refine ⟨td, _, rfl, dg, ?_⟩
      exact ⟨_, eD, lt, Same.mut z2 hD, upd_same⟩
    · rintro H2 ⟨z2, eD⟩
      have eD : H2 D = some (.lst (l.map (tl0 sg m))) := by
        rw [eD]
        unfold nats
        rw [List.length_map, List.take_length]
      walk_at "go"
      refine ⟨D, _, rfl, .inl (SqL.of eD), rfl, tl0_flat l, ?_⟩
      by_cases c : ∃ k ∈ l, Endl sg m k
      · walk_at "go"
        refine k_yes (tl0_in c) ?_
        walk_at "go"
        exact k _ _ z2 (.inl ⟨rfl, c⟩)
      · walk_at "go"
        refine k_no (tl0_out c) ?_
        walk_at "go"
        have nk : ∀ k ∈ l, ¬ Endl sg m k := fun k hk e => c ⟨k, hk, e⟩
        have em : l.map (tl0 sg m) = (l.map (bst1 sg m)).map V.int := by
          rw [List.map_map]
          refine List.map_congr_left fun k hk => ?_
          obtain ⟨yv, eb⟩ := reach_bst o hsg (hre k hk) (nk k hk)
          show tl0 sg m k = .int (bst1 sg m k)
          unfold tl0 bst1
          rw [if_neg (nk k hk), eb]
          rfl
        rw [em] at eD
        refine ⟨D, _, rfl, SqL.of eD, ?_, fun v hv hmax => ?_⟩
        · rw [List.length_map]
          exact List.length_pos_iff.mpr hne
        · obtain ⟨kb, hkb, rfl⟩ := List.mem_map.mp hv
          obtain ⟨yv, eb⟩ := reach_bst o hsg (hre kb hkb) (nk kb hkb)
          have ev : bst1 sg m kb = yv.1 := by unfold bst1; rw [eb]; rfl
          obtain ⟨j, hj, ej⟩ := bst_of _ _ _ eb
          have sm := lvl_small o hsg j _ _ ej
          have n8 := o.n8
          rw [ev] at hmax ⊢
          refine k_I (wide_mul (a := 1) (b := 110) (by rcases hsg with rfl | rfl <;> decide) ?_ (by decide) (by decide) (by decide)) ?_
          · have : (j : Int) * 10 ^ 30 ≤ 8 * 10 ^ 30 := by omega
            omega
          · refine k _ _ z2 (.inr ⟨yv.1, rfl, nk, ⟨kb, hkb, yv, eb, rfl⟩, fun k2 hk2 y2 ey2 => ?_⟩)
            have := hmax (bst1 sg m k2) (List.mem_map.mpr ⟨k2, hk2, rfl⟩)
            unfold bst1 at this
            rw [ey2] at this
            exact this
end
/-! ### every reached stand has a short row -/
theorem pot_zero {m : MD} : Pot 0 m (fun n => Reach m.ss [0] n ∨ ¬ Reach m.ss [0] n) (fun _ => 0) := fun s _ _ _ => ⟨Classical.em _, by rw [Int.zero_mul]; exact Int.le_refl _⟩
theorem short_row {m : MD} (o : m.Ok) {k : Nat} (h : Reach m.ss [0] k) : ∃ w t, w.length < m.n ∧ run m w = some (k, t) := by
  obtain ⟨w, t, q⟩ := reach_run o h
  obtain ⟨w', t', h1, h2, _⟩ := pot_short (sg := 0) o pot_zero (k := k) (Classical.em _) w.length w t (Nat.le_refl _) q
  exact ⟨w', t', h1, h2⟩
/-- the greatest sg * tally of the rows of length i to k -/
def IsMax (sg : Int) (m : MD) (i k : Nat) (v : Int) : Prop := (∃ w t, w.length = i ∧ run m w = some (k, t) ∧ sg * t = v) ∧ ∀ w t, w.length = i → run m w = some (k, t) → sg * t ≤ v
theorem lvl_max {sg : Int} {m : MD} (o : m.Ok) (hsg : sg = 1 ∨ sg = -1) {i k : Nat} {y : Int × Wd} (h : lvl sg m.ss i k = some y) : IsMax sg m i k y.1 := by
  refine ⟨⟨y.2, sg * y.1, (lvl_ok o i _ _ h).2, lvl_run o hsg i _ _ h, ?_⟩, fun w t hw hr => ?_⟩
  · rcases hsg with rfl | rfl <;> omega
  · obtain ⟨z, ez, nz⟩ := lvl_best o hsg i w k t hw hr
    rw [h] at ez
    cases ez
    exact nz.le
theorem IsMax.uniq {sg : Int} {m : MD} {i k : Nat} {v u : Int} (h : IsMax sg m i k v) (h' : IsMax sg m i k u) : v = u := by
  obtain ⟨⟨w, t, a, b, c⟩, d⟩ := h
  obtain ⟨⟨w', t', a', b', c'⟩, d'⟩ := h'
  have h1 := d _ _ a' b'
  have h2 := d' _ _ a b
  omega
theorem max_lvl {sg : Int} {m : MD} (o : m.Ok) (hsg : sg = 1 ∨ sg = -1) {i k : Nat} {v : Int} (h : IsMax sg m i k v) : ∃ y, lvl sg m.ss i k = some y ∧ y.1 = v := by
  obtain ⟨⟨w, t, a, b, c⟩, d⟩ := id h
  obtain ⟨y, ey, _⟩ := lvl_best o hsg i w k t a b
  exact ⟨y, ey, (lvl_max o hsg ey).uniq h⟩
/-- the greatest sg * tally of the rows to k of at most m.n letters -/
def MaxTo (sg : Int) (m : MD) (k : Nat) (v : Int) : Prop := (∃ w t, w.length ≤ m.n ∧ run m w = some (k, t) ∧ sg * t = v) ∧ ∀ w t, w.length ≤ m.n → run m w = some (k, t) → sg * t ≤ v
theorem maxTo_bst {sg : Int} {m : MD} (o : m.Ok) (hsg : sg = 1 ∨ sg = -1) {k : Nat} {v : Int} (h : MaxTo sg m k v) (ne : ¬ Endl sg m k) : ∃ y, bst sg m.ss m.n k = some y ∧ y.1 = v := by
  obtain ⟨⟨w, t, a, b, c⟩, d⟩ := h
  obtain ⟨y, ey, hy⟩ := no_better o hsg w.length w k t rfl b ne
  obtain ⟨⟨j, hj, ej, _⟩, _⟩ := bst_spec _ _ ey
  have h1 := d y.2 _ (by have := (lvl_ok o j _ _ ej).2; omega) (lvl_run o hsg j _ _ ej)
  refine ⟨y, ey, ?_⟩
  rcases hsg with rfl | rfl <;> omega
/-- the law's loose stands are the endless ones -/
theorem loose_endl {sg : Int} {m : MD} (o : m.Ok) (hsg : sg = 1 ∨ sg = -1) {F : Nat → Int} (hF : ∀ k, Reach m.ss [0] k → MaxTo sg m k (F k)) {Lz : Nat → Prop}
    (base : ∀ s ∈ m.ss, Reach m.ss [0] s.b → F s.e < F s.b + sg * s.g → Lz s.e) (closed : ∀ s ∈ m.ss, Lz s.b → Lz s.e)
    (sound : ∀ P : Nat → Prop, (∀ s ∈ m.ss, Reach m.ss [0] s.b → F s.e < F s.b + sg * s.g → P s.e) → (∀ s ∈ m.ss, P s.b → P s.e) → ∀ k, Lz k → P k) : ∀ k, Lz k ↔ Endl sg m k := fun k => by
  constructor
  · intro h
    refine sound (Endl sg m) (fun s hs hb hlt => ?_) (fun s hs hb => .step hs hb) k h
    apply Classical.byContradiction
    intro ne
    have nb : ¬ Endl sg m s.b := fun z => ne (.step hs z)
    obtain ⟨yb, eb, hyb⟩ := maxTo_bst o hsg (hF _ hb) nb
    obtain ⟨ye, ee, hye⟩ := maxTo_bst o hsg (hF _ (.step hs hb)) ne
    obtain ⟨⟨j, hj, ej, _⟩, _⟩ := bst_spec _ _ eb
    obtain ⟨y2, e2, h2⟩ := no_better o hsg _ _ _ _ rfl (run_snoc.mpr ⟨_, _, s, lvl_run o hsg j _ _ ej, stepOf_self o hs, rfl, rfl⟩) ne
    rw [ee] at e2
    cases e2
    rcases hsg with rfl | rfl <;> omega
  · intro h
    apply Classical.byContradiction
    intro nl
    refine pot_not_endl o hsg (N := fun n => ¬ Lz n) (F := F) (fun s hs hb hn => ⟨fun z => hn (closed s hs z), ?_⟩) k h nl
    apply Classical.byContradiction
    intro c
    exact hn (base s hs hb (by omega))
/-! ### the law's own least and greatest tallies, length by length -/
abbrev LF := Nat → Option Int
def KvI (kvs : List (Key × V)) (f : LF) : Prop := (∀ p ∈ kvs, ∃ n : Nat, p.1 = .inl (n : Int)) ∧ ∀ n : Nat, valV kvs (.inl (n : Int)) = (f n).map V.int
theorem KvI.put {kvs : List (Key × V)} {f : LF} (h : KvI kvs f) (n : Nat) (v : Int) : KvI (putK kvs (.inl (n : Int)) (.int v)) (fun j => if j = n then some v else f j) := by
  refine ⟨fun q hq => ?_, fun j => ?_⟩
  · unfold putK at hq
    split at hq
    · obtain ⟨r, hr, rfl⟩ := List.mem_map.mp hq
      split
      · rename_i z; exact ⟨n, z⟩
      · exact h.1 r hr
    · rcases List.mem_append.mp hq with hq | hq
      · exact h.1 q hq
      · have : q = (.inl (n : Int), .int v) := by simpa using hq
        exact ⟨n, by rw [this]⟩
  · rw [valV_put]
    by_cases c : j = n
    · have c' : (Sum.inl (j : Int) : Key) = .inl (n : Int) := by rw [c]
      simp only [if_pos c, if_pos c']
      rfl
    · have c' : ¬ (Sum.inl (j : Int) : Key) = .inl (n : Int) := fun z => c (by injection z with z; omega)
      simp only [if_neg c, if_neg c']
      exact h.2 j
theorem KvI.key {kvs : List (Key × V)} {f : LF} (h : KvI kvs f) {k : Key} {v : V} (hk : (k, v) ∈ kvs) : ∃ (n : Nat) (u : Int), k = .inl (n : Int) ∧ f n = some u := by
  obtain ⟨n, rfl⟩ : ∃ n : Nat, k = .inl (n : Int) := h.1 _ hk
  cases e : f n with
  | some u => exact ⟨n, u, rfl, e⟩
  | none =>
    have q := h.2 n
    rw [e] at q
    have a := valV_any (.inl (n : Int) : Key) kvs
    rw [q] at a
    have : kvs.any (fun kv => decide (kv.1 = (.inl (n : Int) : Key))) = true := List.any_eq_true.mpr ⟨_, hk, decide_eq_true rfl⟩
    rw [this] at a
    cases a
theorem KvI.has {kvs : List (Key × V)} {f : LF} (h : KvI kvs f) {n : Nat} {u : Int} (e : f n = some u) : ∃ (i : Nat) (v : V), kvs[i]? = some ((Sum.inl (n : Int) : Key), v) := by
  have q := h.2 n
  rw [e] at q
  have a := valV_any (.inl (n : Int) : Key) kvs
  rw [q] at a
  obtain ⟨kv, hm, hd⟩ := List.any_eq_true.mp (a.trans rfl)
  obtain ⟨j, hj, ej⟩ := List.getElem_of_mem hm
  have hd' : kv.1 = .inl (n : Int) := of_decide_eq_true hd
  refine ⟨j, kv.2, ?_⟩
  rw [List.getElem?_eq_getElem hj, ej, ← hd']
theorem putK_nodup {kvs : List (Key × V)} (k : Key) (v : V) (h : (kvs.map (·.1)).Nodup) : ((putK kvs k v).map (·.1)).Nodup := by
  unfold putK
  split
  · rename_i c
    have : (kvs.map fun kv => if kv.1 = k then (kv.1, v) else kv).map (·.1) = kvs.map (·.1) := by
      rw [List.map_map]
      refine List.map_congr_left fun a _ => ?_
      show (if a.1 = k then (a.1, v) else a).1 = a.1
      split
      · rfl
      · rfl
    first
      | rw [this]; exact h
      | (show ((kvs.map _).map _).Nodup; rw [this]; exact h)
  · rename_i c
    rw [List.map_append]
    refine List.nodup_append.mpr ⟨h, by simp, fun a ha b hb e => ?_⟩
    have hb' : b = k := by simpa using hb
    obtain ⟨kv, hm, rfl⟩ := List.mem_map.mp ha
    exact c (List.any_eq_true.mpr ⟨kv, hm, decide_eq_true (by rw [e, hb'])⟩)
theorem KvI.len {kvs : List (Key × V)} {f : LF} {N : Nat} (h : KvI kvs f) (nd : (kvs.map (·.1)).Nodup) (hb : ∀ n u, f n = some u → n < N) : kvs.length ≤ N := by
  have all : ∀ p ∈ kvs, ∃ n : Nat, p.1 = .inl (n : Int) ∧ n < N := fun p hp => by
    obtain ⟨n, u, e, fe⟩ := h.key (k := p.1) (v := p.2) hp
    exact ⟨n, e, hb _ _ fe⟩
  obtain ⟨l, el, hl⟩ : ∃ l : List Nat, kvs.map (·.1) = l.map (fun n : Nat => (.inl (n : Int) : Key)) ∧ ∀ n ∈ l, n < N := by
    clear nd h
    induction kvs with
    | nil => exact ⟨[], rfl, fun n hn => absurd hn (by simp)⟩
    | cons a r ih =>
      obtain ⟨n, en, hn⟩ := all a List.mem_cons_self
      obtain ⟨l, el, hl⟩ := ih fun p hp => all p (List.mem_cons_of_mem _ hp)
      exact ⟨n :: l, by rw [List.map_cons, List.map_cons, el, en], fun k hk => by
        rcases List.mem_cons.mp hk with rfl | hk
        · exact hn
        · exact hl k hk⟩
  have e1 : kvs.length = l.length := by
    have := congrArg List.length el
    rwa [List.length_map, List.length_map] at this
  rw [e1]
  rw [el] at nd
  refine nodup_small ?_ hl
  have : ∀ l : List Nat, (l.map (fun n : Nat => (.inl (n : Int) : Key))).Nodup → l.Nodup := fun l => by
    induction l with
    | nil => exact fun _ => .nil
    | cons a r ih =>
      intro q
      rw [List.map_cons, List.nodup_cons] at q
      rw [List.nodup_cons]
      exact ⟨fun z => q.1 (List.mem_map.mpr ⟨a, z, rfl⟩), ih q.2⟩
  exact this l nd
/-- the greatest over these steps -/
def SMax (sg : Int) (f : LF) (ss : List Stp) (k : Nat) (r : Option Int) : Prop := (r = none ∧ ∀ s ∈ ss, s.e = k → f s.b = none) ∨
  ∃ v, r = some v ∧ (∃ s ∈ ss, s.e = k ∧ ∃ u, f s.b = some u ∧ v = u + sg * s.g) ∧ ∀ s ∈ ss, s.e = k → ∀ u, f s.b = some u → u + sg * s.g ≤ v
theorem SMax.uniq {sg : Int} {f : LF} {ss ss' : List Stp} {k : Nat} {r r' : Option Int} (h : SMax sg f ss k r) (h' : SMax sg f ss' k r') (q : ∀ s, f s.b ≠ none → (s ∈ ss ↔ s ∈ ss')) : r = r' := by
  have q1 : ∀ {s u}, f s.b = some u → (s ∈ ss ↔ s ∈ ss') := fun {s u} e => q s (by rw [e]; simp)
  rcases h with ⟨e, h⟩ | ⟨v, e, ⟨s, hs, hk, u, eu, ev⟩, h⟩
  · rcases h' with ⟨e', _⟩ | ⟨v', e', ⟨s, hs, hk, u, eu, _⟩, _⟩
    · rw [e, e']
    · have := h s ((q1 eu).mpr hs) hk
      rw [eu] at this
      cases this
  · rcases h' with ⟨e', h'⟩ | ⟨v', e', ⟨s', hs', hk', u', eu', ev'⟩, h'⟩
    · have := h' s ((q1 eu).mp hs) hk
      rw [eu] at this
      cases this
    · have a1 := h' s ((q1 eu).mp hs) hk u eu
      have a2 := h s' ((q1 eu').mpr hs') hk' u' eu'
      rw [e, e']
      congr 1
      omega
theorem SMax.snoc {sg : Int} {f : LF} {ss : List Stp} {g : LF} {s : Stp} {u : Int} (h : ∀ k, SMax sg f ss k (g k)) (eu : f s.b = some u) (k : Nat) :
    SMax sg f (ss ++ [s]) k (if (g s.e = none ∨ ∃ y, g s.e = some y ∧ y < u + sg * s.g) ∧ k = s.e then some (u + sg * s.g) else g k) := by
  by_cases ck : k = s.e
  · subst ck
    have hh := h s.e
    by_cases c : g s.e = none ∨ ∃ y, g s.e = some y ∧ y < u + sg * s.g
    · rw [if_pos ⟨c, rfl⟩]
      refine .inr ⟨_, rfl, ⟨s, by simp, rfl, u, eu, rfl⟩, fun s' hs' hk' u' eu' => ?_⟩
      rcases List.mem_append.mp hs' with hs' | hs'
      · rcases hh with ⟨e, h0⟩ | ⟨v, e, _, h0⟩
        · rw [h0 s' hs' hk'] at eu'
          cases eu'
        · have := h0 s' hs' hk' u' eu'
          rcases c with c | ⟨y, ey, hy⟩
          · rw [c] at e; cases e
          · rw [ey] at e
            cases e
            omega
      · rw [List.mem_singleton.mp hs', eu] at eu'
        cases eu'
        rw [List.mem_singleton.mp hs']
        exact Int.le_refl _
    · rw [if_neg fun z => c z.1]
      rcases hh with ⟨e, _⟩ | ⟨v, e, ⟨s', hs', hk', r⟩, h0⟩
      · exact absurd (.inl e) c
      · refine .inr ⟨v, e, ⟨s', List.mem_append_left _ hs', hk', r⟩, fun s2 hs2 hk2 u2 eu2 => ?_⟩
        rcases List.mem_append.mp hs2 with hs2 | hs2
        · exact h0 s2 hs2 hk2 u2 eu2
        · rw [List.mem_singleton.mp hs2, eu] at eu2
          cases eu2
          rw [List.mem_singleton.mp hs2]
          apply Classical.byContradiction
          intro z
          exact c (.inr ⟨v, e, by omega⟩)
  · rw [if_neg fun z => ck z.2]
    rcases h k with ⟨e, h0⟩ | ⟨v, e, ⟨s', hs', r⟩, h0⟩
    · refine .inl ⟨e, fun s2 hs2 hk2 => ?_⟩
      rcases List.mem_append.mp hs2 with hs2 | hs2
      · exact h0 s2 hs2 hk2
      · rw [List.mem_singleton.mp hs2] at hk2
        exact absurd hk2.symm ck
    · refine .inr ⟨v, e, ⟨s', List.mem_append_left _ hs', r⟩, fun s2 hs2 hk2 => ?_⟩
      rcases List.mem_append.mp hs2 with hs2 | hs2
      · exact h0 s2 hs2 hk2
      · rw [List.mem_singleton.mp hs2] at hk2
        exact absurd hk2.symm ck
def lvl1 (sg : Int) (ss : List Stp) (i : Nat) : LF := fun k => (lvl sg ss i k).map (·.1)
theorem lvl1_smax (sg : Int) (ss : List Stp) (i k : Nat) : SMax sg (lvl1 sg ss i) ss k (lvl1 sg ss (i + 1) k) := by
  have up : ∀ s ∈ ss, ∀ v, lvl sg ss i s.b = some v → ∃ z, lvl sg ss (i + 1) s.e = some z ∧ v.1 + sg * s.g ≤ z.1 := fun s hs v ev => by
    obtain ⟨z, ez, nz⟩ := longer_has (sg := sg) ev ss hs fun _ => none
    exact ⟨z, ez, nz.le⟩
  cases e : lvl sg ss (i + 1) k with
  | none =>
    refine .inl ⟨by unfold lvl1; rw [e]; rfl, fun s hs hk => ?_⟩
    cases e2 : lvl sg ss i s.b with
    | none => unfold lvl1; rw [e2]; rfl
    | some v =>
      obtain ⟨z, ez, _⟩ := up s hs v e2
      rw [hk, e] at ez
      cases ez
  | some y =>
    have at_ := longer_ind (sg := sg) (f := lvl sg ss i) (ss := ss) (P := fun n y => ∃ s ∈ ss, s.e = n ∧ ∃ u, lvl1 sg ss i s.b = some u ∧ y.1 = u + sg * s.g) (fun s hs v ev => ⟨s, hs, rfl, v.1, by unfold lvl1; rw [ev]; rfl, rfl⟩) k y e
    refine .inr ⟨y.1, by unfold lvl1; rw [e]; rfl, at_, fun s hs hk u eu => ?_⟩
    unfold lvl1 at eu
    cases e2 : lvl sg ss i s.b with
    | none => rw [e2] at eu; cases eu
    | some v =>
      rw [e2] at eu
      cases eu
      obtain ⟨z, ez, hz⟩ := up s hs v e2
      rw [hk, e] at ez
      cases ez
      exact hz
def LevAt (H : Hp) (us : List V) (lv : Nat → LF) (n : Nat) : Prop := us.length = n ∧ ∀ i, i < n → ∃ q kvs, us[i]? = some (.ref q) ∧ H q = some (.dK kvs) ∧ KvI kvs (lv i)
theorem LevAt.same {H H' : Hp} {us : List V} {lv : Nat → LF} {n : Nat} (h : LevAt H us lv n) (z : Same H H') : LevAt H' us lv n := ⟨h.1, fun i hi => let ⟨q, kvs, a, b, c⟩ := h.2 i hi; ⟨q, kvs, a, z _ _ b, c⟩⟩
theorem LevAt.snoc {H : Hp} {us : List V} {lv : Nat → LF} {n : Nat} {q : Addr} {kvs : List (Key × V)} (h : LevAt H us lv n) (eq : H q = some (.dK kvs)) (ok : KvI kvs (lv n)) : LevAt H (us ++ [.ref q]) lv (n + 1) := by
  refine ⟨by rw [List.length_append, h.1]; rfl, fun i hi => ?_⟩
  by_cases c : i < n
  · obtain ⟨q', kvs', a, b, c'⟩ := h.2 i c
    exact ⟨q', kvs', by rw [List.getElem?_append_left (by rw [h.1]; exact c)]; exact a, b, c'⟩
  · have e : i = n := by omega
    subst e
    exact ⟨q, kvs, by rw [← h.1, List.getElem?_append_right (Nat.le_refl _), Nat.sub_self]; rfl, eq, ok⟩
def sp_bests (K : PySem.W.Frag) : Sp := fun vs H Q _ => ∃ (d : Addr) (sg : Int) (L : Nat) (m : MD), vs = [.ref d, .int sg, .int (L : Nat)] ∧ DAt K H d m ∧ m.Ok ∧ (sg = 1 ∨ sg = -1) ∧ L ≤ 40 ∧
  ∀ p us H', Same H H' → H p = none → H' p = some (.lst us) → LevAt H' us (lvl1 sg m.ss) (L + 1) → (∀ q, V.ref q ∈ us → H q = none) → Q (.ref p) H'
theorem KvI.zero : KvI [(.inl 0, .int 0)] (lvl1 sg ss 0) := by
  refine ⟨fun p hp => ⟨0, by rw [List.mem_singleton.mp hp]; rfl⟩, fun n => ?_⟩
  unfold lvl1 lvl
  by_cases c : n = 0
  · subst c; rfl
  · rw [if_neg c]
    show valV [((.inl 0 : Key), V.int 0)] (.inl (n : Int)) = none
    have : ¬ (Sum.inl (0 : Int) : Key) = .inl (n : Int) := fun z => c (by injection z with z; omega)
    exact valV_neg (p := ((.inl 0 : Key), V.int 0)) this
theorem LevAt.put {H : Hp} {us : List V} {lv : Nat → LF} {n : Nat} {D : Addr} {ob : HO} (h : LevAt H us lv n) (e : ∀ q, V.ref q ∈ us → q ≠ D) : LevAt (upd H D ob) us lv n := ⟨h.1, fun i hi => let ⟨q, kvs, a, b, c⟩ := h.2 i hi; ⟨q, kvs, a, by rw [upd_ne (e q (List.mem_of_getElem? a))]; exact b, c⟩⟩
theorem LevAt.lst {H : Hp} {us : List V} {lv : Nat → LF} {n : Nat} {F : Addr} {xs : List V} {ob : HO} (h : LevAt H us lv n) (e : H F = some (.lst xs)) : LevAt (upd H F ob) us lv n := ⟨h.1, fun i hi => let ⟨q, kvs, a, b, c⟩ := h.2 i hi; ⟨q, kvs, a, by rw [upd_ne (fun z => by rw [z, e] at b; cases b)]; exact b, c⟩⟩
theorem unlock_same {H2 H' : Hp} {e : Addr} {od : _} {kvs : List (Key × V)} (he : H2 e = some (.dK kvs)) (z : Same (upd H2 e (.frz od (.dK kvs))) H') : Same H2 (upd H' e (.dK kvs)) := fun b o eb => by
  by_cases c : b = e
  · rw [c, he] at eb
    rw [c, upd_same]
    exact eb
  · rw [upd_ne c]
    exact z _ _ (by rw [upd_ne c]; exact eb)
section
variable {P : Program} {w : World} {K : PySem.W.Frag} {mg : Str → Option Value} {base : Heap}
theorem ok_law_bests (T : Txt K mg) : FnOk P w K mg base (L2.CX P w) 3 T.a_law_bests T.fd_law_bests ["_law_d", "_law_sign", "_law_lengths"] (sp_bests K) := by
  refine T.F_law_bests.okX sc_law_bests (fun vs H Q E h => ?_) (fun cdv A outer s H vs Q E hr h => ?_)
  · obtain ⟨d, sg, L, m, rfl, _⟩ := h
    rfl
  · obtain ⟨d, sg, L, m, rfl, hd, o, hsg, hL, k⟩ := h
    refine ⟨_, (PSs.nox (pss_cons (ps_set (i := 3) sc_law_bests.nd rfl (Or.inl rfl) (pe_lst (pa_cons (pe_disp (pps_cons pe_int pe_int pps_nil) (by rfl) (by rfl) (fun z => by cases z) (by decide)) pa_nil)))
  (pss_cons (ps_set (i := 4) sc_law_bests.nd rfl (Or.inl rfl) (pe_disp (pps_cons pe_int pe_int pps_nil) (by rfl) (by rfl) (fun z => by cases z) (by decide)))
  (pss_cons (ps_for PassesOwn.never rfl (pi_range1 (by rfl) T.z_range (pa_cons (pv 2) pa_nil)) (pg_name (i := 5) sc_law_bests.nd rfl (Or.inl rfl))
  (pss_cons (ps_set (i := 6) sc_law_bests.nd rfl (Or.inl rfl) pe_dnewK)
  (pss_cons (ps_lock (ps_for PassesOwn.never rfl (pi_keys (pv 4)) (pg_name (i := 7) sc_law_bests.nd rfl (Or.inl rfl))
  (pss_one (ps_for PassesOwn.never rfl (pi_list (pe_call (ok_law_next T) (hr.mono (by decide)) (by rfl) T.m_law_next T.k_law_next T.b_law_next .nil passL (pa_cons (pv 0) (pa_cons (pv 7) pa_nil)))) (pg_tup rfl (pgs_cons (pg_name (i := 8) sc_law_bests.nd rfl (Or.inl rfl)) (pgs_cons (pg_name (i := 9) sc_law_bests.nd rfl (Or.inl rfl)) (pgs_cons (pg_name (i := 10) sc_law_bests.nd rfl (Or.inl rfl)) pgs_nil))))
  (pss_cons (ps_set (i := 11) sc_law_bests.nd rfl (Or.inl rfl) (pe_op op_add (pe_dget (hu_of hr) (pv 4) (pv 7) (fun _ _ => rfl)) (pe_op op_mulW (pv 1) (pv 10))))
  (pss_one (ps_if (PW.pt (pw_or (pt_cmp (pc_dnotin (hu_of hr) (pv 9) (pv 6)) (by rfl)) (pw_or1 (pt_cmpR op_gt (pv 11) (pe_dget (hu_of hr) (pv 6) (pv 9) (fun _ _ => rfl)) (nomark _)))))
  (pss_one (ps_dput (hu_of hr) (pv 6) (pv 9) (pv 11) rfl))
  pss_nil)))))))
  (pss_cons (ps_set (i := 4) sc_law_bests.nd rfl (Or.inl rfl) (pv 6))
  (pss_one (ps_expr (pe_bm PySem.F.plainAttrs_list PySem.F.slot_list_append PySem.F.type_list_append mt_append (pv 3) (pa_cons (pv 4) pa_nil))))))))
  (pss_one (ps_ret (pv 3))))))), ?_⟩
    walk_at "begin"
    walk_at "go"
    intro q0 hq0
    walk_at "go"
    refine ⟨upd_same, [(.inl 0, .int 0)], rfl, (by decide : 1 ≤ 15), ?_⟩
    have em : mergeK [] [((.inl 0 : Key), V.int 0)] = [(.inl 0, .int 0)] := rfl
    rw [em]
    walk_at "go"
    refine ⟨(by show 1 ≤ sizeLine; decide), fun F hF => ?_⟩
    walk_at "go"
    intro h0 hh0
    walk_at "go"
    refine ⟨upd_same, [(.inl 0, .int 0)], rfl, (by decide : 1 ≤ 15), ?_⟩
    rw [em]
    have zq := Same.mut (o := .dK [(.inl 0, .int 0)]) (Same.new (o := .dK []) hq0) hq0
    have zF := zq.trans (Same.new (o := .lst [.ref q0]) hF)
    have hF0 : H F = none := free_of zq hF
    have hh00 : H h0 = none := free_of zF hh0
    have z1 := Same.mut (o := .dK [(.inl 0, .int 0)]) (zF.trans (Same.new (o := .dK []) hh0)) hh00
    have nqF : q0 ≠ F := ne_of_none (upd_same (H := upd H q0 (.dK [])) (o := .dK [(.inl 0, .int 0)])) hF
    have nFh : F ≠ h0 := ne_of_none (upd_same (o := .lst [.ref q0])) hh0
    have nqh : q0 ≠ h0 := by
      intro e
      rw [← e, upd_ne nqF, upd_same] at hh0
      cases hh0
    generalize hH1 : upd (upd (upd (upd (upd H q0 (.dK [])) q0 (.dK [(.inl 0, .int 0)])) F (.lst [.ref q0])) h0 (.dK [])) h0 (.dK [(.inl 0, .int 0)]) = H1 at z1 ⊢
    have eF1 : H1 F = some (.lst [.ref q0]) := by rw [← hH1, upd_ne nFh, upd_ne nFh, upd_same]
    have eh1 : H1 h0 = some (.dK [(.inl 0, .int 0)]) := by rw [← hH1, upd_same]
    have eq1 : H1 q0 = some (.dK [(.inl 0, .int 0)]) := by rw [← hH1, upd_ne nqh, upd_ne nqh, upd_ne nqF, upd_same]
    have hnw0 : ∀ q, V.ref q ∈ [V.ref q0] → H q = none := fun q hq => by
      have : q = q0 := by simpa using hq
      rw [this]; exact hq0
    clear hH1 zq zF hq0 hF hh0
    walk_at "go"
    refine k_rg (by omega) (by omega) ?_
    have lv0 : LevAt H1 [.ref q0] (lvl1 sg m.ss) (0 + 1) := LevAt.snoc (us := []) ⟨rfl, fun i hi => absurd hi (Nat.not_lt_zero _)⟩ eq1 KvI.zero
    refine for_range (lo := 0) (n := (((L : Nat) : Int)).toNat) (fun i σ H' => ∃ us kvs h a5 a6 a7 a8 a9 a10 a11, Same H H' ∧ H' F = some (.lst us) ∧ LevAt H' us (lvl1 sg m.ss) (i + 1) ∧ H' h = some (.dK kvs) ∧ KvI kvs (lvl1 sg m.ss i) ∧ (kvs.map (·.1)).Nodup ∧ h ≠ F ∧ (∀ q, V.ref q ∈ us → H q = none) ∧
        σ = [some (.ref d), some (.int sg), some (.int (L : Nat)), some (.ref F), some (.ref h), a5, a6, a7, a8, a9, a10, a11])
      ⟨_, _, h0, none, none, none, none, none, none, none, z1, eF1, lv0, eh1, KvI.zero, by simp, nFh.symm, hnw0, rfl⟩ ?_ ?_
    · clear eF1 eh1 eq1 lv0 nqF nFh nqh z1
      rintro i σ H2 hi ⟨us, kvs, h, a5, a6, a7, a8, a9, a10, a11, z2, eF, lev, eh, kvh, ndh, nhF, hnw, rfl⟩
      have iL : i < L := hi
      walk_at "go"
      intro D hD
      walk_at "go"
      have nDh : D ≠ h := (ne_of_none eh hD).symm
      have nDF : D ≠ F := (ne_of_none eF hD).symm
      have eh2 : (upd H2 D (.dK [])) h = some (.dK kvs) := by rw [upd_ne nDh.symm]; exact eh
      refine ⟨h, _, eh2, trivial, fun od => ?_⟩
      obtain ⟨HL, eHL⟩ : ∃ z, z = upd H2 h (.frz od (.dK kvs)) := ⟨_, rfl⟩
      have ltb : ∀ n u, lvl1 sg m.ss i n = some u → n < m.n := fun n u e => by
        unfold lvl1 at e
        cases e2 : lvl sg m.ss i n with
        | none => rw [e2] at e; cases e
        | some y => exact (lvl_ok o _ _ _ e2).1
      have hD1 : HL D = none := by rw [eHL, upd_ne nDh]; exact hD
      have hL1 : HL h = some (.frz od (.dK kvs)) := by rw [eHL, upd_same]
      have zL : Same HL (upd (upd H2 D (.dK [])) h (.frz od (.dK kvs))) := fun b ob eb => by
        rw [eHL] at eb
        by_cases c : b = h
        · rw [c, upd_same] at eb ⊢; exact eb
        · rw [upd_ne c] at eb ⊢
          rw [upd_ne (ne_of_none eb hD)]
          exact eb
      have eDL : (upd (upd H2 D (.dK [])) h (.frz od (.dK kvs))) D = some (.dK []) := by rw [upd_ne nDh, upd_same]
      have tL : Tups H2 HL := by rw [eHL]; exact Tups.dk eh
      have hdL : DAt K HL d m := by
        obtain ⟨t, u, e, q⟩ := hd.same z2
        refine ⟨t, u, ?_, tL.parts q⟩
        rw [eHL, upd_ne ?_]
        · exact e
        · intro c
          rw [c, eh] at e
          injection e with e
          injection e with e
          obtain ⟨n, hn⟩ := kvh.1 (.inr "stands", .int (m.n : Nat)) (by rw [e]; simp)
          cases hn
      have eFL : HL F = some (.lst us) := by rw [eHL, upd_ne nhF.symm]; exact eF
      have k8 : kvs.length ≤ 8 := Nat.le_trans (kvh.len ndh ltb) o.n8
      have n8 := o.n8
      generalize upd (upd H2 D (.dK [])) h (.frz od (.dK kvs)) = H3 at zL eDL ⊢
      walk_at "go"
      refine ⟨_, rfl, h, od, rfl, .inl ⟨kvs, zL _ _ hL1, ?_⟩⟩
      refine for_it walk_keys (fun j σ H' => ∃ (g : LF) (kvD : List (Key × V)) (PS : List Stp) (a7 a8 a9 a10 a11 : Option V), Same HL H' ∧ H' D = some (.dK kvD) ∧ KvI kvD g ∧ (kvD.map (·.1)).Nodup ∧ (∀ k, SMax sg (lvl1 sg m.ss i) PS k (g k)) ∧
          (∀ s, s ∈ PS ↔ s ∈ m.ss ∧ ∃ (j' : Nat) (v : V), j' < j ∧ kvs[j']? = some ((Sum.inl (s.b : Int) : Key), v)) ∧
          σ = [some (.ref d), some (.int sg), some (.int (L : Nat)), some (.ref F), some (.ref h), some (.int (0 + (i : Nat))), some (.ref D), a7, a8, a9, a10, a11])
        ⟨fun _ => none, [], [], _, _, _, _, _, zL, eDL, ⟨fun p hp => absurd hp (by simp), fun n => rfl⟩, by simp, fun k => .inl ⟨rfl, fun s hs => absurd hs (by simp)⟩, fun s => ⟨fun z => absurd z (by simp), fun ⟨_, j, _, hj, _⟩ => absurd hj (Nat.not_lt_zero _)⟩, rfl⟩
        (fun _ _ _ _ ⟨_, _, _, _, _, _, _, _, z, _⟩ => z _ _ hL1) ?_ ?_
      · rintro j x σ H0 H4 hj ⟨g, kvD, PS, b7, b8, b9, b10, b11, z4, eD4, kvg, ndg, sm, mem, rfl⟩ ⟨rfl, key, v, hk, rfl⟩
        obtain ⟨n, un, rfl, fn⟩ := kvh.key (List.mem_of_getElem? hk)
        walk_at "go"
        refine ⟨d, n, m, rfl, hdL.same z4, o, fun p ns H5 z5 hp ep nx => ?_⟩
        refine ⟨p, rfl, ⟨_, SqL.of ep⟩, for_list (xs := ns) (fun c σ H' => ∃ (g' : LF) (kv' : List (Key × V)) (a8 a9 a10 a11 : Option V), Same HL H' ∧ H' D = some (.dK kv') ∧ KvI kv' g' ∧ (kv'.map (·.1)).Nodup ∧ (∀ k, SMax sg (lvl1 sg m.ss i) (PS ++ (fromS m n).take c) k (g' k)) ∧
            H' p = some (.lst ns) ∧ NxAt K H' ns (fromS m n) ∧ σ = [some (.ref d), some (.int sg), some (.int (L : Nat)), some (.ref F), some (.ref h), some (.int (0 + (i : Nat))), some (.ref D), some (.int (n : Nat)), a8, a9, a10, a11])
          ⟨g, kvD, _, _, _, _, z4.trans z5, z5 _ _ eD4, kvg, ndg, by simpa using sm, ep, nx, rfl⟩ (fun _ _ _ _ ⟨_, _, _, _, _, _, _, _, _, _, _, e, _⟩ => SqL.of e) ?_ ?_⟩
        · rintro c y σ H6 hc ⟨g', kv', c8, c9, c10, c11, z6, eD6, kvg', nd', sm', ep6, nx6, rfl⟩
          have cl : c < (fromS m n).length := by rw [← nx6.1]; exact (List.getElem?_eq_some_iff.mp hc).1
          have es : (fromS m n)[c]? = some ((fromS m n)[c]'cl) := List.getElem?_eq_getElem cl
          have hs : (fromS m n)[c]'cl ∈ fromS m n := List.getElem_mem cl
          have tk : (fromS m n).take (c + 1) = (fromS m n).take c ++ [(fromS m n)[c]'cl] := by rw [List.take_add_one, es]; rfl
          rw [tk, ← List.append_assoc]
          generalize (fromS m n)[c]'cl = s0 at es hs
          obtain ⟨hs1, hs2⟩ := mem_fromS'.mp hs
          obtain ⟨q, eq, hq⟩ := nx6.2 _ _ es
          rw [hc] at eq
          cases eq
          have ok0 := o.ok _ hs1
          have fs : lvl1 sg m.ss i s0.b = some un := by rw [hs2]; exact fn
          have sn := SMax.snoc sm' fs
          refine k_gt hq rfl ?_
          unfold nxV
          walk_at "go"
          have dr : DGet H6 h (.int (n : Nat)) (valV kvs (.inl (n : Int))) := .inl ⟨kvs, .inl (n : Int), .inr ⟨od, z6 _ _ hL1⟩, rfl, rfl⟩
          rw [kvh.2 n, fn] at dr
          have dg : DGet H6 D (.int (s0.e : Nat)) (valV kv' (.inl (s0.e : Int))) := DGet.k (k := .inl (s0.e : Int)) eD6
          refine ⟨h, _, rfl, dr, ?_⟩
          walk_at "go"
          refine k_I (wide_mul (a := 1) (b := 101) (by rcases hsg with rfl | rfl <;> decide) (by have := ok0.g; have := ok0.g'; omega) (by decide) (by decide) (by decide)) ?_
          walk_at "go"
          refine ⟨D, _, rfl, dg, ?_⟩
          walk_at "go"
          have k8' : kv'.length ≤ 8 := Nat.le_trans (kvg'.len nd' fun k u e => by
            rcases sm' k with ⟨e2, _⟩ | ⟨v, e2, ⟨s, hs, hk, u2, eu2, _⟩, _⟩
            · rw [e2] at e; cases e
            · rw [← hk]
              rcases List.mem_append.mp hs with hs | hs
              · exact (o.ok _ ((mem s).mp hs).1).e
              · exact (o.ok _ (mem_fromS'.mp (List.mem_of_mem_take hs)).1).e) n8
          have put : (g' s0.e = none ∨ ∃ y, g' s0.e = some y ∧ y < un + sg * s0.g) → (∃ (g2 : LF) (kv2 : List (Key × V)) (a8 a9 a10 a11 : Option V), Same HL (upd H6 D (.dK (putK kv' (.inl (s0.e : Int)) (.int (un + sg * s0.g))))) ∧ (upd H6 D (.dK (putK kv' (.inl (s0.e : Int)) (.int (un + sg * s0.g))))) D = some (.dK kv2) ∧ KvI kv2 g2 ∧ (kv2.map (·.1)).Nodup ∧ (∀ k, SMax sg (lvl1 sg m.ss i) (PS ++ (fromS m n).take c ++ [s0]) k (g2 k)) ∧
              (upd H6 D (.dK (putK kv' (.inl (s0.e : Int)) (.int (un + sg * s0.g))))) p = some (.lst ns) ∧ NxAt K (upd H6 D (.dK (putK kv' (.inl (s0.e : Int)) (.int (un + sg * s0.g))))) ns (fromS m n) ∧ [some (V.ref d), some (.int sg), some (.int (L : Nat)), some (.ref F), some (.ref h), some (.int (0 + (i : Nat))), some (.ref D), some (.int (n : Nat)), some (.str ⟨#[s0.c]⟩), some (.int (s0.e : Nat)), some (.int s0.g), some (.int (un + sg * s0.g))] = [some (.ref d), some (.int sg), some (.int (L : Nat)), some (.ref F), some (.ref h), some (.int (0 + (i : Nat))), some (.ref D), some (.int (n : Nat)), a8, a9, a10, a11]) := fun cnd => by
            have npD : p ≠ D := by intro e; rw [e, eD6] at ep6; cases ep6
            refine ⟨_, _, _, _, _, _, Same.mut z6 hD1, upd_same, kvg'.put s0.e _, putK_nodup _ _ nd', fun k => ?_, by rw [upd_ne npD]; exact ep6, nx6.tups (Tups.dk eD6), rfl⟩
            have q := sn k
            by_cases ck : k = s0.e
            · rw [if_pos ⟨cnd, ck⟩] at q
              show SMax _ _ _ _ (if k = s0.e then _ else _)
              rw [if_pos ck]
              exact q
            · rw [if_neg fun z => ck z.2] at q
              show SMax _ _ _ _ (if k = s0.e then _ else _)
              rw [if_neg ck]
              exact q
          have keep : ¬ (g' s0.e = none ∨ ∃ y, g' s0.e = some y ∧ y < un + sg * s0.g) → ∀ k, SMax sg (lvl1 sg m.ss i) (PS ++ (fromS m n).take c ++ [s0]) k (g' k) := fun cnd k => by
            have q := sn k
            rw [if_neg fun z => cnd z.1] at q
            exact q
          rw [kvg'.2 s0.e] at dg ⊢
          cases eg : g' s0.e with
          | none =>
            refine iteT (iteT ?_)
            walk_at "go"
            exact ⟨D, _, rfl, DPut.k (k := .inl (s0.e : Int)) eD6 (Nat.lt_of_le_of_lt k8' (by decide)), put (.inl eg)⟩
          | some y =>
            rw [eg] at dg
            refine iteF ?_
            walk_at "go"
            refine ⟨D, _, rfl, dg, ?_⟩
            walk_at "go"
            refine k_ite (fun cc => ?_) (fun cc => ?_)
            · walk_at "go"
              exact ⟨D, _, rfl, DPut.k (k := .inl (s0.e : Int)) eD6 (Nat.lt_of_le_of_lt k8' (by decide)), put (.inr ⟨y, eg, cc⟩)⟩
            · walk_at "go"
              exact ⟨g', kv', _, _, _, _, z6, eD6, kvg', nd', keep (fun z => by
                rcases z with z | ⟨y', ey, hy⟩
                · rw [eg] at z; cases z
                · rw [eg] at ey; cases ey; exact cc hy), ep6, nx6, rfl⟩
        · rintro σ H6 ⟨g', kv', c8, c9, c10, c11, z6, eD6, kvg', nd', sm', ep6, nx6, rfl⟩
          rw [nx6.1, List.take_length] at sm'
          refine ⟨g', kv', _, _, _, _, _, _, z6, eD6, kvg', nd', sm', fun s => ?_, rfl⟩
          rw [List.mem_append, mem s, mem_fromS']
          constructor
          · rintro (⟨h1, j', v', hj', e⟩ | ⟨h1, h2⟩)
            · exact ⟨h1, j', v', by omega, e⟩
            · exact ⟨h1, j, v, by omega, by rw [h2]; exact hk⟩
          · rintro ⟨h1, j', v', hj', e⟩
            by_cases cj : j' = j
            · rw [cj, hk] at e
              have e' : ((Sum.inl (n : Int) : Key), v) = (.inl (s.b : Int), v') := Option.some.inj e
              exact .inr ⟨h1, ((key_eq n s.b).mp (congrArg Prod.fst e')).symm⟩
            · exact .inl ⟨h1, j', v', by omega, e⟩
      · rintro σ H4 ⟨g, kvD, PS, b7, b8, b9, b10, b11, z4, eD4, kvg, ndg, sm, mem, rfl⟩
        refine ⟨z4 _ _ hL1, ?_⟩
        rw [eHL] at z4
        have z5 := unlock_same eh z4
        have eF5 := z5 _ _ eF
        have eD5 : (upd H4 h (.dK kvs)) D = some (.dK kvD) := by rw [upd_ne nDh]; exact eD4
        have eg : g = lvl1 sg m.ss (i + 1) := by
          funext k
          refine (sm k).uniq (lvl1_smax sg m.ss i k) fun s hs => ?_
          rw [mem s]
          refine ⟨fun z => z.1, fun z => ⟨z, ?_⟩⟩
          cases e : lvl1 sg m.ss i s.b with
          | none => exact absurd e hs
          | some u =>
            obtain ⟨j', v', e'⟩ := kvh.has e
            exact ⟨j', v', (List.getElem?_eq_some_iff.mp e').1, e'⟩
        rw [eg] at kvg
        have hnw2 : ∀ q, V.ref q ∈ us ++ [V.ref D] → H q = none := fun q hq => by
          rcases List.mem_append.mp hq with hq | hq
          · exact hnw q hq
          · have : q = D := by simpa using hq
            rw [this]; exact free_of z2 hD
        walk_at "go"
        refine ⟨.inl ⟨rfl, _, SqL.of eF5⟩, ?_⟩
        walk_at "go"
        refine k_append eF5 (by rw [lev.1]; exact Nat.lt_trans (show i + 1 < 100 by omega) (by decide)) ?_
        exact ⟨_, kvD, D, _, _, _, _, _, _, _, Same.mut (z2.trans z5) hF0, upd_same, ((lev.same z5).lst eF5).snoc (by rw [upd_ne nDF]; exact eD5) kvg, by rw [upd_ne nDF]; exact eD5, kvg, ndg, nDF, hnw2, rfl⟩
    · rintro σ H2 ⟨us, kvs, h, a5, a6, a7, a8, a9, a10, a11, z2, eF, lev, eh, kvh, ndh, nhF, hnw, rfl⟩
      walk_at "go"
      exact k F us H2 z2 hF0 eF lev hnw
end
/-! ### the law's own greatest tallies and where there are none -/
def KvG (kvs : List (Key × V)) (g : Nat → Option V) : Prop := (∀ p ∈ kvs, ∃ n : Nat, p.1 = .inl (n : Int)) ∧ ∀ n : Nat, valV kvs (.inl (n : Int)) = g n
theorem KvG.put {kvs : List (Key × V)} {g : Nat → Option V} (h : KvG kvs g) (n : Nat) (v : V) : KvG (putK kvs (.inl (n : Int)) v) (fun j => if j = n then some v else g j) := by
  refine ⟨fun q hq => ?_, fun j => ?_⟩
  · unfold putK at hq
    split at hq
    · obtain ⟨r, hr, rfl⟩ := List.mem_map.mp hq
      split
      · rename_i z; exact ⟨n, z⟩
      · exact h.1 r hr
    · rcases List.mem_append.mp hq with hq | hq
      · exact h.1 q hq
      · have : q = (.inl (n : Int), v) := by simpa using hq
        exact ⟨n, by rw [this]⟩
  · rw [valV_put]
    by_cases c : j = n
    · have c' : (Sum.inl (j : Int) : Key) = .inl (n : Int) := by rw [c]
      simp only [if_pos c, if_pos c']
    · have c' : ¬ (Sum.inl (j : Int) : Key) = .inl (n : Int) := fun z => c (by injection z with z; omega)
      simp only [if_neg c, if_neg c']
      exact h.2 j
theorem KvG.keys {kvs : List (Key × V)} {g : Nat → Option V} (h : KvG kvs g) (nd : (kvs.map (·.1)).Nodup) : ∃ l : List Nat, kvs.map (·.1) = l.map (fun n : Nat => (.inl (n : Int) : Key)) ∧ l.Nodup ∧ ∀ n, n ∈ l ↔ g n ≠ none := by
  obtain ⟨l, el⟩ : ∃ l : List Nat, kvs.map (·.1) = l.map (fun n : Nat => (.inl (n : Int) : Key)) := by
    have all := h.1
    clear nd h
    induction kvs with
    | nil => exact ⟨[], rfl⟩
    | cons a r ih =>
      obtain ⟨n, en⟩ := all a List.mem_cons_self
      obtain ⟨l, el⟩ := ih fun p hp => all p (List.mem_cons_of_mem _ hp)
      exact ⟨n :: l, by rw [List.map_cons, List.map_cons, el, en]⟩
  refine ⟨l, el, ?_, fun n => ?_⟩
  · rw [el] at nd
    have : ∀ l : List Nat, (l.map (fun n : Nat => (.inl (n : Int) : Key))).Nodup → l.Nodup := fun l => by
      induction l with
      | nil => exact fun _ => .nil
      | cons a r ih =>
        intro q
        rw [List.map_cons, List.nodup_cons] at q
        rw [List.nodup_cons]
        exact ⟨fun z => q.1 (List.mem_map.mpr ⟨a, z, rfl⟩), ih q.2⟩
    exact this l nd
  · have a := valV_any (.inl (n : Int) : Key) kvs
    rw [h.2 n] at a
    have e1 : n ∈ l ↔ (.inl (n : Int) : Key) ∈ kvs.map (·.1) := by
      rw [el, List.mem_map]
      exact ⟨fun z => ⟨n, z, rfl⟩, fun ⟨k, hk, e⟩ => by rw [← (key_eq k n).mp e]; exact hk⟩
    rw [e1]
    constructor
    · intro hm z
      obtain ⟨kv, h1, h2⟩ := List.mem_map.mp hm
      rw [z] at a
      have : kvs.any (fun kv => decide (kv.1 = (.inl (n : Int) : Key))) = true := List.any_eq_true.mpr ⟨kv, h1, decide_eq_true h2⟩
      rw [this] at a
      cases a
    · intro z
      cases e : g n with
      | none => exact absurd e z
      | some v =>
        rw [e] at a
        obtain ⟨kv, h1, h2⟩ := List.any_eq_true.mp (a.trans rfl)
        exact List.mem_map.mpr ⟨kv, h1, of_decide_eq_true h2⟩
theorem KvG.len {kvs : List (Key × V)} {g : Nat → Option V} {N : Nat} (h : KvG kvs g) (nd : (kvs.map (·.1)).Nodup) (hb : ∀ n, g n ≠ none → n < N) : kvs.length ≤ N := by
  obtain ⟨l, el, nl, ml⟩ := h.keys nd
  have e1 : kvs.length = l.length := by
    have := congrArg List.length el
    rwa [List.length_map, List.length_map] at this
  rw [e1]
  exact nodup_small nl fun n hn => hb n ((ml n).mp hn)
def TKeys (m : MD) (kvs : List (Key × V)) : Prop := ∃ l : List Nat, kvs.map (·.1) = l.map (fun n : Nat => (.inl (n : Int) : Key)) ∧ l.Nodup ∧ ∀ n, n ∈ l ↔ Reach m.ss [0] n
def sp_most (K : PySem.W.Frag) : Sp := fun vs H Q _ => ∃ (d : Addr) (sg : Int) (m : MD), vs = [.ref d, .int sg] ∧ DAt K H d m ∧ m.Ok ∧ (sg = 1 ∨ sg = -1) ∧
  ∀ p kvs H', Same H H' → H p = none → H' p = some (.dK kvs) → ToldOk sg m kvs → TKeys m kvs → Q (.ref p) H'
/-- what is loose, so far -/
def SoundL (sg : Int) (m : MD) (F : Nat → Int) (Ls : List Nat) : Prop := ∀ P : Nat → Prop, (∀ s ∈ m.ss, Reach m.ss [0] s.b → F s.e < F s.b + sg * s.g → P s.e) → (∀ s ∈ m.ss, P s.b → P s.e) → ∀ k, k ∈ Ls → P k
theorem closed_full {m : MD} (o : m.Ok) {Ls : List Nat} (nd : Ls.Nodup) (lt : ∀ k ∈ Ls, k < m.n) (h : ClosedS m Ls ∨ m.n ≤ Ls.length) : ClosedS m Ls := by
  rcases h with h | h
  · exact h
  · intro s hs _
    apply Classical.byContradiction
    intro c
    have := nodup_small (F := s.e :: Ls) (n := m.n) (List.nodup_cons.mpr ⟨c, nd⟩) fun k hk => by
      rcases List.mem_cons.mp hk with rfl | hk
      · exact (o.ok s hs).e
      · exact lt k hk
    rw [List.length_cons] at this
    omega
theorem told_of {sg : Int} {m : MD} (o : m.Ok) (hsg : sg = 1 ∨ sg = -1) {f : LF} {kvs : List (Key × V)} {Ls : List Nat} (hf : ∀ k v, f k = some v → MaxTo sg m k v) (hr : ∀ k, Reach m.ss [0] k ↔ f k ≠ none)
    (base : ∀ s ∈ m.ss, Reach m.ss [0] s.b → (f s.e).getD 0 < (f s.b).getD 0 + sg * s.g → s.e ∈ Ls) (closed : ClosedS m Ls) (sound : SoundL sg m (fun k => (f k).getD 0) Ls)
    (ok : KvG kvs fun n => if n ∈ Ls then some (.str "endless") else (f n).map V.int) (nd : (kvs.map (·.1)).Nodup) : ToldOk sg m kvs ∧ TKeys m kvs := by
  have hF : ∀ k, Reach m.ss [0] k → MaxTo sg m k ((f k).getD 0) := fun k hk => by
    cases e : f k with
    | none => exact absurd e ((hr k).mp hk)
    | some v => exact hf k v e
  have el := loose_endl o hsg hF (Lz := fun k => k ∈ Ls) base closed sound
  have ok2 : ∀ n : Nat, valV kvs (.inl (n : Int)) = if n ∈ Ls then some (V.str "endless") else (f n).map V.int := ok.2
  have t : ToldOk sg m kvs := fun n => by
    rw [ok2 n]
    refine ⟨fun h => ?_, fun h => ?_⟩
    · by_cases c : n ∈ Ls
      · rw [if_pos c]
        unfold tl0
        rw [if_pos ((el n).mp c)]
      · rw [if_neg c]
        have ne := fun z => c ((el n).mpr z)
        obtain ⟨y, ey, hy⟩ := maxTo_bst o hsg (hF n h) ne
        unfold tl0
        rw [if_neg ne, ey]
        cases e : f n with
        | none => exact absurd e ((hr n).mp h)
        | some v =>
          rw [e] at hy
          show some (V.int v) = some (V.int y.1)
          rw [hy]
          rfl
    · have c : n ∉ Ls := fun c => h (endl_reach o hsg n ((el n).mp c))
      rw [if_neg c]
      cases e : f n with
      | none => rfl
      | some v => exact absurd ((hr n).mpr (by rw [e]; simp)) h
  refine ⟨t, ?_⟩
  obtain ⟨l, e1, e2, e3⟩ := ok.keys nd
  refine ⟨l, e1, e2, fun n => (e3 n).trans ?_⟩
  by_cases h : Reach m.ss [0] n
  · exact ⟨fun _ => h, fun _ => by
      show (if n ∈ Ls then some (V.str "endless") else (f n).map V.int) ≠ none
      rw [← ok2 n, (t n).1 h]; simp⟩
  · exact ⟨fun z => absurd (by
      show (if n ∈ Ls then some (V.str "endless") else (f n).map V.int) = none
      rw [← ok2 n]; exact (t n).2 h) z, fun z => absurd z h⟩
section
variable {P : Program} {w : World} {K : PySem.W.Frag} {mg : Str → Option Value} {base : Heap}
theorem ok_law_most (T : Txt K mg) : FnOk P w K mg base (L2.CX P w) 5 T.a_law_most T.fd_law_most ["_law_d", "_law_sign"] (sp_most K) := by
  refine T.F_law_most.okX sc_law_most (fun vs H Q E h => ?_) (fun cdv A outer s H vs Q E hr h => ?_)
  · obtain ⟨d, sg, m, rfl, _⟩ := h
    rfl
  · obtain ⟨d, sg, m, rfl, hd, o, hsg, k⟩ := h
    refine ⟨_, (PSs.nox (pss_cons (ps_par (i := 2) (j := 3) (by rfl) sc_law_most.nd rfl rfl (by decide) rfl rfl (pa_cons (pe_dget (hu_of hr) (pv 0) pe_str (fun _ _ => rfl)) (pa_cons pe_dnewK pa_nil)) (by rfl))
  (pss_cons (ps_set (i := 4) sc_law_most.nd rfl (Or.inl rfl) (pe_call (ok_law_bests T) (hr.mono (by decide)) (by rfl) T.m_law_bests T.k_law_bests T.b_law_bests .nil passL (pa_cons (pv 0) (pa_cons (pv 1) (pa_cons (pv 2) pa_nil)))))
  (pss_cons (ps_set (i := 5) sc_law_most.nd rfl (Or.inl rfl) (pe_call (ok_law_reached T) (hr.mono (by decide)) (by rfl) T.m_law_reached T.k_law_reached T.b_law_reached .nil passL (pa_cons (pv 0) pa_nil)))
  (pss_cons (ps_for PassesOwn.never rfl (pi_list (pv 5)) (pg_name (i := 6) sc_law_most.nd rfl (Or.inr rfl))
  (pss_one (ps_dput (hu_of hr) (pv 3) (pv 6) (pe_callB (cr_max rfl) (by rfl) T.z_max (by decide +kernel) (pa_cons (pe_lc (own := [("_law_level", 13)]) (g := (gName 13)) rfl sc_law_most.nd (pi_list (pv 4)) (blkOk_by (own := [("_law_level", 13)]) (N := ["_law_d", "_law_sign", "_law_many", "_law_found", "_law_levels", "_law_stands", "_law_stand", "_law_loose", "_law_begun", "_law_letter", "_law_end", "_law_gain", "_law_turn", "_law_level"]) (sc := defScope s_law_most) (by decide +kernel)) (fun _ _ _ _ _ => (pg_name (i := 13) sc_law_most.nd rfl (Or.inl rfl))) (fun _ _ _ _ _ => (pts_one (pt_cmp (pc_din (hu_of hr) (pv 6) (pv 13)) (by rfl)))) (fun _ _ _ _ _ => (pe_dget (hu_of hr) (pv 13) (pv 6) (fun _ _ => rfl)))) pa_nil)) rfl)))
  (pss_cons (ps_set (i := 7) sc_law_most.nd rfl (Or.inl rfl) pe_dnewK)
  (pss_cons (ps_for PassesOwn.never rfl (pi_tup (pe_dget (hu_of hr) (pv 0) pe_str (fun _ _ => rfl))) (pg_tup rfl (pgs_cons (pg_name (i := 8) sc_law_most.nd rfl (Or.inl rfl)) (pgs_cons (pg_name (i := 9) sc_law_most.nd rfl (Or.inl rfl)) (pgs_cons (pg_name (i := 10) sc_law_most.nd rfl (Or.inl rfl)) (pgs_cons (pg_name (i := 11) sc_law_most.nd rfl (Or.inl rfl)) pgs_nil)))))
  (pss_one (ps_if (PW.pt (pw_and (pt_cmp (pc_din (hu_of hr) (pv 8) (pv 3)) (by rfl)) (pw_and1 (pt_cmpR op_gt (pe_op op_add (pe_dget (hu_of hr) (pv 3) (pv 8) (fun _ _ => rfl)) (pe_op op_mulW (pv 1) (pv 11))) (pe_dget (hu_of hr) (pv 3) (pv 10) (fun _ _ => rfl)) (nomark _)))))
  (pss_one (ps_dput (hu_of hr) (pv 7) (pv 10) pe_bl rfl))
  pss_nil)))
  (pss_cons (ps_for PassesOwn.never rfl (pi_range1 (by rfl) T.z_range (pa_cons (pv 2) pa_nil)) (pg_name (i := 12) sc_law_most.nd rfl (Or.inl rfl))
  (pss_one (ps_for PassesOwn.never rfl (pi_tup (pe_dget (hu_of hr) (pv 0) pe_str (fun _ _ => rfl))) (pg_tup rfl (pgs_cons (pg_name (i := 8) sc_law_most.nd rfl (Or.inl rfl)) (pgs_cons (pg_name (i := 9) sc_law_most.nd rfl (Or.inl rfl)) (pgs_cons (pg_name (i := 10) sc_law_most.nd rfl (Or.inl rfl)) (pgs_cons (pg_name (i := 11) sc_law_most.nd rfl (Or.inl rfl)) pgs_nil)))))
  (pss_one (ps_if (pt_cmp (pc_din (hu_of hr) (pv 8) (pv 7)) (by rfl))
  (pss_one (ps_dput (hu_of hr) (pv 7) (pv 10) pe_bl rfl))
  pss_nil)))))
  (pss_cons (ps_lock (ps_for PassesOwn.never rfl (pi_keys (pv 7)) (pg_name (i := 6) sc_law_most.nd rfl (Or.inr rfl))
  (pss_one (ps_dput (hu_of hr) (pv 3) (pv 6) pe_str rfl))))
  (pss_one (ps_ret (pv 3)))))))))))), ?_⟩
    walk_at "begin"
    walk_at "go"
    obtain ⟨td, ud, ed, hpd⟩ := id hd
    refine ⟨d, .int (m.n : Nat), rfl, DGet.k (k := .inr "stands") ed, ?_⟩
    walk_at "go"
    intro D hD
    walk_at "go"
    have n8 := o.n8
    have z1 := Same.new (o := .dK []) hD
    refine ⟨d, sg, m.n, m, rfl, hd.same z1, o, hsg, by omega, fun p us H1 z2 hp ep lev hnw => ?_⟩
    walk_at "go"
    refine ⟨d, m, rfl, (hd.same z1).same z2, o, fun q l H2 z3 hq eq mem asc => ?_⟩
    walk_at "go"
    have zz := (z1.trans z2).trans z3
    have eD := z3 _ _ (z2 _ _ (upd_same (H := H) (a := D) (o := .dK [])))
    have ep2 := z3 _ _ ep
    have lev2 := lev.same z3
    have l8 : l.length ≤ 8 := Nat.le_trans (nodup_small (asc.imp fun {a b} h => Nat.ne_of_lt h) fun n hn => reach_lt o ((mem n).mp hn)) n8
    have hqD : ∀ q', V.ref q' ∈ us → q' ≠ D := fun q' h' e => by
      have := hnw q' h'
      rw [e, upd_same] at this
      cases this
    have npD : p ≠ D := fun e => by rw [e, upd_same] at hp; cases hp
    have nqD : q ≠ D := fun e => by rw [e, z2 _ _ (upd_same (H := H) (a := D) (o := .dK []))] at hq; cases hq
    obtain ⟨⟨vs, htd, hsd⟩, _⟩ := hpd
    clear z1 z2 z3 ep lev hp hq hnw
    refine ⟨q, rfl, ⟨_, SqL.of eq⟩, for_list (xs := nats l) (fun i σ H' => ∃ (kv : List (Key × V)) (f : LF) (a6 a7 a8 a9 a10 a11 a12 a13 : Option V), Same H H' ∧ H' D = some (.dK kv) ∧ KvG kv (fun n => (f n).map V.int) ∧ (kv.map (·.1)).Nodup ∧ (∀ k, f k ≠ none ↔ k ∈ l.take i) ∧ (∀ k v, f k = some v → MaxTo sg m k v) ∧
        H' q = some (.lst (nats l)) ∧ H' p = some (.lst us) ∧ LevAt H' us (lvl1 sg m.ss) (m.n + 1) ∧ σ = [some (.ref d), some (.int sg), some (.int (m.n : Nat)), some (.ref D), some (.ref p), some (.ref q), a6, a7, a8, a9, a10, a11, a12, a13])
      ⟨[], fun _ => none, _, _, _, _, _, _, _, _, zz, eD, ⟨fun p hp => absurd hp (by simp), fun n => rfl⟩, by simp, fun k => by simp, (fun k v (e : (none : Option Int) = some v) => nomatch e), eq, ep2, lev2, rfl⟩ (fun _ _ _ _ ⟨_, _, _, _, _, _, _, _, _, _, _, _, _, _, _, _, e, _⟩ => SqL.of e) ?_ ?_⟩
    · rintro i y σ H3 hy ⟨kv, f, a6, a7, a8, a9, a10, a11, a12, a13, z3, eD3, ok, nd, fm, fx, eq3, ep3, lev3, rfl⟩
      obtain ⟨n, en, rfl⟩ := nats_at hy
      have hrn : Reach m.ss [0] n := (mem n).mp (List.mem_of_getElem? en)
      walk_at "go"
      refine ⟨p, rfl, ⟨_, SqL.of ep3⟩, fun E hE => ?_⟩
      refine lc_list (xs := us) (fun j H' => Same H3 H' ∧ ∃ xs : List Int, H' E = some (.lst (xs.map V.int)) ∧ xs.length ≤ j ∧ ∀ v, v ∈ xs ↔ ∃ j', j' < j ∧ lvl1 sg m.ss j' n = some v) ⟨Same.new hE, [], upd_same, Nat.le_refl _, fun v => ⟨fun z => absurd z (by simp), fun ⟨j', z, _⟩ => absurd z (Nat.not_lt_zero _)⟩⟩ (fun _ H' _ ⟨z, _⟩ => SqL.of (z _ _ ep3)) ?_ ?_
      · rintro j y H4 hy2 ⟨z4, xs, eE, lx, mx⟩
        have jl : j < m.n + 1 := by rw [← lev3.1]; exact (List.getElem?_eq_some_iff.mp hy2).1
        obtain ⟨qj, kvj, e1, e2, e3⟩ := lev3.2 j jl
        rw [hy2] at e1
        cases e1
        have dg : DGet H4 qj (.int (n : Nat)) (valV kvj (.inl (n : Int))) := DGet.k (k := .inl (n : Int)) (z4 _ _ e2)
        rw [e3.2 n] at dg
        walk_at "go"
        refine ⟨rfl, ?_⟩
        walk_at "go"
        refine ⟨qj, _, rfl, dg, ?_⟩
        walk_at "go"
        have more : ∀ v, (∃ j', j' < j + 1 ∧ lvl1 sg m.ss j' n = some v) ↔ v ∈ xs ∨ lvl1 sg m.ss j n = some v := fun v => by
          rw [mx v]
          constructor
          · rintro ⟨j', h1, h2⟩
            by_cases c : j' = j
            · exact .inr (c ▸ h2)
            · exact .inl ⟨j', by omega, h2⟩
          · rintro (⟨j', h1, h2⟩ | h2)
            · exact ⟨j', by omega, h2⟩
            · exact ⟨j, by omega, h2⟩
        cases ev : lvl1 sg m.ss j n with
        | none =>
          refine iteF ?_
          exact ⟨z4, xs, eE, by omega, fun v => by rw [more v, ev]; simp⟩
        | some v =>
          rw [ev] at dg
          refine iteT ?_
          walk_at "go"
          refine ⟨qj, _, rfl, dg, ?_⟩
          refine ⟨_, eE, ?_, Same.mut z4 hE, xs ++ [v], by rw [upd_same, List.map_append]; rfl, by rw [List.length_append]; show xs.length + 1 ≤ j + 1; omega, fun u => ?_⟩
          · rw [List.length_map]
            exact Nat.lt_trans (show xs.length < 100 by omega) (by decide)
          · rw [more u, ev, List.mem_append, List.mem_singleton]
            exact ⟨fun z => by rcases z with z | z; exact .inl z; exact .inr (by rw [z]), fun z => by rcases z with z | z; exact .inl z; exact .inr (by injection z with z; exact z.symm)⟩
      · rintro H4 ⟨z4, xs, eE, lx, mx⟩
        rw [lev3.1] at mx
        have pos : ∀ w t, w.length ≤ m.n → run m w = some (n, t) → ∃ v, v ∈ xs ∧ sg * t ≤ v := fun w t hw hr => by
          obtain ⟨y, ey, ny⟩ := lvl_best o hsg w.length w n t rfl hr
          exact ⟨y.1, (mx _).mpr ⟨w.length, by omega, by unfold lvl1; rw [ey]; rfl⟩, ny.le⟩
        walk_at "go"
        refine ⟨E, _, rfl, SqL.of eE, ?_, fun v hv hmax => ?_⟩
        · obtain ⟨w, t, hw, hr⟩ := short_row o hrn
          obtain ⟨v, hv, _⟩ := pos w t (by omega) hr
          exact List.length_pos_of_mem hv
        · have mt : MaxTo sg m n v := by
            refine ⟨?_, fun w t hw hr => ?_⟩
            · obtain ⟨j', h1, h2⟩ := (mx v).mp hv
              unfold lvl1 at h2
              cases e2 : lvl sg m.ss j' n with
              | none => rw [e2] at h2; cases h2
              | some y =>
                rw [e2] at h2
                cases h2
                obtain ⟨⟨w, t, a1, a2, a3⟩, _⟩ := lvl_max o hsg e2
                exact ⟨w, t, by omega, a2, a3⟩
            · obtain ⟨u, hu, le⟩ := pos w t hw hr
              have := hmax u hu
              omega
          walk_at "go"
          have lk : kv.length ≤ 8 := Nat.le_trans (ok.len nd (N := m.n) fun k hk => by
            have : f k ≠ none := fun z => hk (by rw [z]; rfl)
            exact reach_lt o ((mem k).mp (List.mem_of_mem_take ((fm k).mp this)))) n8
          refine ⟨D, _, rfl, DPut.k (k := .inl (n : Int)) (z4 _ _ eD3) (Nat.lt_of_le_of_lt lk (by decide)), ?_⟩
          refine ⟨_, fun j => if j = n then some v else f j, _, _, _, _, _, _, _, _, Same.mut (z3.trans z4) hD, upd_same, ?_, putK_nodup _ _ nd, fun k => ?_, fun k u e => ?_, by rw [upd_ne nqD]; exact z4 _ _ eq3, by rw [upd_ne npD]; exact z4 _ _ ep3, (lev3.same z4).put hqD, rfl⟩
          · have := ok.put n (.int v)
            have eqf : (fun j => if j = n then some (V.int v) else (f j).map V.int) = fun j => (if j = n then some v else f j).map V.int := by
              funext j
              by_cases c : j = n
              · rw [if_pos c, if_pos c]; rfl
              · rw [if_neg c, if_neg c]
            have this' : KvG (putK kv (.inl (n : Int)) (.int v)) (fun j => if j = n then some (V.int v) else (f j).map V.int) := this
            rw [eqf] at this'
            exact this'
          · have m1 : k ∈ l.take (i + 1) ↔ k ∈ l.take i ∨ k = n := by rw [List.take_add_one, en, List.mem_append]; simp
            dsimp only
            rw [m1]
            by_cases c : k = n
            · rw [if_pos c]
              exact ⟨fun _ => .inr c, fun _ => by simp⟩
            · rw [if_neg c, fm k]
              exact ⟨.inl, fun z => by rcases z with z | z; exact z; exact absurd z c⟩
          · dsimp only at e
            by_cases c : k = n
            · rw [if_pos c] at e
              cases e
              rw [c]
              exact mt
            · rw [if_neg c] at e
              exact fx k u e
    · rintro σ H3 ⟨kv, f, a6, a7, a8, a9, a10, a11, a12, a13, z3, eD3, ok, nd, fm, fx, eq3, ep3, lev3, rfl⟩
      have tl : l.take (nats l).length = l := by unfold nats; rw [List.length_map, List.take_length]
      rw [tl] at fm
      have fr : ∀ k, Reach m.ss [0] k ↔ f k ≠ none := fun k => (mem k).symm.trans (fm k).symm
      clear eq3 ep3 lev3 tl fm
      have okf : ∀ n : Nat, valV kv (.inl (n : Int)) = (f n).map V.int := ok.2
      walk_at "go"
      intro E hE
      walk_at "go"
      have nDE : D ≠ E := ne_of_none eD3 hE
      have hE0 : H E = none := free_of z3 hE
      have z4 := z3.trans (Same.new (o := .dK []) hE)
      refine ⟨d, .ref td, rfl, DGet.k (k := .inr "steps") (z4 _ _ ed), td, rfl, ⟨vs, (same_tups z4).sq htd⟩, ?_⟩
      refine for_tup (xs := vs) (fun i σ H' => ∃ (Ls : List Nat) (b6 b8 b9 b10 b11 b12 b13 : Option V), Same H H' ∧ H' D = some (.dK kv) ∧ H' E = some (.dK (fkv Ls)) ∧ Ls.Nodup ∧ (∀ k ∈ Ls, k < m.n) ∧ (∀ s ∈ m.ss.take i, Reach m.ss [0] s.b → (f s.e).getD 0 < (f s.b).getD 0 + sg * s.g → s.e ∈ Ls) ∧
          SoundL sg m (fun k => (f k).getD 0) Ls ∧ σ = [some (.ref d), some (.int sg), some (.int (m.n : Nat)), some (.ref D), some (.ref p), some (.ref q), b6, some (.ref E), b8, b9, b10, b11, b12, b13])
        ⟨[], _, _, _, _, _, _, _, z4, by rw [upd_ne nDE]; exact eD3, upd_same, .nil, fun k hk => absurd hk (by simp), fun s hs => by simp at hs, fun P _ _ k hk => absurd hk (by simp), rfl⟩
        (fun i σ H' _ ⟨_, _, _, _, _, _, _, _, z, _⟩ => (same_tups z).sq htd) ?_ ?_
      · rintro i y σ H5 hy ⟨Ls, b6, b8, b9, b10, b11, b12, b13, z5, eD5, eE5, nl, ltL, bs, so, rfl⟩
        have il : i < m.ss.length := by rw [← hsd.1]; exact (List.getElem?_eq_some_iff.mp hy).1
        have ei : m.ss[i]? = some (m.ss[i]'il) := List.getElem?_eq_getElem il
        obtain ⟨pq, eq, hq⟩ := hsd.2 i _ ei
        rw [hy] at eq
        cases eq
        have ok1 := o.ok _ (List.getElem_mem il)
        have im : m.ss[i]'il ∈ m.ss := List.getElem_mem il
        have tk : ∀ s, s ∈ m.ss.take (i + 1) ↔ s ∈ m.ss.take i ∨ s = m.ss[i]'il := fun s => by rw [List.take_add_one, ei, List.mem_append]; simp
        generalize m.ss[i]'il = s0 at hq ok1 im tk
        have dgB : DGet H5 D (.int (s0.b : Nat)) (valV kv (.inl (s0.b : Int))) := DGet.k (k := .inl (s0.b : Int)) eD5
        have dgE : DGet H5 D (.int (s0.e : Nat)) (valV kv (.inl (s0.e : Int))) := DGet.k (k := .inl (s0.e : Int)) eD5
        refine k_gt ((same_tups z5).sq hq) rfl ?_
        unfold stpV
        walk_at "go"
        refine ⟨D, _, rfl, dgB, ?_⟩
        walk_at "go"
        rw [okf s0.b] at dgB ⊢
        rw [okf s0.e] at dgE
        have keep : (Reach m.ss [0] s0.b → (f s0.e).getD 0 < (f s0.b).getD 0 + sg * s0.g → s0.e ∈ Ls) → ∀ s ∈ m.ss.take (i + 1), Reach m.ss [0] s.b → (f s.e).getD 0 < (f s.b).getD 0 + sg * s.g → s.e ∈ Ls := fun c s hs h1 h2 => by
          rcases (tk s).mp hs with hs | rfl
          · exact bs s hs h1 h2
          · exact c h1 h2
        cases fb : f s0.b with
        | none =>
          refine iteF ?_
          walk_at "go"
          exact ⟨Ls, _, _, _, _, _, _, _, z5, eD5, eE5, nl, ltL, keep (fun h => absurd fb ((fr _).mp h)), so, rfl⟩
        | some u =>
          have hb : Reach m.ss [0] s0.b := (fr _).mpr (by rw [fb]; simp)
          rw [fb] at dgB
          cases fe : f s0.e with
          | none => exact absurd fe ((fr _).mp (.step im hb))
          | some u' =>
            rw [fe] at dgE
            refine iteT ?_
            walk_at "go"
            refine ⟨D, _, rfl, dgB, ?_⟩
            walk_at "go"
            refine k_I (wide_mul (a := 1) (b := 101) (by rcases hsg with rfl | rfl <;> decide) (by have := ok1.g; have := ok1.g'; omega) (by decide) (by decide) (by decide)) ?_
            walk_at "go"
            refine ⟨D, _, rfl, dgE, ?_⟩
            walk_at "go"
            refine k_ite (fun c => ?_) (fun c => ?_)
            · walk_at "go"
              have l8' : (fkv Ls).length ≤ 8 := by unfold fkv; rw [List.length_map]; exact Nat.le_trans (nodup_small nl ltL) n8
              refine ⟨E, _, rfl, DPut.k (k := .inl (s0.e : Int)) eE5 (Nat.lt_of_le_of_lt l8' (by decide)), ?_⟩
              rw [putK_fkv]
              refine ⟨addN Ls s0.e, _, _, _, _, _, _, _, Same.mut z5 hE0, by rw [upd_ne nDE]; exact eD5, upd_same, addN_nodup nl, fun k hk => ?_, fun s hs h1 h2 => ?_, fun P h1 h2 k hk => ?_, rfl⟩
              · rcases addN_mem.mp hk with hk | rfl
                · exact ltL k hk
                · exact ok1.e
              · rcases (tk s).mp hs with hs | rfl
                · exact addN_mem.mpr (.inl (bs s hs h1 h2))
                · exact addN_mem.mpr (.inr rfl)
              · rcases addN_mem.mp hk with hk | rfl
                · exact so P h1 h2 k hk
                · refine h1 s0 im hb ?_
                  show (f s0.e).getD 0 < (f s0.b).getD 0 + sg * s0.g
                  rw [fb, fe]
                  exact c
            · walk_at "go"
              refine ⟨Ls, _, _, _, _, _, _, _, z5, eD5, eE5, nl, ltL, keep (fun _ h => absurd ?_ c), so, rfl⟩
              rw [fb, fe] at h
              exact h
      · rintro σ H5 ⟨Ls, b6, b8, b9, b10, b11, b12, b13, z5, eD5, eE5, nl, ltL, bs, so, rfl⟩
        rw [hsd.1, List.take_length] at bs
        walk_at "go"
        refine k_rg (by omega) (by omega) ?_
        refine for_range (lo := 0) (n := (((m.n : Nat) : Int)).toNat) (fun r σ H' => ∃ (Ls : List Nat) (b6 b8 b9 b10 b11 b12 b13 : Option V), Same H H' ∧ H' D = some (.dK kv) ∧ H' E = some (.dK (fkv Ls)) ∧ Ls.Nodup ∧ (∀ k ∈ Ls, k < m.n) ∧ (∀ s ∈ m.ss, Reach m.ss [0] s.b → (f s.e).getD 0 < (f s.b).getD 0 + sg * s.g → s.e ∈ Ls) ∧
            SoundL sg m (fun k => (f k).getD 0) Ls ∧ (ClosedS m Ls ∨ r ≤ Ls.length) ∧ σ = [some (.ref d), some (.int sg), some (.int (m.n : Nat)), some (.ref D), some (.ref p), some (.ref q), b6, some (.ref E), b8, b9, b10, b11, b12, b13])
          ⟨Ls, _, _, _, _, _, _, _, z5, eD5, eE5, nl, ltL, bs, so, .inr (Nat.zero_le _), rfl⟩ ?_ ?_
        · clear bs so nl ltL eE5 eD5 z5 z4
          rintro r σ H6 hr6 ⟨Ls, b6, b8, b9, b10, b11, b12, b13, z6, eD6, eE6, nl, ltL, bs, so, cl, rfl⟩
          walk_at "go"
          refine ⟨d, .ref td, rfl, DGet.k (k := .inr "steps") (z6 _ _ ed), td, rfl, ⟨vs, (same_tups z6).sq htd⟩, ?_⟩
          refine for_tup (xs := vs) (fun i σ H' => ∃ (L2 : List Nat) (b6 b8 b9 b10 b11 b12 b13 : Option V), Same H H' ∧ H' D = some (.dK kv) ∧ H' E = some (.dK (fkv L2)) ∧ L2.Nodup ∧ (∀ k ∈ L2, k < m.n) ∧ Grown Ls L2 ∧
              SoundL sg m (fun k => (f k).getD 0) L2 ∧ (ClosedS m Ls → L2 = Ls) ∧ (∀ s ∈ m.ss.take i, s.b ∈ Ls → s.e ∈ L2) ∧ σ = [some (.ref d), some (.int sg), some (.int (m.n : Nat)), some (.ref D), some (.ref p), some (.ref q), b6, some (.ref E), b8, b9, b10, b11, b12, b13])
            ⟨Ls, _, _, _, _, _, _, _, z6, eD6, eE6, nl, ltL, ⟨fun _ h => h, .inl rfl⟩, so, fun _ => rfl, fun s hs => by simp at hs, rfl⟩
            (fun i σ H' _ ⟨_, _, _, _, _, _, _, _, z, _⟩ => (same_tups z).sq htd) ?_ ?_
          · rintro i y σ H7 hy ⟨L2, c6, c8, c9, c10, c11, c12, c13, z7, eD7, eE7, nl2, lt2, g2, so2, cc, tk2, rfl⟩
            have il : i < m.ss.length := by rw [← hsd.1]; exact (List.getElem?_eq_some_iff.mp hy).1
            have ei : m.ss[i]? = some (m.ss[i]'il) := List.getElem?_eq_getElem il
            obtain ⟨pq, eq, hq⟩ := hsd.2 i _ ei
            rw [hy] at eq
            cases eq
            have ok1 := o.ok _ (List.getElem_mem il)
            have im : m.ss[i]'il ∈ m.ss := List.getElem_mem il
            have tk : ∀ s, s ∈ m.ss.take (i + 1) ↔ s ∈ m.ss.take i ∨ s = m.ss[i]'il := fun s => by rw [List.take_add_one, ei, List.mem_append]; simp
            generalize m.ss[i]'il = s0 at hq ok1 im tk
            have dgB : DGet H7 E (.int (s0.b : Nat)) (valV (fkv L2) (.inl (s0.b : Int))) := DGet.k (k := .inl (s0.b : Int)) eE7
            refine k_gt ((same_tups z7).sq hq) rfl ?_
            unfold stpV
            walk_at "go"
            refine ⟨E, _, rfl, dgB, ?_⟩
            walk_at "go"
            rw [valV_fkv]
            by_cases c : s0.b ∈ L2
            · rw [if_pos c]
              refine iteT ?_
              walk_at "go"
              have l8' : (fkv L2).length ≤ 8 := by unfold fkv; rw [List.length_map]; exact Nat.le_trans (nodup_small nl2 lt2) n8
              refine ⟨E, _, rfl, DPut.k (k := .inl (s0.e : Int)) eE7 (Nat.lt_of_le_of_lt l8' (by decide)), ?_⟩
              rw [putK_fkv]
              refine ⟨addN L2 s0.e, _, _, _, _, _, _, _, Same.mut z7 hE0, by rw [upd_ne nDE]; exact eD7, upd_same, addN_nodup nl2, fun k hk => ?_, g2.add, fun P h1 h2 k hk => ?_, fun h => ?_, fun s hs h1 => ?_, rfl⟩
              · rcases addN_mem.mp hk with hk | rfl
                · exact lt2 k hk
                · exact ok1.e
              · rcases addN_mem.mp hk with hk | rfl
                · exact so2 P h1 h2 k hk
                · exact h2 s0 im (so2 P h1 h2 _ c)
              · have e2 := cc h
                rw [e2] at c ⊢
                exact if_pos (h s0 im c)
              · rcases (tk s).mp hs with hs | rfl
                · exact addN_mem.mpr (.inl (tk2 s hs h1))
                · exact addN_mem.mpr (.inr rfl)
            · rw [if_neg c]
              refine iteF ?_
              walk_at "go"
              refine ⟨L2, _, _, _, _, _, _, _, z7, eD7, eE7, nl2, lt2, g2, so2, cc, fun s hs h1 => ?_, rfl⟩
              rcases (tk s).mp hs with hs | rfl
              · exact tk2 s hs h1
              · exact absurd (g2.1 _ h1) c
          · rintro σ H7 ⟨L2, c6, c8, c9, c10, c11, c12, c13, z7, eD7, eE7, nl2, lt2, g2, so2, cc, tk2, rfl⟩
            rw [hsd.1, List.take_length] at tk2
            refine ⟨L2, _, _, _, _, _, _, _, z7, eD7, eE7, nl2, lt2, fun s hs h1 h2 => g2.1 _ (bs s hs h1 h2), so2, ?_, rfl⟩
            rcases g2.2 with e | lt
            · left
              rw [e] at tk2 ⊢
              exact fun s hs hb => tk2 s hs hb
            · rcases cl with cl | cl
              · left
                rw [cc cl]
                exact cl
              · right
                omega
        · clear bs so nl ltL eE5 eD5 z5 z4
          rintro σ H6 ⟨Ls, b6, b8, b9, b10, b11, b12, b13, z6, eD6, eE6, nl, ltL, bs, so, cl, rfl⟩
          have cls := closed_full o nl ltL cl
          walk_at "go"
          refine ⟨E, _, eE6, trivial, fun od => ?_⟩
          have zf := Same.mut (o := .frz od (.dK (fkv Ls))) z6 hE0
          walk_at "go"
          refine ⟨_, rfl, E, od, rfl, .inl ⟨_, upd_same, ?_⟩⟩
          refine for_it walk_keys (fun j σ H' => ∃ (kv' : List (Key × V)) (b6 : Option V), Same H H' ∧ H' E = some (.frz od (.dK (fkv Ls))) ∧ H' D = some (.dK kv') ∧ KvG kv' (fun n => if n ∈ Ls.take j then some (.str "endless") else (f n).map V.int) ∧ (kv'.map (·.1)).Nodup ∧
              σ = [some (.ref d), some (.int sg), some (.int (m.n : Nat)), some (.ref D), some (.ref p), some (.ref q), b6, some (.ref E), b8, b9, b10, b11, b12, b13])
            ⟨kv, _, zf, upd_same, by rw [upd_ne nDE]; exact eD6, ⟨ok.1, fun n => by rw [ok.2 n]; simp⟩, nd, rfl⟩ (fun _ _ _ _ ⟨_, _, _, e, _⟩ => e) ?_ ?_
          · rintro j x σ H8 H7 hj ⟨kv', b6, z7, eE7, eD7, ok7, nd7, rfl⟩ ⟨rfl, key, v, hk, rfl⟩
            obtain ⟨n, hn, rfl⟩ : ∃ n, Ls[j]? = some n ∧ key = .inl (n : Int) := by
              unfold fkv at hk
              rw [List.getElem?_map] at hk
              cases e : Ls[j]? with
              | none => rw [e] at hk; cases hk
              | some n =>
                rw [e] at hk
                cases hk
                exact ⟨n, rfl, rfl⟩
            walk_at "go"
            have lk : kv'.length ≤ 8 := Nat.le_trans (ok7.len nd7 (N := m.n) fun k (hk : (if k ∈ Ls.take j then some (V.str "endless") else (f k).map V.int) ≠ none) => by
              by_cases c : k ∈ Ls.take j
              · exact ltL k (List.mem_of_mem_take c)
              · have : f k ≠ none := fun z => hk (by rw [if_neg c, z]; rfl)
                exact reach_lt o ((fr k).mpr this)) n8
            refine ⟨D, _, rfl, DPut.k (k := .inl (n : Int)) eD7 (Nat.lt_of_le_of_lt lk (by decide)), ?_⟩
            refine ⟨_, _, Same.mut z7 hD, by rw [upd_ne nDE.symm]; exact eE7, upd_same, ?_, putK_nodup _ _ nd7, rfl⟩
            have q7 := ok7.put n (.str "endless")
            have eqf : (fun k => if k = n then some (V.str "endless") else (if k ∈ Ls.take j then some (.str "endless") else (f k).map V.int)) = fun k => if k ∈ Ls.take (j + 1) then some (V.str "endless") else (f k).map V.int := by
              funext k
              have m1 : k ∈ Ls.take (j + 1) ↔ k ∈ Ls.take j ∨ k = n := by rw [List.take_add_one, hn, List.mem_append]; simp
              by_cases c : k = n
              · rw [if_pos c, if_pos (m1.mpr (.inr c))]
              · rw [if_neg c]
                by_cases c2 : k ∈ Ls.take j
                · rw [if_pos c2, if_pos (m1.mpr (.inl c2))]
                · rw [if_neg c2, if_neg fun z => by rcases m1.mp z with z | z; exact c2 z; exact c z]
            rw [← eqf]
            exact q7
          · rintro σ H7 ⟨kv', b6, z7, eE7, eD7, ok7, nd7, rfl⟩
            have tl7 : Ls.take (fkv Ls).length = Ls := by unfold fkv; rw [List.length_map, List.take_length]
            rw [tl7] at ok7
            have tt := told_of o hsg fx fr bs cls so ok7 nd7
            refine ⟨eE7, ?_⟩
            walk_at "go"
            exact k D kv' _ (Same.mut z7 hE0) hD (by rw [upd_ne nDE]; exact eD7) tt.1 tt.2
end
/-! ### the law -/
open Classical in
noncomputable def dueV (sg : Int) (m : MD) (n : Nat) : V := if Reach m.ss [0] n then tl0 sg m n else .non
theorem due_get {sg : Int} {m : MD} {kvs : List (Key × V)} (h : ToldOk sg m kvs) (n : Nat) : (valV kvs (.inl (n : Int))).getD .non = dueV sg m n := by
  unfold dueV
  by_cases c : Reach m.ss [0] n
  · rw [if_pos c, (h n).1 c]; rfl
  · rw [if_neg c, (h n).2 c]; rfl
def negV : V → V
  | .int i => .int (-i)
  | v => v
theorem bst_reach {sg : Int} {m : MD} (o : m.Ok) (hsg : sg = 1 ∨ sg = -1) {n : Nat} {y : Int × Wd} (h : bst sg m.ss m.n n = some y) : Reach m.ss [0] n := by
  obtain ⟨j, hj, ej⟩ := bst_of _ _ _ h
  exact run_reach _ _ _ _ rfl (lvl_run o hsg j _ _ ej)
theorem tally_due {m : MD} (o : m.Ok) (n : Nat) : tallyAt 1 m n = dueV 1 m n := by
  unfold tallyAt dueV
  by_cases c : Endl 1 m n
  · rw [if_pos c, if_pos (endl_reach o (.inl rfl) n c)]
    unfold tl0
    rw [if_pos c]
  · rw [if_neg c]
    cases e : bst 1 m.ss m.n n with
    | none =>
      by_cases r : Reach m.ss [0] n
      · rw [if_pos r]
        unfold tl0
        rw [if_neg c, e]
      · rw [if_neg r]
    | some y =>
      rw [if_pos (bst_reach o (.inl rfl) e)]
      unfold tl0
      rw [if_neg c, e]
      show V.int (1 * y.1) = V.int y.1
      rw [Int.one_mul]
theorem tally_due' {m : MD} (o : m.Ok) (n : Nat) : tallyAt (-1) m n = negV (dueV (-1) m n) := by
  unfold tallyAt dueV
  by_cases c : Endl (-1) m n
  · rw [if_pos c, if_pos (endl_reach o (.inr rfl) n c)]
    unfold tl0
    rw [if_pos c]
    rfl
  · rw [if_neg c]
    cases e : bst (-1) m.ss m.n n with
    | none =>
      by_cases r : Reach m.ss [0] n
      · rw [if_pos r]
        unfold tl0
        rw [if_neg c, e]
        rfl
      · rw [if_neg r]
        rfl
    | some y =>
      rw [if_pos (bst_reach o (.inr rfl) e)]
      unfold tl0
      rw [if_neg c, e]
      show V.int (-1 * y.1) = V.int (-y.1)
      congr 1
      omega
def DueS (v : V) : Prop := (∃ i, v = .int i) ∨ v = .non ∨ v = .str "endless"
theorem due_s (sg : Int) (m : MD) (n : Nat) : DueS (dueV sg m n) := by
  unfold dueV tl0
  split
  · split
    · exact .inr (.inr rfl)
    · split
      · exact .inr (.inl rfl)
      · exact .inl ⟨_, rfl⟩
  · exact .inr (.inl rfl)
theorem due_scal {v : V} (h : DueS v) : scal v v = true := by
  rcases h with ⟨i, rfl⟩ | rfl | rfl <;> rfl
theorem due_ty {K : PySem.W.Frag} {H : Hp} {v : V} (h : DueS v) : (∃ i, v = .int i) ∨ (negV v = v ∧ ∃ t, TyX K H v t ∧ PySem.W.kitOne K t (.type "int") = some false) := by
  rcases h with ⟨i, rfl⟩ | rfl | rfl
  · exact .inl ⟨i, rfl⟩
  · exact .inr ⟨rfl, _, .base .non, kit_ty (b := "int") (r := false) (by decide +kernel)⟩
  · exact .inr ⟨rfl, _, .base (.str _), kit_ty (b := "int") (r := false) (by decide +kernel)⟩
theorem EdgeOf.congr {sg : Int} {m : MD} {l l' : List Nat} {r : V} (h : EdgeOf sg m l r) (q : ∀ n, n ∈ l ↔ n ∈ l') : EdgeOf sg m l' r := by
  rcases h with ⟨e, k, hk, z⟩ | ⟨v, e, h1, ⟨k, hk, z⟩, h3⟩
  · exact .inl ⟨e, k, (q k).mp hk, z⟩
  · exact .inr ⟨v, e, fun k hk => h1 k ((q k).mpr hk), ⟨k, (q k).mp hk, z⟩, fun k hk => h3 k ((q k).mpr hk)⟩
def edD : V → PyData
  | .int i => .int i
  | _ => .none
theorem edge_dp {K : PySem.W.Frag} {H : Hp} {sg : Int} {m : MD} {l : List Nat} {r : V} (h : EdgeOf sg m l r) : Dp K H r (edD r) := by
  rcases h with ⟨rfl, _⟩ | ⟨v, rfl, _⟩
  · exact .non
  · exact .int _
theorem ed_eqv (r : V) : PyData.eqv (edD r) (edD r) = true := by
  unfold edD
  split <;> simp [PyData.eqv]
theorem dp_nats {K : PySem.W.Frag} {H : Hp} : ∀ l : List Nat, DpAll K H (nats l) (l.map fun n => PyData.int (n : Nat))
  | [] => .nil
  | _ :: l => .cons (.int _) (dp_nats l)
theorem nats_shaped : ∀ l : List Nat, PyData.canLayAll0 (l.map fun n => PyData.int (n : Nat)) = true ∧ PyData.depthAll (l.map fun n => PyData.int (n : Nat)) ≤ 3
  | [] => ⟨rfl, Nat.zero_le _⟩
  | n :: l => by
    obtain ⟨h1, h2⟩ := nats_shaped l
    constructor
    · show (true && PyData.canLayAll0 (l.map fun n => PyData.int (n : Nat))) = true
      rw [h1]
      rfl
    · show max (PyData.depth (PyData.int (n : Nat))) (PyData.depthAll (l.map fun n => PyData.int (n : Nat))) ≤ 3
      have : PyData.depth (PyData.int (n : Nat)) ≤ 3 := by simp [PyData.depth]
      omega
theorem nats_sh (l : List Nat) : SeqAt.shaped (.list (l.map fun n => PyData.int (n : Nat))) = true := by
  obtain ⟨h1, h2⟩ := nats_shaped l
  show (PyData.canLayAll0 (l.map fun n => PyData.int (n : Nat)) && decide (PyData.depthAll (l.map fun n => PyData.int (n : Nat)) + 1 ≤ 64)) = true
  rw [h1, Bool.true_and]
  exact decide_eq_true (by omega)
theorem ed_eqv2 (a b : V) : PyData.eqv (.tuple [edD a, edD b]) (.tuple [edD a, edD b]) = true := by
  show (PyData.eqv (edD a) (edD a) && (PyData.eqv (edD b) (edD b) && true)) = true
  rw [ed_eqv, ed_eqv]
  rfl
theorem ed_sh (a b : V) : SeqAt.shaped (.tuple [edD a, edD b]) = true := by cases a <;> cases b <;> rfl
theorem ed_pair {K : PySem.W.Frag} {H : Hp} {p : Addr} {a b : Int} {m : MD} {l l' : List Nat} {r1 r2 : V} (h : SqT K H p [r1, r2]) (e1 : EdgeOf a m l r1) (e2 : EdgeOf b m l' r2) : Dp K H (.ref p) (.tuple [edD r1, edD r2]) := .tup h (.cons (edge_dp e1) (.cons (edge_dp e2) .nil))
theorem k_dg2 {td ty tx : TE} {σ : L2.St} {H : Hp} {Q : VK} (h : td σ H fun x H1 => ∃ a, x = .ref a ∧ IsD H1 a ∧ ty σ H1 fun y H2 => tx σ H2 fun z H3 => ∃ o, DGet H3 a y o ∧ Q (o.getD z) H3) : tDGet2 td ty tx σ H Q := h
def sp_law (K : PySem.W.Frag) : Sp := fun vs H Q _ => ∃ (sc : Addr) (ns : List Int), vs = [.ref sc] ∧ ScAt K H sc (ns.map V.int) ∧ ns.length ≤ 63 ∧ ∀ H', Q (.bl true) H'
section
variable {P : Program} {w : World} {K : PySem.W.Frag} {mg : Str → Option Value} {base : Heap}
theorem ok_law (T : Txt K mg) : FnOk P w K mg base (L2.CX P w) 10 T.a_law T.fd_law ["_law_script"] (sp_law K) := by
  refine T.F_law.okX sc_law (fun vs H Q E h => ?_) (fun cdv A outer s H vs Q E hr h => ?_)
  · obtain ⟨sc, ns, rfl, _⟩ := h
    rfl
  · obtain ⟨sc, ns, rfl, hsc, hns, k⟩ := h
    refine ⟨_, (PSs.nox (pss_cons (ps_set (i := 1) sc_law.nd rfl (Or.inl rfl) (pe_lst (pa_cons (pv 0) (pa_cons pe_int (pa_cons pe_int (pa_cons pe_int pa_nil))))))
  (pss_cons (ps_set (i := 2) sc_law.nd rfl (Or.inl rfl) (pe_call (ok_law_parts T) (hr.mono (by decide)) (by rfl) T.m_law_parts T.k_law_parts T.b_law_parts .nil passL (pa_cons (pv 1) (pa_cons (pe_ix ix_list (pe_lst (pa_cons pe_int (pa_cons pe_int pa_nil))) (pe_call (ok_law_taken T) (hr.mono (by decide)) (by rfl) T.m_law_taken T.k_law_taken T.b_law_taken .nil passL (pa_cons (pv 1) (pa_cons pe_int pa_nil))) (fun _ _ => rfl)) (pa_cons (pe_ix ix_list (pe_lst (pa_cons pe_int (pa_cons (pe_op op_pow pe_int pe_int) pa_nil))) (pe_call (ok_law_taken T) (hr.mono (by decide)) (by rfl) T.m_law_taken T.k_law_taken T.b_law_taken .nil passL (pa_cons (pv 1) (pa_cons pe_int pa_nil))) (fun _ _ => rfl)) pa_nil)))))
  (pss_cons (ps_asg (pe_tup (pa_cons (pe_call (ok_law_machine T) (hr.mono (by decide)) (by rfl) T.m_law_machine T.k_law_machine T.b_law_machine .nil passL (pa_cons (pv 2) pa_nil)) (pa_cons (pe_call (ok_law_most T) (hr.mono (by decide)) (by rfl) T.m_law_most T.k_law_most T.b_law_most .nil passL (pa_cons (pv 2) (pa_cons pe_int pa_nil))) (pa_cons (pe_call (ok_law_most T) (hr.mono (by decide)) (by rfl) T.m_law_most T.k_law_most T.b_law_most .nil passL (pa_cons (pv 2) (pa_cons (pe_un un_neg pe_int) pa_nil))) pa_nil)))) (pg_tup rfl (pgs_cons (pg_name (i := 3) sc_law.nd rfl (Or.inl rfl)) (pgs_cons (pg_name (i := 4) sc_law.nd rfl (Or.inr rfl)) (pgs_cons (pg_name (i := 5) sc_law.nd rfl (Or.inl rfl)) pgs_nil)))))
  (pss_cons (ps_for PassesOwn.never rfl (pi_range1 (by rfl) T.z_range (pa_cons (pe_dget (hu_of hr) (pv 2) pe_str (fun _ _ => rfl)) pa_nil)) (pg_name (i := 6) sc_law.nd rfl (Or.inl rfl))
  (pss_cons (ps_set (i := 7) sc_law.nd rfl (Or.inl rfl) (pe_dget2 (hu_of hr) (pv 4) (pv 6) pe_non ⟨by rfl, by rfl, by rfl, by rfl⟩))
  (pss_cons (ps_if (pt_cmpR op_ne (pe_call (ok_greatest_at T) (hr.mono (by decide)) (by rfl) T.m_greatest_at T.k_greatest_at T.b_greatest_at .nil passL (pa_cons (pv 3) (pa_cons (pv 6) pa_nil))) (pv 7) (nomark _))
  (pss_one (ps_ret pe_bl))
  pss_nil)
  (pss_cons (ps_set (i := 7) sc_law.nd rfl (Or.inl rfl) (pe_dget2 (hu_of hr) (pv 5) (pv 6) pe_non ⟨by rfl, by rfl, by rfl, by rfl⟩))
  (pss_one (ps_if (pt_cmpR op_ne (pe_call (ok_least_at T) (hr.mono (by decide)) (by rfl) T.m_least_at T.k_least_at T.b_least_at .nil passL (pa_cons (pv 3) (pa_cons (pv 6) pa_nil))) (pe_ifExp (pt_val (pe_callB call_isi (by rfl) T.z_isinstance (by decide +kernel) (pa_cons (pv 7) (pa_cons (pe_bltn (v := .ty "int") (by rfl) T.z_int (by decide +kernel) rfl) pa_nil)))) (pe_un un_neg (pv 7)) (pv 7)) (nomark _))
  (pss_one (ps_ret pe_bl))
  pss_nil))))))
  (pss_cons (ps_set (i := 8) sc_law.nd rfl (Or.inl rfl) (pe_callTy (call_listD rfl) (by rfl) T.z_list PySem.Pv.boot_list (pa_cons (pv 4) pa_nil)))
  (pss_cons (ps_if (pt_cmpR (op_neD hr.units) (pe_call (ok_bounds T) (hr.mono (by decide)) (by rfl) T.m_bounds T.k_bounds T.b_bounds .nil passL (pa_cons (pv 3) pa_nil)) (pe_tup (pa_cons (pe_call (ok_law_edge T) (hr.mono (by decide)) (by rfl) T.m_law_edge T.k_law_edge T.b_law_edge .nil passL (pa_cons (pv 5) (pa_cons (pv 8) (pa_cons (pe_un un_neg pe_int) pa_nil)))) (pa_cons (pe_call (ok_law_edge T) (hr.mono (by decide)) (by rfl) T.m_law_edge T.k_law_edge T.b_law_edge .nil passL (pa_cons (pv 4) (pa_cons (pv 8) (pa_cons pe_int pa_nil)))) pa_nil))) (nomark _))
  (pss_one (ps_ret pe_bl))
  pss_nil)
  (pss_cons (ps_setLc (i := 9) (own := [("_law_stand", 6)]) (g := (gName 6)) rfl sc_law.nd rfl rfl (sw_true rfl rfl rfl (by decide +kernel)) (pi_tup (pe_dget (hu_of hr) (pv 2) pe_str (fun _ _ => rfl))) (blkOk_by (own := [("_law_stand", 6)]) (N := ["_law_script", "_law_row", "_law_d", "_law_machine_here", "_law_high", "_law_less", "_law_stand", "_law_due", "_law_stands", "_law_good"]) (sc := defScope s_law) (by decide +kernel)) (fun _ _ _ _ _ => (pg_name (i := 6) sc_law.nd rfl (Or.inl rfl))) (fun _ _ _ _ _ => (pts_one (pt_cmp (pc_din (hu_of hr) (pv 6) (pv 4)) (by rfl)))) (fun _ _ _ _ _ => (pv 6)))
  (pss_cons (ps_set (i := 7) sc_law.nd rfl (Or.inl rfl) (pe_ifExp (pt_cmpR (op_neD hr.units) (pv 9) (pe_lst pa_nil) (nomark _)) (pe_tup (pa_cons (pe_call (ok_law_edge T) (hr.mono (by decide)) (by rfl) T.m_law_edge T.k_law_edge T.b_law_edge .nil passL (pa_cons (pv 5) (pa_cons (pv 9) (pa_cons (pe_un un_neg pe_int) pa_nil)))) (pa_cons (pe_call (ok_law_edge T) (hr.mono (by decide)) (by rfl) T.m_law_edge T.k_law_edge T.b_law_edge .nil passL (pa_cons (pv 4) (pa_cons (pv 9) (pa_cons pe_int pa_nil)))) pa_nil))) pe_non))
  (pss_cons (ps_if (pt_cmpR (op_neD hr.units) (pe_call (ok_end_bounds T) (hr.mono (by decide)) (by rfl) T.m_end_bounds T.k_end_bounds T.b_end_bounds .nil passL (pa_cons (pv 3) pa_nil)) (pv 7) (nomark _))
  (pss_one (ps_ret pe_bl))
  pss_nil)
  (pss_one (ps_ret (pe_call (ok_law_refused T) (hr.mono (by decide)) (by rfl) T.m_law_refused T.k_law_refused T.b_law_refused .nil passL (pa_cons (pe_call (ok_law_taken T) (hr.mono (by decide)) (by rfl) T.m_law_taken T.k_law_taken T.b_law_taken .nil passL (pa_cons (pv 1) (pa_cons pe_int pa_nil))) (pa_cons (pv 3) (pa_cons (pe_ix ix_list (pe_lst (pa_cons pe_non (pa_cons (pe_un un_neg pe_int) (pa_cons (pe_dget (hu_of hr) (pv 2) pe_str (fun _ _ => rfl)) (pa_cons pe_bl (pa_cons pe_str pa_nil)))))) (pe_call (ok_law_taken T) (hr.mono (by decide)) (by rfl) T.m_law_taken T.k_law_taken T.b_law_taken .nil passL (pa_cons (pv 1) (pa_cons pe_int pa_nil))) (fun _ _ => rfl)) pa_nil)))))))))))))))), ?_⟩
    walk_at "begin"
    walk_at "go"
    refine ⟨(by decide : 4 ≤ sizeLine), fun a ha => ?_⟩
    have R1 : RowOk K (upd H a (.lst [.ref sc, .int 0, .int 204, .int 0])) a := ⟨sc, ns, 0, 204, 0, upd_same, hsc.same (Same.new ha), hns, by decide, by decide, by decide⟩
    walk_at "go"
    refine ⟨(by decide : 2 ≤ sizeLine), fun c4 hc4 => ?_⟩
    walk_at "go"
    have nac : a ≠ c4 := R1.ne hc4
    refine ⟨a, 2, rfl, by decide, by decide, R1.same (Same.new hc4), fun x H2 x0 x1 R2 K2 => ?_⟩
    have ec : H2 c4 = some (.lst [.int 4, .int 8]) := K2 _ _ nac.symm upd_same
    obtain ⟨st, hst, s0, s1⟩ : ∃ st : Nat, atI [V.int 4, V.int 8] x = some (.int (st : Nat)) ∧ 1 ≤ st ∧ st ≤ 8 := by
      have : x = 0 ∨ x = 1 := by omega
      rcases this with rfl | rfl
      · exact ⟨4, rfl, by decide, by decide⟩
      · exact ⟨8, rfl, by decide, by decide⟩
    refine k_ixL (SqL.of ec) hst ?_
    walk_at "go"
    refine k_I ⟨by decide, by decide, by decide⟩ ?_
    walk_at "go"
    refine ⟨(by decide : 2 ≤ sizeLine), fun c hc => ?_⟩
    walk_at "go"
    have nac2 : a ≠ c := R2.ne hc
    refine ⟨a, 2, rfl, by decide, by decide, R2.same (Same.new hc), fun y H3 y0 y1 R3 K3 => ?_⟩
    have ec2 : H3 c = some (.lst [.int 3, .int (10 ^ Int.toNat 29)]) := K3 _ _ nac2.symm upd_same
    obtain ⟨sz, hsz, z0, z1⟩ : ∃ sz : Int, atI [V.int 3, V.int (10 ^ Int.toNat 29)] y = some (.int sz) ∧ 0 ≤ sz ∧ 2 * sz + 1 ≤ 10 ^ 30 := by
      have : y = 0 ∨ y = 1 := by omega
      rcases this with rfl | rfl
      · exact ⟨3, rfl, by decide, by decide⟩
      · exact ⟨10 ^ Int.toNat 29, rfl, by decide, by decide⟩
    refine k_ixL (SqL.of ec2) hsz ?_
    walk_at "go"
    refine ⟨a, st, sz, rfl, s0, s1, z0, z1, R3, fun d m H4 o _ _ hd R4 K4 _ => ?_⟩
    walk_at "go"
    refine ⟨d, m, rfl, hd, o, fun mc H5 z5 hmc hm => ?_⟩
    walk_at "go"
    refine ⟨d, 1, m, rfl, hd.same z5, o, .inl rfl, fun hi kvh H6 z6 hhi eh okh tkh => ?_⟩
    walk_at "go"
    refine ⟨d, -1, m, rfl, (hd.same z5).same z6, o, .inr rfl, fun le kvl H7 z7 hle el okl tkl => ?_⟩
    walk_at "go"
    refine ⟨(by decide : 3 ≤ sizeLine), fun tp htp => ?_⟩
    have z8 := Same.new (o := .tup [.ref mc, .ref hi, .ref le]) htp
    have z58 := ((z5.trans z6).trans z7).trans z8
    have R8 := R4.same z58
    have hd8 := hd.same z58
    have hm8 := ((hm.same z6).same z7).same z8
    have eh8 := z8 _ _ (z7 _ _ eh)
    have el8 := z8 _ _ el
    refine k_gt (SqT.of upd_same) rfl ?_
    generalize upd H7 tp (.tup [.ref mc, .ref hi, .ref le]) = H8 at R8 hd8 hm8 eh8 el8 ⊢
    clear R1 R2 R3 R4 K2 K3 K4 ec ec2 hst hsz hd hm hc hc4 ha htp z5 z6 z7 z8 z58 eh el hhi hle hmc nac nac2
    walk_at "go"
    obtain ⟨t4, u4, ed4, _⟩ := id hd8
    refine ⟨d, .int (m.n : Nat), rfl, DGet.k (k := .inr "stands") ed4, ?_⟩
    walk_at "go"
    have n8 := o.n8
    refine k_rg (by omega) (by omega) ?_
    refine for_range (lo := 0) (n := (((m.n : Nat) : Int)).toNat) (fun i σ H' => ∃ (a6 a7 : Option V), Same H8 H' ∧ σ = [some (.ref sc), some (.ref a), some (.ref d), some (.ref mc), some (.ref hi), some (.ref le), a6, a7, none, none])
      ⟨_, _, Same.refl _, rfl⟩ ?_ ?_
    · rintro i σ H9 hi9 ⟨a6, a7, z9, rfl⟩
      have im : i < m.n := hi9
      have i0 : (0 + (i : Nat) : Int) = ((i : Nat) : Int) := by omega
      rw [i0]
      walk_at "go"
      refine k_dg2 ?_
      walk_at "go"
      refine ⟨hi, rfl, .inl ⟨kvh, .inl (z9 _ _ eh8)⟩, ?_⟩
      walk_at "go"
      refine ⟨_, DGet.k (k := .inl (i : Int)) (z9 _ _ eh8), ?_⟩
      rw [due_get okh i]
      walk_at "go"
      refine ⟨mc, i, m, rfl, hm8.same z9, o, im, fun H10 z10 => ?_⟩
      rw [tally_due o i]
      have z910 := z9.trans z10
      walk_at "go"
      refine k_ne (due_scal (due_s 1 m i)) ?_
      walk_at "go"
      refine k_no (by simp) ?_
      walk_at "go"
      refine k_dg2 ?_
      walk_at "go"
      refine ⟨le, rfl, .inl ⟨kvl, .inl (z910 _ _ el8)⟩, ?_⟩
      walk_at "go"
      refine ⟨_, DGet.k (k := .inl (i : Int)) (z910 _ _ el8), ?_⟩
      rw [due_get okl i]
      walk_at "go"
      refine ⟨mc, i, m, rfl, hm8.same z910, o, im, fun H11 z11 => ?_⟩
      rw [tally_due' o i]
      have z911 := z910.trans z11
      have ds := due_s (-1) m i
      have dt := due_ty (K := K) (H := H11) ds
      generalize dueV (-1) m i = v at ds dt ⊢
      walk_at "go"
      rcases dt with ⟨u, rfl⟩ | ⟨nv, ty, h1, h2⟩
      · refine k_isi (.ty _) (.base (.int u)) (kit_ty (b := "int") (r := true) (by decide +kernel)) ?_
        walk_at "go"
        refine iteT ?_
        walk_at "go"
        refine k_no (by show (!decide (V.int (-u) = V.int (-u))) = false; simp) ?_
        walk_at "go"
        exact ⟨_, _, z911, rfl⟩
      · refine k_isi (.ty _) h1 h2 ?_
        walk_at "go"
        refine iteF ?_
        walk_at "go"
        rw [nv]
        refine k_ne (due_scal ds) ?_
        walk_at "go"
        refine k_no (by simp) ?_
        walk_at "go"
        exact ⟨_, _, z911, rfl⟩
    · rintro σ H9 ⟨a6, a7, z9, rfl⟩
      obtain ⟨lh, elh, ndlh, mlh⟩ := tkh
      have elk : kvh.map (fun kv => kV kv.1) = nats lh := by
        have := congrArg (List.map kV) elh
        rw [List.map_map, List.map_map] at this
        exact this
      have lh8 : lh.length ≤ 8 := Nat.le_trans (nodup_small ndlh fun n hn => reach_lt o ((mlh n).mp hn)) n8
      have lhne : lh ≠ [] := fun e => by
        have := (mlh 0).mpr (.base (List.mem_singleton.mpr rfl))
        rw [e] at this
        cases this
      walk_at "go"
      refine ⟨hi, kvh, rfl, .inl (z9 _ _ eh8), fun S hS => ?_⟩
      rw [elk]
      have zS := z9.trans (Same.new (o := .lst (nats lh)) hS)
      have eS := upd_same (H := H9) (a := S) (o := .lst (nats lh))
      generalize upd H9 S (.lst (nats lh)) = H10 at zS eS ⊢
      walk_at "go"
      refine ⟨mc, m, rfl, hm8.same zS, o, fun l r1 r2 q H11 meml z11 hq eq e1 e2 => ?_⟩
      have zl : ∀ n, n ∈ lh ↔ n ∈ l := fun n => (mlh n).trans (meml n).symm
      walk_at "go"
      refine ⟨le, S, -1, m, kvl, lh, rfl, o, .inr rfl, z11 _ _ (zS _ _ el8), okl, z11 _ _ eS, lhne, lh8, fun k hk => (mlh k).mp hk, fun r1' H12 z12 e1' => ?_⟩
      walk_at "go"
      refine ⟨hi, S, 1, m, kvh, lh, rfl, o, .inl rfl, z12 _ _ (z11 _ _ (zS _ _ eh8)), okh, z12 _ _ (z11 _ _ eS), lhne, lh8, fun k hk => (mlh k).mp hk, fun r2' H13 z13 e2' => ?_⟩
      have q1 := (e1'.congr zl).uniq e1
      have q2 := (e2'.congr zl).uniq e2
      subst q1 q2
      walk_at "go"
      refine ⟨(by decide : 2 ≤ sizeLine), fun tp htp => ?_⟩
      have z14 := Same.new (o := .tup [r1', r2']) htp
      have z1114 := ((z11.trans z12).trans z13).trans z14
      have z814 := zS.trans z1114
      refine k_neD (ed_pair (SqT.of (z14 _ _ (z13 _ _ (z12 _ _ eq)))) e1 e2) (ed_pair (SqT.of upd_same) e1 e2) (ed_sh _ _) (ed_sh _ _) ?_
      rw [ed_eqv2]
      generalize upd H13 tp (.tup [r1', r2']) = H14 at z814 ⊢
      clear z14 z1114 htp eq hq e1 e2 e1' e2' z11 z12 z13 zS eS
      walk_at "go"
      refine k_no (by rfl) ?_
      walk_at "go"
      have eh14 := z814 _ _ eh8
      have el14 := z814 _ _ el8
      obtain ⟨t14, u14, ed14, _, hu14⟩ := id (hd8.same z814)
      refine ⟨d, .ref u14, rfl, DGet.k (k := .inr "ends") ed14, u14, rfl, ⟨_, hu14⟩, fun G hG => ?_⟩
      refine lc_tup (xs := nats m.es) (fun i H' => Same H14 H' ∧ ∃ gl : List Nat, H' G = some (.lst (nats gl)) ∧ gl.length ≤ i ∧ ∀ n, n ∈ gl ↔ n ∈ m.es.take i ∧ Reach m.ss [0] n) ⟨Same.new hG, [], upd_same, Nat.le_refl _, fun n => by simp⟩ (fun _ H' _ ⟨z, _⟩ => (same_tups z).sq hu14) ?_ ?_
      · rintro i y H15 hy ⟨z15, gl, eG, lg, mg⟩
        obtain ⟨n, en, rfl⟩ := nats_at hy
        have il : i < m.es.length := (List.getElem?_eq_some_iff.mp en).1
        have el9 := o.el
        have dg : DGet H15 hi (.int (n : Nat)) (valV kvh (.inl (n : Int))) := DGet.k (k := .inl (n : Int)) (z15 _ _ eh14)
        have tk : ∀ k, k ∈ m.es.take (i + 1) ↔ k ∈ m.es.take i ∨ k = n := fun k => by rw [List.take_add_one, en, List.mem_append]; simp
        walk_at "go"
        refine ⟨rfl, ?_⟩
        walk_at "go"
        refine ⟨hi, _, rfl, dg, ?_⟩
        walk_at "go"
        by_cases c : Reach m.ss [0] n
        · rw [(okh n).1 c]
          refine iteT ?_
          walk_at "go"
          refine ⟨_, eG, ?_, Same.mut z15 hG, gl ++ [n], by rw [upd_same, nats_snoc], by rw [List.length_append]; show gl.length + 1 ≤ i + 1; omega, fun k => ?_⟩
          · have : (nats gl).length < 100 := by unfold nats; rw [List.length_map]; omega
            exact Nat.lt_trans this (by decide)
          · rw [List.mem_append, List.mem_singleton, mg k, tk k]
            constructor
            · rintro (⟨h1, h2⟩ | rfl)
              · exact ⟨.inl h1, h2⟩
              · exact ⟨.inr rfl, c⟩
            · rintro ⟨h1 | h1, h2⟩
              · exact .inl ⟨h1, h2⟩
              · exact .inr h1
        · rw [(okh n).2 c]
          refine iteF ?_
          refine ⟨z15, gl, eG, by omega, fun k => ?_⟩
          rw [mg k, tk k]
          constructor
          · exact fun h => ⟨.inl h.1, h.2⟩
          · rintro ⟨h1 | h1, h2⟩
            · exact ⟨h1, h2⟩
            · exact absurd (h1 ▸ h2) c
      · rintro H15 ⟨z15, gl, eG, lg, mg⟩
        have tl : m.es.take (nats m.es).length = m.es := by unfold nats; rw [List.length_map, List.take_length]
        rw [tl] at mg
        have ln : (nats m.es).length ≤ 8 := by unfold nats; rw [List.length_map]; exact o.el
        have gl8 : gl.length ≤ 8 := by omega
        have hm15 := (hm8.same z814).same z15
        have hd15 := (hd8.same z814).same z15
        have R15 := (R8.same z814).same z15
        have eh15 := z15 _ _ eh14
        have el15 := z15 _ _ el14
        have mg' : ∀ n, n ∈ gl ↔ Reach m.ss [0] n ∧ n ∈ m.es := fun n => (mg n).trans And.comm
        clear z15 eh14 el14 z814 hm8 hd8 R8 eh8 el8 z9
        -- the last question, at an odd stand
        have fin : ∀ (H' : Hp) (b7 b9 : Option V), Same H15 H' → tRet (tCall (sp_refused K T.c_Machine) [] E0 (tCons (tCall (sp_taken K) [] E0 (tCons (tVar 1) (tCons (tC (V.int 2)) tNil))) (tCons (tVar 3) (tCons (tOp (rIxL K) (tLst (tCons (tC V.non) (tCons (tUn (rU fun i => V.int (-i)) (tC (V.int 1))) (tCons (tDGet (tVar 2) (tC (V.str "stands"))) (tCons (tC (V.bl true)) (tCons (tC (V.str "0")) tNil)))))) (tCall (sp_taken K) [] E0 (tCons (tVar 1) (tCons (tC (V.int 5)) tNil)))) tNil))))
            { nx := fun x H' => Q V.non H', rt := Q } [some (.ref sc), some (.ref a), some (.ref d), some (.ref mc), some (.ref hi), some (.ref le), a6, b7, some (.ref S), b9] H' := fun H9 b7 b9 z9 => by
          have R9 := R15.same z9
          have hm9 := hm15.same z9
          obtain ⟨t9, u9, ed9, _⟩ := hd15.same z9
          obtain ⟨l9, e9⟩ := R9.lst
          have nda : d ≠ a := fun z => by rw [z, e9] at ed9; cases ed9
          walk_at "go"
          refine ⟨a, 2, rfl, by decide, by decide, R9, fun x H10 x0 x1 R10 k10 => ?_⟩
          walk_at "go"
          have ed10 := k10 _ _ nda ed9
          refine ⟨d, .int (m.n : Nat), rfl, DGet.k (k := .inr "stands") ed10, ?_⟩
          walk_at "go"
          refine ⟨(by decide : 5 ≤ sizeLine), fun l hl => ?_⟩
          walk_at "go"
          have nla : l ≠ a := (R10.ne hl).symm
          obtain ⟨l10, e10⟩ := R10.lst
          have hm10 := (hm9.keep k10 e9).same (Same.new (o := .lst [.non, .int (-1), .int (m.n : Nat), .bl true, .str (Str.ofString "0")]) hl)
          have R11 := R10.same (Same.new (o := .lst [.non, .int (-1), .int (m.n : Nat), .bl true, .str (Str.ofString "0")]) hl)
          have e11 := (Same.new (o := .lst [.non, .int (-1), .int (m.n : Nat), .bl true, .str (Str.ofString "0")]) hl) _ _ e10
          refine ⟨a, 5, rfl, by decide, by decide, R11, fun y H11 y0 y1 R12 k11 => ?_⟩
          obtain ⟨v, ev, bad⟩ : ∃ v, atI [V.non, .int (-1), .int (m.n : Nat), .bl true, .str (Str.ofString "0")] y = some v ∧ ∀ H', BadV K H' m.n v := by
            have : y = 0 ∨ y = 1 ∨ y = 2 ∨ y = 3 ∨ y = 4 := by omega
            rcases this with rfl | rfl | rfl | rfl | rfl
            · exact ⟨_, rfl, fun _ => bad_non⟩
            · exact ⟨_, rfl, fun _ => bad_int (by omega)⟩
            · exact ⟨_, rfl, fun _ => bad_int (by omega)⟩
            · exact ⟨_, rfl, fun _ => bad_bl⟩
            · exact ⟨_, rfl, fun _ => bad_str⟩
          refine k_ixL (SqL.of (k11 _ _ nla upd_same)) ev ?_
          walk_at "go"
          exact ⟨x, mc, v, m, rfl, by omega, hm10.keep k11 e11, bad, fun H' _ => k _⟩
        walk_at "go"
        refine ⟨(by show 0 ≤ sizeLine; decide), fun N hN => ?_⟩
        have zN := Same.new (o := .lst []) hN
        refine k_neD (.lst (SqL.of (zN _ _ eG)) (dp_nats gl)) (.lst (SqL.of upd_same) .nil) (nats_sh gl) rfl ?_
        generalize upd H15 N (.lst []) = H16 at zN ⊢
        cases egl : gl with
        | nil =>
          walk_at "go"
          refine k_no (by rfl) ?_
          walk_at "go"
          refine ⟨mc, m, rfl, hm15.same zN, o, fun l ml => ?_⟩
          have el : l = [] := List.eq_nil_iff_forall_not_mem.mpr fun n hn => by
            have := (mg' n).mpr ((ml n).mp hn)
            rw [egl] at this
            cases this
          refine ⟨fun _ H17 z17 => ?_, fun h => absurd el h⟩
          walk_at "go"
          refine k_neD .non .non rfl rfl ?_
          walk_at "go"
          refine k_no (by rfl) ?_
          exact fin _ _ _ (zN.trans z17)
        | cons g0 gr =>
          rw [← egl]
          walk_at "go"
          refine k_yes (by rw [egl]; rfl) ?_
          walk_at "go"
          have glne : gl ≠ [] := by rw [egl]; simp
          refine ⟨le, G, -1, m, kvl, gl, rfl, o, .inr rfl, zN _ _ el15, okl, zN _ _ eG, glne, gl8, fun k hk => ((mg' k).mp hk).1, fun r1 H17 z17 e1 => ?_⟩
          walk_at "go"
          refine ⟨hi, G, 1, m, kvh, gl, rfl, o, .inl rfl, z17 _ _ (zN _ _ eh15), okh, z17 _ _ (zN _ _ eG), glne, gl8, fun k hk => ((mg' k).mp hk).1, fun r2 H18 z18 e2 => ?_⟩
          walk_at "go"
          refine ⟨(by decide : 2 ≤ sizeLine), fun tp htp => ?_⟩
          have z19 := Same.new (o := .tup [r1, r2]) htp
          have z1519 := ((zN.trans z17).trans z18).trans z19
          have et := upd_same (H := H18) (a := tp) (o := .tup [r1, r2])
          generalize upd H18 tp (.tup [r1, r2]) = H19 at z1519 et ⊢
          walk_at "go"
          refine ⟨mc, m, rfl, hm15.same z1519, o, fun l ml => ?_⟩
          have zl : ∀ n, n ∈ gl ↔ n ∈ l := fun n => (mg' n).trans (ml n).symm
          have lne : l ≠ [] := fun e => by
            have := (zl g0).mp (by rw [egl]; exact List.mem_cons_self)
            rw [e] at this
            cases this
          refine ⟨fun h => absurd h lne, fun _ s1 s2 q H20 z20 hq eq f1 f2 => ?_⟩
          have q1 := (e1.congr zl).uniq f1
          have q2 := (e2.congr zl).uniq f2
          subst q1 q2
          walk_at "go"
          refine k_neD (ed_pair (SqT.of eq) f1 f2) (ed_pair (SqT.of (z20 _ _ et)) f1 f2) (ed_sh _ _) (ed_sh _ _) ?_
          rw [ed_eqv2]
          walk_at "go"
          refine k_no (by rfl) ?_
          exact fin _ _ _ (z1519.trans z20)
end
/-! ### what the written part says -/
theorem exc_self {K : PySem.W.Frag} {S : Addr} (hb : PySem.W.subIn K (.ref S) (.type "BaseException") = some true) (hc : PySem.W.isClsIn K S = true) (ht : PySem.W.typeIn K (.ref S) = some (.type "type")) (hs : PySem.W.subIn K (.ref S) (.ref S) = some true) : PySem.W.exmOne K (.ref S) (.ref S) = some true := by
  have hc' : (PySem.W.clsIn K S).isSome = true := hc
  unfold PySem.W.exmOne PySem.W.kitCls
  simp only [hb, ht, hc', hs, beq_self_eq_true, Bool.and_self, if_true]
def txt_mk {K : PySem.W.Frag} {h : Heap} {mg : Str → Option Value} (X : K.In h) (G : h.Ns mainGlobals mg)
    {a_led_to : Addr} {od_led_to an_led_to : Option Addr} {sl_led_to : Array (Option Value)} {oc_led_to kV_led_to dc_led_to pm_led_to cd_led_to ct_led_to : Value}
    {a_longer_rows : Addr} {od_longer_rows an_longer_rows : Option Addr} {sl_longer_rows : Array (Option Value)} {oc_longer_rows kV_longer_rows dc_longer_rows pm_longer_rows cd_longer_rows ct_longer_rows : Value}
    {a_improved : Addr} {od_improved an_improved : Option Addr} {sl_improved : Array (Option Value)} {oc_improved kV_improved dc_improved pm_improved cd_improved ct_improved : Value}
    {a_best_rows : Addr} {od_best_rows an_best_rows : Option Addr} {sl_best_rows : Array (Option Value)} {oc_best_rows kV_best_rows dc_best_rows pm_best_rows cd_best_rows ct_best_rows : Value}
    {a_best_of : Addr} {od_best_of an_best_of : Option Addr} {sl_best_of : Array (Option Value)} {oc_best_of kV_best_of dc_best_of pm_best_of cd_best_of ct_best_of : Value}
    {a_least_and_greatest : Addr} {od_least_and_greatest an_least_and_greatest : Option Addr} {sl_least_and_greatest : Array (Option Value)} {oc_least_and_greatest kV_least_and_greatest dc_least_and_greatest pm_least_and_greatest cd_least_and_greatest ct_least_and_greatest : Value}
    {a_Machine_init : Addr} {od_Machine_init an_Machine_init : Option Addr} {sl_Machine_init : Array (Option Value)} {oc_Machine_init kV_Machine_init dc_Machine_init pm_Machine_init cd_Machine_init ct_Machine_init : Value}
    {a_Machine_stands : Addr} {od_Machine_stands an_Machine_stands : Option Addr} {sl_Machine_stands : Array (Option Value)} {oc_Machine_stands kV_Machine_stands dc_Machine_stands pm_Machine_stands cd_Machine_stands ct_Machine_stands : Value}
    {a_Machine_steps : Addr} {od_Machine_steps an_Machine_steps : Option Addr} {sl_Machine_steps : Array (Option Value)} {oc_Machine_steps kV_Machine_steps dc_Machine_steps pm_Machine_steps cd_Machine_steps ct_Machine_steps : Value}
    {a_Machine_ends : Addr} {od_Machine_ends an_Machine_ends : Option Addr} {sl_Machine_ends : Array (Option Value)} {oc_Machine_ends kV_Machine_ends dc_Machine_ends pm_Machine_ends cd_Machine_ends ct_Machine_ends : Value}
    {a_is_whole_number : Addr} {od_is_whole_number an_is_whole_number : Option Addr} {sl_is_whole_number : Array (Option Value)} {oc_is_whole_number kV_is_whole_number dc_is_whole_number pm_is_whole_number cd_is_whole_number ct_is_whole_number : Value}
    {a_is_integer_between : Addr} {od_is_integer_between an_is_integer_between : Option Addr} {sl_is_integer_between : Array (Option Value)} {oc_is_integer_between kV_is_integer_between dc_is_integer_between pm_is_integer_between cd_is_integer_between ct_is_integer_between : Value}
    {a_is_stand : Addr} {od_is_stand an_is_stand : Option Addr} {sl_is_stand : Array (Option Value)} {oc_is_stand kV_is_stand dc_is_stand pm_is_stand cd_is_stand ct_is_stand : Value}
    {a_check_stands : Addr} {od_check_stands an_check_stands : Option Addr} {sl_check_stands : Array (Option Value)} {oc_check_stands kV_check_stands dc_check_stands pm_check_stands cd_check_stands ct_check_stands : Value}
    {a_is_step : Addr} {od_is_step an_is_step : Option Addr} {sl_is_step : Array (Option Value)} {oc_is_step kV_is_step dc_is_step pm_is_step cd_is_step ct_is_step : Value}
    {a_check_steps : Addr} {od_check_steps an_check_steps : Option Addr} {sl_check_steps : Array (Option Value)} {oc_check_steps kV_check_steps dc_check_steps pm_check_steps cd_check_steps ct_check_steps : Value}
    {a_is_ascending : Addr} {od_is_ascending an_is_ascending : Option Addr} {sl_is_ascending : Array (Option Value)} {oc_is_ascending kV_is_ascending dc_is_ascending pm_is_ascending cd_is_ascending ct_is_ascending : Value}
    {a_check_ends : Addr} {od_check_ends an_check_ends : Option Addr} {sl_check_ends : Array (Option Value)} {oc_check_ends kV_check_ends dc_check_ends pm_check_ends cd_check_ends ct_check_ends : Value}
    {a_check_machine : Addr} {od_check_machine an_check_machine : Option Addr} {sl_check_machine : Array (Option Value)} {oc_check_machine kV_check_machine dc_check_machine pm_check_machine cd_check_machine ct_check_machine : Value}
    {a_check_stand : Addr} {od_check_stand an_check_stand : Option Addr} {sl_check_stand : Array (Option Value)} {oc_check_stand kV_check_stand dc_check_stand pm_check_stand cd_check_stand ct_check_stand : Value}
    {a_reached : Addr} {od_reached an_reached : Option Addr} {sl_reached : Array (Option Value)} {oc_reached kV_reached dc_reached pm_reached cd_reached ct_reached : Value}
    {a_tally_at : Addr} {od_tally_at an_tally_at : Option Addr} {sl_tally_at : Array (Option Value)} {oc_tally_at kV_tally_at dc_tally_at pm_tally_at cd_tally_at ct_tally_at : Value}
    {a_greatest_at : Addr} {od_greatest_at an_greatest_at : Option Addr} {sl_greatest_at : Array (Option Value)} {oc_greatest_at kV_greatest_at dc_greatest_at pm_greatest_at cd_greatest_at ct_greatest_at : Value}
    {a_least_at : Addr} {od_least_at an_least_at : Option Addr} {sl_least_at : Array (Option Value)} {oc_least_at kV_least_at dc_least_at pm_least_at cd_least_at ct_least_at : Value}
    {a_bounds : Addr} {od_bounds an_bounds : Option Addr} {sl_bounds : Array (Option Value)} {oc_bounds kV_bounds dc_bounds pm_bounds cd_bounds ct_bounds : Value}
    {a_end_bounds : Addr} {od_end_bounds an_end_bounds : Option Addr} {sl_end_bounds : Array (Option Value)} {oc_end_bounds kV_end_bounds dc_end_bounds pm_end_bounds cd_end_bounds ct_end_bounds : Value}
    {a_law_taken : Addr} {od_law_taken an_law_taken : Option Addr} {sl_law_taken : Array (Option Value)} {oc_law_taken kV_law_taken dc_law_taken pm_law_taken cd_law_taken ct_law_taken : Value}
    {a_law_parts : Addr} {od_law_parts an_law_parts : Option Addr} {sl_law_parts : Array (Option Value)} {oc_law_parts kV_law_parts dc_law_parts pm_law_parts cd_law_parts ct_law_parts : Value}
    {a_law_machine : Addr} {od_law_machine an_law_machine : Option Addr} {sl_law_machine : Array (Option Value)} {oc_law_machine kV_law_machine dc_law_machine pm_law_machine cd_law_machine ct_law_machine : Value}
    {a_law_next : Addr} {od_law_next an_law_next : Option Addr} {sl_law_next : Array (Option Value)} {oc_law_next kV_law_next dc_law_next pm_law_next cd_law_next ct_law_next : Value}
    {a_law_reached : Addr} {od_law_reached an_law_reached : Option Addr} {sl_law_reached : Array (Option Value)} {oc_law_reached kV_law_reached dc_law_reached pm_law_reached cd_law_reached ct_law_reached : Value}
    {a_law_bests : Addr} {od_law_bests an_law_bests : Option Addr} {sl_law_bests : Array (Option Value)} {oc_law_bests kV_law_bests dc_law_bests pm_law_bests cd_law_bests ct_law_bests : Value}
    {a_law_most : Addr} {od_law_most an_law_most : Option Addr} {sl_law_most : Array (Option Value)} {oc_law_most kV_law_most dc_law_most pm_law_most cd_law_most ct_law_most : Value}
    {a_law_refused : Addr} {od_law_refused an_law_refused : Option Addr} {sl_law_refused : Array (Option Value)} {oc_law_refused kV_law_refused dc_law_refused pm_law_refused cd_law_refused ct_law_refused : Value}
    {a_law_edge : Addr} {od_law_edge an_law_edge : Option Addr} {sl_law_edge : Array (Option Value)} {oc_law_edge kV_law_edge dc_law_edge pm_law_edge cd_law_edge ct_law_edge : Value}
    {a_law : Addr} {od_law an_law : Option Addr} {sl_law : Array (Option Value)} {oc_law kV_law dc_law pm_law cd_law ct_law : Value}
    {c_Machine : Addr}
    {q_stands : Addr} {rest_stands : List Value}
    {q_steps : Addr} {rest_steps : List Value}
    {q_ends : Addr} {rest_ends : List Value}
    {c_BadStand : Addr}
    {t_MOST_STANDS : Tok}
    {t_MOST_GAIN : Tok}
    {a_LETTERS : Addr} {od_LETTERS : Option Addr} {sl_LETTERS : Array (Option Value)} {n_LETTERS : Nat} {w0_LETTERS w1_LETTERS w2_LETTERS w3_LETTERS : Tok}
    {t_ENDLESS : Tok}
    (g_led_to : PySem.W.nsIn K mainGlobals "led_to" = some (some (.ref a_led_to)))
    (g_longer_rows : PySem.W.nsIn K mainGlobals "longer_rows" = some (some (.ref a_longer_rows)))
    (g_improved : PySem.W.nsIn K mainGlobals "_improved" = some (some (.ref a_improved)))
    (g_best_rows : PySem.W.nsIn K mainGlobals "best_rows" = some (some (.ref a_best_rows)))
    (g_best_of : PySem.W.nsIn K mainGlobals "_best_of" = some (some (.ref a_best_of)))
    (g_least_and_greatest : PySem.W.nsIn K mainGlobals "least_and_greatest" = some (some (.ref a_least_and_greatest)))
    (g_is_whole_number : PySem.W.nsIn K mainGlobals "is_whole_number" = some (some (.ref a_is_whole_number)))
    (g_is_integer_between : PySem.W.nsIn K mainGlobals "is_integer_between" = some (some (.ref a_is_integer_between)))
    (g_is_stand : PySem.W.nsIn K mainGlobals "_is_stand" = some (some (.ref a_is_stand)))
    (g_check_stands : PySem.W.nsIn K mainGlobals "_check_stands" = some (some (.ref a_check_stands)))
    (g_is_step : PySem.W.nsIn K mainGlobals "_is_step" = some (some (.ref a_is_step)))
    (g_check_steps : PySem.W.nsIn K mainGlobals "_check_steps" = some (some (.ref a_check_steps)))
    (g_is_ascending : PySem.W.nsIn K mainGlobals "is_ascending" = some (some (.ref a_is_ascending)))
    (g_check_ends : PySem.W.nsIn K mainGlobals "_check_ends" = some (some (.ref a_check_ends)))
    (g_check_machine : PySem.W.nsIn K mainGlobals "check_machine" = some (some (.ref a_check_machine)))
    (g_check_stand : PySem.W.nsIn K mainGlobals "check_stand" = some (some (.ref a_check_stand)))
    (g_reached : PySem.W.nsIn K mainGlobals "reached" = some (some (.ref a_reached)))
    (g_tally_at : PySem.W.nsIn K mainGlobals "_tally_at" = some (some (.ref a_tally_at)))
    (g_greatest_at : PySem.W.nsIn K mainGlobals "greatest_at" = some (some (.ref a_greatest_at)))
    (g_least_at : PySem.W.nsIn K mainGlobals "least_at" = some (some (.ref a_least_at)))
    (g_bounds : PySem.W.nsIn K mainGlobals "bounds" = some (some (.ref a_bounds)))
    (g_end_bounds : PySem.W.nsIn K mainGlobals "end_bounds" = some (some (.ref a_end_bounds)))
    (g_law_taken : PySem.W.nsIn K mainGlobals "_law_taken" = some (some (.ref a_law_taken)))
    (g_law_parts : PySem.W.nsIn K mainGlobals "_law_parts" = some (some (.ref a_law_parts)))
    (g_law_machine : PySem.W.nsIn K mainGlobals "_law_machine" = some (some (.ref a_law_machine)))
    (g_law_next : PySem.W.nsIn K mainGlobals "_law_next" = some (some (.ref a_law_next)))
    (g_law_reached : PySem.W.nsIn K mainGlobals "_law_reached" = some (some (.ref a_law_reached)))
    (g_law_bests : PySem.W.nsIn K mainGlobals "_law_bests" = some (some (.ref a_law_bests)))
    (g_law_most : PySem.W.nsIn K mainGlobals "_law_most" = some (some (.ref a_law_most)))
    (g_law_refused : PySem.W.nsIn K mainGlobals "_law_refused" = some (some (.ref a_law_refused)))
    (g_law_edge : PySem.W.nsIn K mainGlobals "_law_edge" = some (some (.ref a_law_edge)))
    (g_law : PySem.W.nsIn K mainGlobals "law" = some (some (.ref a_law)))
    (g_Machine : PySem.W.nsIn K mainGlobals "Machine" = some (some (.ref c_Machine)))
    (g_BadStand : PySem.W.nsIn K mainGlobals "BadStand" = some (some (.ref c_BadStand)))
    (g_MOST_STANDS : PySem.W.nsIn K mainGlobals "MOST_STANDS" = some (some (.int 8 t_MOST_STANDS)))
    (g_MOST_GAIN : PySem.W.nsIn K mainGlobals "MOST_GAIN" = some (some (.int 1000000000000000000000000000000 t_MOST_GAIN)))
    (g_LETTERS : PySem.W.nsIn K mainGlobals "LETTERS" = some (some (.ref a_LETTERS)))
    (g_ENDLESS : PySem.W.nsIn K mainGlobals "ENDLESS" = some (some (.str "endless" t_ENDLESS)))
    (zz_bool : PySem.W.nsIn K mainGlobals "bool" = some none)
    (zz_enumerate : PySem.W.nsIn K mainGlobals "enumerate" = some none)
    (zz_int : PySem.W.nsIn K mainGlobals "int" = some none)
    (zz_isinstance : PySem.W.nsIn K mainGlobals "isinstance" = some none)
    (zz_len : PySem.W.nsIn K mainGlobals "len" = some none)
    (zz_list : PySem.W.nsIn K mainGlobals "list" = some none)
    (zz_max : PySem.W.nsIn K mainGlobals "max" = some none)
    (zz_range : PySem.W.nsIn K mainGlobals "range" = some none)
    (zz_sorted : PySem.W.nsIn K mainGlobals "sorted" = some none)
    (zz_str : PySem.W.nsIn K mainGlobals "str" = some none)
    (zz_tuple : PySem.W.nsIn K mainGlobals "tuple" = some none)
    (l_led_to : K.lookup a_led_to = some ⟨oc_led_to, od_led_to, .func (PySem.W.fnOf "led_to" "led_to" (defArgs s_led_to) (defBody s_led_to) (defScope s_led_to) .none kV_led_to dc_led_to pm_led_to an_led_to cd_led_to ct_led_to), sl_led_to⟩)
    (c_led_to : PySem.W.codeIn K cd_led_to "led_to" = true)
    (kk_led_to : PySem.W.keepIn K (.ref a_led_to) = true)
    (l_longer_rows : K.lookup a_longer_rows = some ⟨oc_longer_rows, od_longer_rows, .func (PySem.W.fnOf "longer_rows" "longer_rows" (defArgs s_longer_rows) (defBody s_longer_rows) (defScope s_longer_rows) .none kV_longer_rows dc_longer_rows pm_longer_rows an_longer_rows cd_longer_rows ct_longer_rows), sl_longer_rows⟩)
    (c_longer_rows : PySem.W.codeIn K cd_longer_rows "longer_rows" = true)
    (kk_longer_rows : PySem.W.keepIn K (.ref a_longer_rows) = true)
    (l_improved : K.lookup a_improved = some ⟨oc_improved, od_improved, .func (PySem.W.fnOf "_improved" "_improved" (defArgs s_improved) (defBody s_improved) (defScope s_improved) .none kV_improved dc_improved pm_improved an_improved cd_improved ct_improved), sl_improved⟩)
    (c_improved : PySem.W.codeIn K cd_improved "_improved" = true)
    (kk_improved : PySem.W.keepIn K (.ref a_improved) = true)
    (l_best_rows : K.lookup a_best_rows = some ⟨oc_best_rows, od_best_rows, .func (PySem.W.fnOf "best_rows" "best_rows" (defArgs s_best_rows) (defBody s_best_rows) (defScope s_best_rows) .none kV_best_rows dc_best_rows pm_best_rows an_best_rows cd_best_rows ct_best_rows), sl_best_rows⟩)
    (c_best_rows : PySem.W.codeIn K cd_best_rows "best_rows" = true)
    (kk_best_rows : PySem.W.keepIn K (.ref a_best_rows) = true)
    (l_best_of : K.lookup a_best_of = some ⟨oc_best_of, od_best_of, .func (PySem.W.fnOf "_best_of" "_best_of" (defArgs s_best_of) (defBody s_best_of) (defScope s_best_of) .none kV_best_of dc_best_of pm_best_of an_best_of cd_best_of ct_best_of), sl_best_of⟩)
    (c_best_of : PySem.W.codeIn K cd_best_of "_best_of" = true)
    (kk_best_of : PySem.W.keepIn K (.ref a_best_of) = true)
    (l_least_and_greatest : K.lookup a_least_and_greatest = some ⟨oc_least_and_greatest, od_least_and_greatest, .func (PySem.W.fnOf "least_and_greatest" "least_and_greatest" (defArgs s_least_and_greatest) (defBody s_least_and_greatest) (defScope s_least_and_greatest) .none kV_least_and_greatest dc_least_and_greatest pm_least_and_greatest an_least_and_greatest cd_least_and_greatest ct_least_and_greatest), sl_least_and_greatest⟩)
    (c_least_and_greatest : PySem.W.codeIn K cd_least_and_greatest "least_and_greatest" = true)
    (kk_least_and_greatest : PySem.W.keepIn K (.ref a_least_and_greatest) = true)
    (l_Machine_init : K.lookup a_Machine_init = some ⟨oc_Machine_init, od_Machine_init, .func (PySem.W.fnOf "__init__" "Machine.__init__" (defArgs s_Machine_init) (defBody s_Machine_init) (defScope s_Machine_init) .none kV_Machine_init dc_Machine_init pm_Machine_init an_Machine_init cd_Machine_init ct_Machine_init), sl_Machine_init⟩)
    (c_Machine_init : PySem.W.codeIn K cd_Machine_init "Machine.__init__" = true)
    (kk_Machine_init : PySem.W.keepIn K (.ref a_Machine_init) = true)
    (l_Machine_stands : K.lookup a_Machine_stands = some ⟨oc_Machine_stands, od_Machine_stands, .func (PySem.W.fnOf "stands" "Machine.stands" (defArgs s_Machine_stands) (defBody s_Machine_stands) (defScope s_Machine_stands) .none kV_Machine_stands dc_Machine_stands pm_Machine_stands an_Machine_stands cd_Machine_stands ct_Machine_stands), sl_Machine_stands⟩)
    (c_Machine_stands : PySem.W.codeIn K cd_Machine_stands "Machine.stands" = true)
    (kk_Machine_stands : PySem.W.keepIn K (.ref a_Machine_stands) = true)
    (l_Machine_steps : K.lookup a_Machine_steps = some ⟨oc_Machine_steps, od_Machine_steps, .func (PySem.W.fnOf "steps" "Machine.steps" (defArgs s_Machine_steps) (defBody s_Machine_steps) (defScope s_Machine_steps) .none kV_Machine_steps dc_Machine_steps pm_Machine_steps an_Machine_steps cd_Machine_steps ct_Machine_steps), sl_Machine_steps⟩)
    (c_Machine_steps : PySem.W.codeIn K cd_Machine_steps "Machine.steps" = true)
    (kk_Machine_steps : PySem.W.keepIn K (.ref a_Machine_steps) = true)
    (l_Machine_ends : K.lookup a_Machine_ends = some ⟨oc_Machine_ends, od_Machine_ends, .func (PySem.W.fnOf "ends" "Machine.ends" (defArgs s_Machine_ends) (defBody s_Machine_ends) (defScope s_Machine_ends) .none kV_Machine_ends dc_Machine_ends pm_Machine_ends an_Machine_ends cd_Machine_ends ct_Machine_ends), sl_Machine_ends⟩)
    (c_Machine_ends : PySem.W.codeIn K cd_Machine_ends "Machine.ends" = true)
    (kk_Machine_ends : PySem.W.keepIn K (.ref a_Machine_ends) = true)
    (l_is_whole_number : K.lookup a_is_whole_number = some ⟨oc_is_whole_number, od_is_whole_number, .func (PySem.W.fnOf "is_whole_number" "is_whole_number" (defArgs s_is_whole_number) (defBody s_is_whole_number) (defScope s_is_whole_number) .none kV_is_whole_number dc_is_whole_number pm_is_whole_number an_is_whole_number cd_is_whole_number ct_is_whole_number), sl_is_whole_number⟩)
    (c_is_whole_number : PySem.W.codeIn K cd_is_whole_number "is_whole_number" = true)
    (kk_is_whole_number : PySem.W.keepIn K (.ref a_is_whole_number) = true)
    (l_is_integer_between : K.lookup a_is_integer_between = some ⟨oc_is_integer_between, od_is_integer_between, .func (PySem.W.fnOf "is_integer_between" "is_integer_between" (defArgs s_is_integer_between) (defBody s_is_integer_between) (defScope s_is_integer_between) .none kV_is_integer_between dc_is_integer_between pm_is_integer_between an_is_integer_between cd_is_integer_between ct_is_integer_between), sl_is_integer_between⟩)
    (c_is_integer_between : PySem.W.codeIn K cd_is_integer_between "is_integer_between" = true)
    (kk_is_integer_between : PySem.W.keepIn K (.ref a_is_integer_between) = true)
    (l_is_stand : K.lookup a_is_stand = some ⟨oc_is_stand, od_is_stand, .func (PySem.W.fnOf "_is_stand" "_is_stand" (defArgs s_is_stand) (defBody s_is_stand) (defScope s_is_stand) .none kV_is_stand dc_is_stand pm_is_stand an_is_stand cd_is_stand ct_is_stand), sl_is_stand⟩)
    (c_is_stand : PySem.W.codeIn K cd_is_stand "_is_stand" = true)
    (kk_is_stand : PySem.W.keepIn K (.ref a_is_stand) = true)
    (l_check_stands : K.lookup a_check_stands = some ⟨oc_check_stands, od_check_stands, .func (PySem.W.fnOf "_check_stands" "_check_stands" (defArgs s_check_stands) (defBody s_check_stands) (defScope s_check_stands) .none kV_check_stands dc_check_stands pm_check_stands an_check_stands cd_check_stands ct_check_stands), sl_check_stands⟩)
    (c_check_stands : PySem.W.codeIn K cd_check_stands "_check_stands" = true)
    (kk_check_stands : PySem.W.keepIn K (.ref a_check_stands) = true)
    (l_is_step : K.lookup a_is_step = some ⟨oc_is_step, od_is_step, .func (PySem.W.fnOf "_is_step" "_is_step" (defArgs s_is_step) (defBody s_is_step) (defScope s_is_step) .none kV_is_step dc_is_step pm_is_step an_is_step cd_is_step ct_is_step), sl_is_step⟩)
    (c_is_step : PySem.W.codeIn K cd_is_step "_is_step" = true)
    (kk_is_step : PySem.W.keepIn K (.ref a_is_step) = true)
    (l_check_steps : K.lookup a_check_steps = some ⟨oc_check_steps, od_check_steps, .func (PySem.W.fnOf "_check_steps" "_check_steps" (defArgs s_check_steps) (defBody s_check_steps) (defScope s_check_steps) .none kV_check_steps dc_check_steps pm_check_steps an_check_steps cd_check_steps ct_check_steps), sl_check_steps⟩)
    (c_check_steps : PySem.W.codeIn K cd_check_steps "_check_steps" = true)
    (kk_check_steps : PySem.W.keepIn K (.ref a_check_steps) = true)
    (l_is_ascending : K.lookup a_is_ascending = some ⟨oc_is_ascending, od_is_ascending, .func (PySem.W.fnOf "is_ascending" "is_ascending" (defArgs s_is_ascending) (defBody s_is_ascending) (defScope s_is_ascending) .none kV_is_ascending dc_is_ascending pm_is_ascending an_is_ascending cd_is_ascending ct_is_ascending), sl_is_ascending⟩)
    (c_is_ascending : PySem.W.codeIn K cd_is_ascending "is_ascending" = true)
    (kk_is_ascending : PySem.W.keepIn K (.ref a_is_ascending) = true)
    (l_check_ends : K.lookup a_check_ends = some ⟨oc_check_ends, od_check_ends, .func (PySem.W.fnOf "_check_ends" "_check_ends" (defArgs s_check_ends) (defBody s_check_ends) (defScope s_check_ends) .none kV_check_ends dc_check_ends pm_check_ends an_check_ends cd_check_ends ct_check_ends), sl_check_ends⟩)
    (c_check_ends : PySem.W.codeIn K cd_check_ends "_check_ends" = true)
    (kk_check_ends : PySem.W.keepIn K (.ref a_check_ends) = true)
    (l_check_machine : K.lookup a_check_machine = some ⟨oc_check_machine, od_check_machine, .func (PySem.W.fnOf "check_machine" "check_machine" (defArgs s_check_machine) (defBody s_check_machine) (defScope s_check_machine) .none kV_check_machine dc_check_machine pm_check_machine an_check_machine cd_check_machine ct_check_machine), sl_check_machine⟩)
    (c_check_machine : PySem.W.codeIn K cd_check_machine "check_machine" = true)
    (kk_check_machine : PySem.W.keepIn K (.ref a_check_machine) = true)
    (l_check_stand : K.lookup a_check_stand = some ⟨oc_check_stand, od_check_stand, .func (PySem.W.fnOf "check_stand" "check_stand" (defArgs s_check_stand) (defBody s_check_stand) (defScope s_check_stand) .none kV_check_stand dc_check_stand pm_check_stand an_check_stand cd_check_stand ct_check_stand), sl_check_stand⟩)
    (c_check_stand : PySem.W.codeIn K cd_check_stand "check_stand" = true)
    (kk_check_stand : PySem.W.keepIn K (.ref a_check_stand) = true)
    (l_reached : K.lookup a_reached = some ⟨oc_reached, od_reached, .func (PySem.W.fnOf "reached" "reached" (defArgs s_reached) (defBody s_reached) (defScope s_reached) .none kV_reached dc_reached pm_reached an_reached cd_reached ct_reached), sl_reached⟩)
    (c_reached : PySem.W.codeIn K cd_reached "reached" = true)
    (kk_reached : PySem.W.keepIn K (.ref a_reached) = true)
    (l_tally_at : K.lookup a_tally_at = some ⟨oc_tally_at, od_tally_at, .func (PySem.W.fnOf "_tally_at" "_tally_at" (defArgs s_tally_at) (defBody s_tally_at) (defScope s_tally_at) .none kV_tally_at dc_tally_at pm_tally_at an_tally_at cd_tally_at ct_tally_at), sl_tally_at⟩)
    (c_tally_at : PySem.W.codeIn K cd_tally_at "_tally_at" = true)
    (kk_tally_at : PySem.W.keepIn K (.ref a_tally_at) = true)
    (l_greatest_at : K.lookup a_greatest_at = some ⟨oc_greatest_at, od_greatest_at, .func (PySem.W.fnOf "greatest_at" "greatest_at" (defArgs s_greatest_at) (defBody s_greatest_at) (defScope s_greatest_at) .none kV_greatest_at dc_greatest_at pm_greatest_at an_greatest_at cd_greatest_at ct_greatest_at), sl_greatest_at⟩)
    (c_greatest_at : PySem.W.codeIn K cd_greatest_at "greatest_at" = true)
    (kk_greatest_at : PySem.W.keepIn K (.ref a_greatest_at) = true)
    (l_least_at : K.lookup a_least_at = some ⟨oc_least_at, od_least_at, .func (PySem.W.fnOf "least_at" "least_at" (defArgs s_least_at) (defBody s_least_at) (defScope s_least_at) .none kV_least_at dc_least_at pm_least_at an_least_at cd_least_at ct_least_at), sl_least_at⟩)
    (c_least_at : PySem.W.codeIn K cd_least_at "least_at" = true)
    (kk_least_at : PySem.W.keepIn K (.ref a_least_at) = true)
    (l_bounds : K.lookup a_bounds = some ⟨oc_bounds, od_bounds, .func (PySem.W.fnOf "bounds" "bounds" (defArgs s_bounds) (defBody s_bounds) (defScope s_bounds) .none kV_bounds dc_bounds pm_bounds an_bounds cd_bounds ct_bounds), sl_bounds⟩)
    (c_bounds : PySem.W.codeIn K cd_bounds "bounds" = true)
    (kk_bounds : PySem.W.keepIn K (.ref a_bounds) = true)
    (l_end_bounds : K.lookup a_end_bounds = some ⟨oc_end_bounds, od_end_bounds, .func (PySem.W.fnOf "end_bounds" "end_bounds" (defArgs s_end_bounds) (defBody s_end_bounds) (defScope s_end_bounds) .none kV_end_bounds dc_end_bounds pm_end_bounds an_end_bounds cd_end_bounds ct_end_bounds), sl_end_bounds⟩)
    (c_end_bounds : PySem.W.codeIn K cd_end_bounds "end_bounds" = true)
    (kk_end_bounds : PySem.W.keepIn K (.ref a_end_bounds) = true)
    (l_law_taken : K.lookup a_law_taken = some ⟨oc_law_taken, od_law_taken, .func (PySem.W.fnOf "_law_taken" "_law_taken" (defArgs s_law_taken) (defBody s_law_taken) (defScope s_law_taken) .none kV_law_taken dc_law_taken pm_law_taken an_law_taken cd_law_taken ct_law_taken), sl_law_taken⟩)
    (c_law_taken : PySem.W.codeIn K cd_law_taken "_law_taken" = true)
    (kk_law_taken : PySem.W.keepIn K (.ref a_law_taken) = true)
    (l_law_parts : K.lookup a_law_parts = some ⟨oc_law_parts, od_law_parts, .func (PySem.W.fnOf "_law_parts" "_law_parts" (defArgs s_law_parts) (defBody s_law_parts) (defScope s_law_parts) .none kV_law_parts dc_law_parts pm_law_parts an_law_parts cd_law_parts ct_law_parts), sl_law_parts⟩)
    (c_law_parts : PySem.W.codeIn K cd_law_parts "_law_parts" = true)
    (kk_law_parts : PySem.W.keepIn K (.ref a_law_parts) = true)
    (l_law_machine : K.lookup a_law_machine = some ⟨oc_law_machine, od_law_machine, .func (PySem.W.fnOf "_law_machine" "_law_machine" (defArgs s_law_machine) (defBody s_law_machine) (defScope s_law_machine) .none kV_law_machine dc_law_machine pm_law_machine an_law_machine cd_law_machine ct_law_machine), sl_law_machine⟩)
    (c_law_machine : PySem.W.codeIn K cd_law_machine "_law_machine" = true)
    (kk_law_machine : PySem.W.keepIn K (.ref a_law_machine) = true)
    (l_law_next : K.lookup a_law_next = some ⟨oc_law_next, od_law_next, .func (PySem.W.fnOf "_law_next" "_law_next" (defArgs s_law_next) (defBody s_law_next) (defScope s_law_next) .none kV_law_next dc_law_next pm_law_next an_law_next cd_law_next ct_law_next), sl_law_next⟩)
    (c_law_next : PySem.W.codeIn K cd_law_next "_law_next" = true)
    (kk_law_next : PySem.W.keepIn K (.ref a_law_next) = true)
    (l_law_reached : K.lookup a_law_reached = some ⟨oc_law_reached, od_law_reached, .func (PySem.W.fnOf "_law_reached" "_law_reached" (defArgs s_law_reached) (defBody s_law_reached) (defScope s_law_reached) .none kV_law_reached dc_law_reached pm_law_reached an_law_reached cd_law_reached ct_law_reached), sl_law_reached⟩)
    (c_law_reached : PySem.W.codeIn K cd_law_reached "_law_reached" = true)
    (kk_law_reached : PySem.W.keepIn K (.ref a_law_reached) = true)
    (l_law_bests : K.lookup a_law_bests = some ⟨oc_law_bests, od_law_bests, .func (PySem.W.fnOf "_law_bests" "_law_bests" (defArgs s_law_bests) (defBody s_law_bests) (defScope s_law_bests) .none kV_law_bests dc_law_bests pm_law_bests an_law_bests cd_law_bests ct_law_bests), sl_law_bests⟩)
    (c_law_bests : PySem.W.codeIn K cd_law_bests "_law_bests" = true)
    (kk_law_bests : PySem.W.keepIn K (.ref a_law_bests) = true)
    (l_law_most : K.lookup a_law_most = some ⟨oc_law_most, od_law_most, .func (PySem.W.fnOf "_law_most" "_law_most" (defArgs s_law_most) (defBody s_law_most) (defScope s_law_most) .none kV_law_most dc_law_most pm_law_most an_law_most cd_law_most ct_law_most), sl_law_most⟩)
    (c_law_most : PySem.W.codeIn K cd_law_most "_law_most" = true)
    (kk_law_most : PySem.W.keepIn K (.ref a_law_most) = true)
    (l_law_refused : K.lookup a_law_refused = some ⟨oc_law_refused, od_law_refused, .func (PySem.W.fnOf "_law_refused" "_law_refused" (defArgs s_law_refused) (defBody s_law_refused) (defScope s_law_refused) .none kV_law_refused dc_law_refused pm_law_refused an_law_refused cd_law_refused ct_law_refused), sl_law_refused⟩)
    (c_law_refused : PySem.W.codeIn K cd_law_refused "_law_refused" = true)
    (kk_law_refused : PySem.W.keepIn K (.ref a_law_refused) = true)
    (l_law_edge : K.lookup a_law_edge = some ⟨oc_law_edge, od_law_edge, .func (PySem.W.fnOf "_law_edge" "_law_edge" (defArgs s_law_edge) (defBody s_law_edge) (defScope s_law_edge) .none kV_law_edge dc_law_edge pm_law_edge an_law_edge cd_law_edge ct_law_edge), sl_law_edge⟩)
    (c_law_edge : PySem.W.codeIn K cd_law_edge "_law_edge" = true)
    (kk_law_edge : PySem.W.keepIn K (.ref a_law_edge) = true)
    (l_law : K.lookup a_law = some ⟨oc_law, od_law, .func (PySem.W.fnOf "law" "law" (defArgs s_law) (defBody s_law) (defScope s_law) .none kV_law dc_law pm_law an_law cd_law ct_law), sl_law⟩)
    (c_law : PySem.W.codeIn K cd_law "law" = true)
    (kk_law : PySem.W.keepIn K (.ref a_law) = true)
    (pg_Machine : PySem.W.plainGet K c_Machine Str.empty = true)
    (hd_Machine : PySem.W.hasDictIn K c_Machine = true)
    (po_Machine : PySem.W.plainOver K c_Machine = true)
    (sa_Machine : PySem.W.findIn K (.ref c_Machine) "__setattr__" = some (some (.builtin "object.__setattr__")))
    (mi_Machine : PySem.W.makesIn K c_Machine = true)
    (kc_Machine : PySem.W.keepIn K (.ref c_Machine) = true)
    (fi_Machine : PySem.W.findIn K (.ref c_Machine) "__init__" = some (some (.ref a_Machine_init)))
    (if_Machine : PySem.W.isFn K (.ref a_Machine_init) = true)
    (nf_stands : PySem.W.findIn K (.ref c_Machine) "_stands" = some none)
    (nf_steps : PySem.W.findIn K (.ref c_Machine) "_steps" = some none)
    (nf_ends : PySem.W.findIn K (.ref c_Machine) "_ends" = some none)
    (pf_stands : PySem.W.findIn K (.ref c_Machine) "stands" = some (some (.ref q_stands)))
    (pt_stands : PySem.W.specialIn K (.ref q_stands) "__get__" = some (some (.builtin "property.__get__")))
    (pk_stands : PySem.W.takesIn K (.ref q_stands) = some true)
    (pr_stands : PySem.W.recIn K q_stands "property" = some (.ref a_Machine_stands :: rest_stands))
    (pf_steps : PySem.W.findIn K (.ref c_Machine) "steps" = some (some (.ref q_steps)))
    (pt_steps : PySem.W.specialIn K (.ref q_steps) "__get__" = some (some (.builtin "property.__get__")))
    (pk_steps : PySem.W.takesIn K (.ref q_steps) = some true)
    (pr_steps : PySem.W.recIn K q_steps "property" = some (.ref a_Machine_steps :: rest_steps))
    (pf_ends : PySem.W.findIn K (.ref c_Machine) "ends" = some (some (.ref q_ends)))
    (pt_ends : PySem.W.specialIn K (.ref q_ends) "__get__" = some (some (.builtin "property.__get__")))
    (pk_ends : PySem.W.takesIn K (.ref q_ends) = some true)
    (pr_ends : PySem.W.recIn K q_ends "property" = some (.ref a_Machine_ends :: rest_ends))
    (x_i1_Machine : PySem.W.findIn K (.ref c_Machine) "__class__" = some (some (.builtin "object.__class__")))
    (x_i2_Machine : PySem.W.specialIn K (.builtin "object.__class__") "__get__" = some (some (.builtin "getset_descriptor.__get__")))
    (x_i3_Machine : PySem.W.takesIn K (.builtin "object.__class__") = some true)
    (x_i4_Machine : PySem.W.mroIn K c_Machine (.type "object") = some true)
    (xx_BadStand : PySem.W.excIn K c_BadStand [.type "ValueError", .type "Exception", .type "BaseException", .type "object"] "ValueError.__new__" = true)
    (xk_BadStand : PySem.W.keepIn K (.ref c_BadStand) = true)
    (xb_BadStand : PySem.W.subIn K (.ref c_BadStand) (.type "BaseException") = some true)
    (xt_BadStand : PySem.W.typeIn K (.ref c_BadStand) = some (.type "type"))
    (xi_BadStand : PySem.W.isClsIn K c_BadStand = true)
    (xs_BadStand : PySem.W.subIn K (.ref c_BadStand) (.ref c_BadStand) = some true)
    (l_LETTERS : K.lookup a_LETTERS = some ⟨.type "tuple", od_LETTERS, .seq #[.str "a" w0_LETTERS, .str "b" w1_LETTERS, .str "c" w2_LETTERS, .str "d" w3_LETTERS] n_LETTERS, sl_LETTERS⟩) : Txt K mg :=
  {a_led_to := a_led_to, fd_led_to := _, F_led_to := fun_mk (st := s_led_to) l_led_to c_led_to kk_led_to, k_led_to := kk_led_to,
    b_led_to := (fun_mk (st := s_led_to) l_led_to c_led_to kk_led_to).binds (ps := ["steps", "begins"]) fun _ _ _ _ _ _ us hl => match us, hl with | [_, _], _ => rfl,
    m_led_to := PySem.W.mg_of X G g_led_to,
    a_longer_rows := a_longer_rows, fd_longer_rows := _, F_longer_rows := fun_mk (st := s_longer_rows) l_longer_rows c_longer_rows kk_longer_rows, k_longer_rows := kk_longer_rows,
    b_longer_rows := (fun_mk (st := s_longer_rows) l_longer_rows c_longer_rows kk_longer_rows).binds (ps := ["steps", "sign", "rows"]) fun _ _ _ _ _ _ us hl => match us, hl with | [_, _, _], _ => rfl,
    m_longer_rows := PySem.W.mg_of X G g_longer_rows,
    a_improved := a_improved, fd_improved := _, F_improved := fun_mk (st := s_improved) l_improved c_improved kk_improved, k_improved := kk_improved,
    b_improved := (fun_mk (st := s_improved) l_improved c_improved kk_improved).binds (ps := ["rows", "best"]) fun _ _ _ _ _ _ us hl => match us, hl with | [_, _], _ => rfl,
    m_improved := PySem.W.mg_of X G g_improved,
    a_best_rows := a_best_rows, fd_best_rows := _, F_best_rows := fun_mk (st := s_best_rows) l_best_rows c_best_rows kk_best_rows, k_best_rows := kk_best_rows,
    b_best_rows := (fun_mk (st := s_best_rows) l_best_rows c_best_rows kk_best_rows).binds (ps := ["many", "steps", "sign"]) fun _ _ _ _ _ _ us hl => match us, hl with | [_, _, _], _ => rfl,
    m_best_rows := PySem.W.mg_of X G g_best_rows,
    a_best_of := a_best_of, fd_best_of := _, F_best_of := fun_mk (st := s_best_of) l_best_of c_best_of kk_best_of, k_best_of := kk_best_of,
    b_best_of := (fun_mk (st := s_best_of) l_best_of c_best_of kk_best_of).binds (ps := ["many", "steps", "sign", "stands"]) fun _ _ _ _ _ _ us hl => match us, hl with | [_, _, _, _], _ => rfl,
    m_best_of := PySem.W.mg_of X G g_best_of,
    a_least_and_greatest := a_least_and_greatest, fd_least_and_greatest := _, F_least_and_greatest := fun_mk (st := s_least_and_greatest) l_least_and_greatest c_least_and_greatest kk_least_and_greatest, k_least_and_greatest := kk_least_and_greatest,
    b_least_and_greatest := (fun_mk (st := s_least_and_greatest) l_least_and_greatest c_least_and_greatest kk_least_and_greatest).binds (ps := ["many", "steps", "stands"]) fun _ _ _ _ _ _ us hl => match us, hl with | [_, _, _], _ => rfl,
    m_least_and_greatest := PySem.W.mg_of X G g_least_and_greatest,
    a_Machine_init := a_Machine_init, fd_Machine_init := _, F_Machine_init := fun_mk (st := s_Machine_init) l_Machine_init c_Machine_init kk_Machine_init, k_Machine_init := kk_Machine_init,
    b_Machine_init := (fun_mk (st := s_Machine_init) l_Machine_init c_Machine_init kk_Machine_init).binds (ps := ["self", "stands", "steps", "ends"]) fun _ _ _ _ _ _ us hl => match us, hl with | [_, _, _, _], _ => rfl,
    a_Machine_stands := a_Machine_stands, fd_Machine_stands := _, F_Machine_stands := fun_mk (st := s_Machine_stands) l_Machine_stands c_Machine_stands kk_Machine_stands, k_Machine_stands := kk_Machine_stands,
    b_Machine_stands := (fun_mk (st := s_Machine_stands) l_Machine_stands c_Machine_stands kk_Machine_stands).binds (ps := ["self"]) fun _ _ _ _ _ _ us hl => match us, hl with | [_], _ => rfl,
    a_Machine_steps := a_Machine_steps, fd_Machine_steps := _, F_Machine_steps := fun_mk (st := s_Machine_steps) l_Machine_steps c_Machine_steps kk_Machine_steps, k_Machine_steps := kk_Machine_steps,
    b_Machine_steps := (fun_mk (st := s_Machine_steps) l_Machine_steps c_Machine_steps kk_Machine_steps).binds (ps := ["self"]) fun _ _ _ _ _ _ us hl => match us, hl with | [_], _ => rfl,
    a_Machine_ends := a_Machine_ends, fd_Machine_ends := _, F_Machine_ends := fun_mk (st := s_Machine_ends) l_Machine_ends c_Machine_ends kk_Machine_ends, k_Machine_ends := kk_Machine_ends,
    b_Machine_ends := (fun_mk (st := s_Machine_ends) l_Machine_ends c_Machine_ends kk_Machine_ends).binds (ps := ["self"]) fun _ _ _ _ _ _ us hl => match us, hl with | [_], _ => rfl,
    a_is_whole_number := a_is_whole_number, fd_is_whole_number := _, F_is_whole_number := fun_mk (st := s_is_whole_number) l_is_whole_number c_is_whole_number kk_is_whole_number, k_is_whole_number := kk_is_whole_number,
    b_is_whole_number := (fun_mk (st := s_is_whole_number) l_is_whole_number c_is_whole_number kk_is_whole_number).binds (ps := ["value"]) fun _ _ _ _ _ _ us hl => match us, hl with | [_], _ => rfl,
    m_is_whole_number := PySem.W.mg_of X G g_is_whole_number,
    a_is_integer_between := a_is_integer_between, fd_is_integer_between := _, F_is_integer_between := fun_mk (st := s_is_integer_between) l_is_integer_between c_is_integer_between kk_is_integer_between, k_is_integer_between := kk_is_integer_between,
    b_is_integer_between := (fun_mk (st := s_is_integer_between) l_is_integer_between c_is_integer_between kk_is_integer_between).binds (ps := ["value", "least", "most"]) fun _ _ _ _ _ _ us hl => match us, hl with | [_, _, _], _ => rfl,
    m_is_integer_between := PySem.W.mg_of X G g_is_integer_between,
    a_is_stand := a_is_stand, fd_is_stand := _, F_is_stand := fun_mk (st := s_is_stand) l_is_stand c_is_stand kk_is_stand, k_is_stand := kk_is_stand,
    b_is_stand := (fun_mk (st := s_is_stand) l_is_stand c_is_stand kk_is_stand).binds (ps := ["stands", "value"]) fun _ _ _ _ _ _ us hl => match us, hl with | [_, _], _ => rfl,
    m_is_stand := PySem.W.mg_of X G g_is_stand,
    a_check_stands := a_check_stands, fd_check_stands := _, F_check_stands := fun_mk (st := s_check_stands) l_check_stands c_check_stands kk_check_stands, k_check_stands := kk_check_stands,
    b_check_stands := (fun_mk (st := s_check_stands) l_check_stands c_check_stands kk_check_stands).binds (ps := ["stands"]) fun _ _ _ _ _ _ us hl => match us, hl with | [_], _ => rfl,
    m_check_stands := PySem.W.mg_of X G g_check_stands,
    a_is_step := a_is_step, fd_is_step := _, F_is_step := fun_mk (st := s_is_step) l_is_step c_is_step kk_is_step, k_is_step := kk_is_step,
    b_is_step := (fun_mk (st := s_is_step) l_is_step c_is_step kk_is_step).binds (ps := ["stands", "value"]) fun _ _ _ _ _ _ us hl => match us, hl with | [_, _], _ => rfl,
    m_is_step := PySem.W.mg_of X G g_is_step,
    a_check_steps := a_check_steps, fd_check_steps := _, F_check_steps := fun_mk (st := s_check_steps) l_check_steps c_check_steps kk_check_steps, k_check_steps := kk_check_steps,
    b_check_steps := (fun_mk (st := s_check_steps) l_check_steps c_check_steps kk_check_steps).binds (ps := ["stands", "steps"]) fun _ _ _ _ _ _ us hl => match us, hl with | [_, _], _ => rfl,
    m_check_steps := PySem.W.mg_of X G g_check_steps,
    a_is_ascending := a_is_ascending, fd_is_ascending := _, F_is_ascending := fun_mk (st := s_is_ascending) l_is_ascending c_is_ascending kk_is_ascending, k_is_ascending := kk_is_ascending,
    b_is_ascending := (fun_mk (st := s_is_ascending) l_is_ascending c_is_ascending kk_is_ascending).binds (ps := ["value", "many"]) fun _ _ _ _ _ _ us hl => match us, hl with | [_, _], _ => rfl,
    m_is_ascending := PySem.W.mg_of X G g_is_ascending,
    a_check_ends := a_check_ends, fd_check_ends := _, F_check_ends := fun_mk (st := s_check_ends) l_check_ends c_check_ends kk_check_ends, k_check_ends := kk_check_ends,
    b_check_ends := (fun_mk (st := s_check_ends) l_check_ends c_check_ends kk_check_ends).binds (ps := ["stands", "ends"]) fun _ _ _ _ _ _ us hl => match us, hl with | [_, _], _ => rfl,
    m_check_ends := PySem.W.mg_of X G g_check_ends,
    a_check_machine := a_check_machine, fd_check_machine := _, F_check_machine := fun_mk (st := s_check_machine) l_check_machine c_check_machine kk_check_machine, k_check_machine := kk_check_machine,
    b_check_machine := (fun_mk (st := s_check_machine) l_check_machine c_check_machine kk_check_machine).binds (ps := ["value"]) fun _ _ _ _ _ _ us hl => match us, hl with | [_], _ => rfl,
    m_check_machine := PySem.W.mg_of X G g_check_machine,
    a_check_stand := a_check_stand, fd_check_stand := _, F_check_stand := fun_mk (st := s_check_stand) l_check_stand c_check_stand kk_check_stand, k_check_stand := kk_check_stand,
    b_check_stand := (fun_mk (st := s_check_stand) l_check_stand c_check_stand kk_check_stand).binds (ps := ["machine", "value"]) fun _ _ _ _ _ _ us hl => match us, hl with | [_, _], _ => rfl,
    m_check_stand := PySem.W.mg_of X G g_check_stand,
    a_reached := a_reached, fd_reached := _, F_reached := fun_mk (st := s_reached) l_reached c_reached kk_reached, k_reached := kk_reached,
    b_reached := (fun_mk (st := s_reached) l_reached c_reached kk_reached).binds (ps := ["machine"]) fun _ _ _ _ _ _ us hl => match us, hl with | [_], _ => rfl,
    m_reached := PySem.W.mg_of X G g_reached,
    a_tally_at := a_tally_at, fd_tally_at := _, F_tally_at := fun_mk (st := s_tally_at) l_tally_at c_tally_at kk_tally_at, k_tally_at := kk_tally_at,
    b_tally_at := (fun_mk (st := s_tally_at) l_tally_at c_tally_at kk_tally_at).binds (ps := ["machine", "stand", "sign"]) fun _ _ _ _ _ _ us hl => match us, hl with | [_, _, _], _ => rfl,
    m_tally_at := PySem.W.mg_of X G g_tally_at,
    a_greatest_at := a_greatest_at, fd_greatest_at := _, F_greatest_at := fun_mk (st := s_greatest_at) l_greatest_at c_greatest_at kk_greatest_at, k_greatest_at := kk_greatest_at,
    b_greatest_at := (fun_mk (st := s_greatest_at) l_greatest_at c_greatest_at kk_greatest_at).binds (ps := ["machine", "stand"]) fun _ _ _ _ _ _ us hl => match us, hl with | [_, _], _ => rfl,
    m_greatest_at := PySem.W.mg_of X G g_greatest_at,
    a_least_at := a_least_at, fd_least_at := _, F_least_at := fun_mk (st := s_least_at) l_least_at c_least_at kk_least_at, k_least_at := kk_least_at,
    b_least_at := (fun_mk (st := s_least_at) l_least_at c_least_at kk_least_at).binds (ps := ["machine", "stand"]) fun _ _ _ _ _ _ us hl => match us, hl with | [_, _], _ => rfl,
    m_least_at := PySem.W.mg_of X G g_least_at,
    a_bounds := a_bounds, fd_bounds := _, F_bounds := fun_mk (st := s_bounds) l_bounds c_bounds kk_bounds, k_bounds := kk_bounds,
    b_bounds := (fun_mk (st := s_bounds) l_bounds c_bounds kk_bounds).binds (ps := ["machine"]) fun _ _ _ _ _ _ us hl => match us, hl with | [_], _ => rfl,
    m_bounds := PySem.W.mg_of X G g_bounds,
    a_end_bounds := a_end_bounds, fd_end_bounds := _, F_end_bounds := fun_mk (st := s_end_bounds) l_end_bounds c_end_bounds kk_end_bounds, k_end_bounds := kk_end_bounds,
    b_end_bounds := (fun_mk (st := s_end_bounds) l_end_bounds c_end_bounds kk_end_bounds).binds (ps := ["machine"]) fun _ _ _ _ _ _ us hl => match us, hl with | [_], _ => rfl,
    m_end_bounds := PySem.W.mg_of X G g_end_bounds,
    a_law_taken := a_law_taken, fd_law_taken := _, F_law_taken := fun_mk (st := s_law_taken) l_law_taken c_law_taken kk_law_taken, k_law_taken := kk_law_taken,
    b_law_taken := (fun_mk (st := s_law_taken) l_law_taken c_law_taken kk_law_taken).binds (ps := ["_law_row", "_law_many"]) fun _ _ _ _ _ _ us hl => match us, hl with | [_, _], _ => rfl,
    m_law_taken := PySem.W.mg_of X G g_law_taken,
    a_law_parts := a_law_parts, fd_law_parts := _, F_law_parts := fun_mk (st := s_law_parts) l_law_parts c_law_parts kk_law_parts, k_law_parts := kk_law_parts,
    b_law_parts := (fun_mk (st := s_law_parts) l_law_parts c_law_parts kk_law_parts).binds (ps := ["_law_row", "_law_stands", "_law_size"]) fun _ _ _ _ _ _ us hl => match us, hl with | [_, _, _], _ => rfl,
    m_law_parts := PySem.W.mg_of X G g_law_parts,
    a_law_machine := a_law_machine, fd_law_machine := _, F_law_machine := fun_mk (st := s_law_machine) l_law_machine c_law_machine kk_law_machine, k_law_machine := kk_law_machine,
    b_law_machine := (fun_mk (st := s_law_machine) l_law_machine c_law_machine kk_law_machine).binds (ps := ["_law_d"]) fun _ _ _ _ _ _ us hl => match us, hl with | [_], _ => rfl,
    m_law_machine := PySem.W.mg_of X G g_law_machine,
    a_law_next := a_law_next, fd_law_next := _, F_law_next := fun_mk (st := s_law_next) l_law_next c_law_next kk_law_next, k_law_next := kk_law_next,
    b_law_next := (fun_mk (st := s_law_next) l_law_next c_law_next kk_law_next).binds (ps := ["_law_d", "_law_stand"]) fun _ _ _ _ _ _ us hl => match us, hl with | [_, _], _ => rfl,
    m_law_next := PySem.W.mg_of X G g_law_next,
    a_law_reached := a_law_reached, fd_law_reached := _, F_law_reached := fun_mk (st := s_law_reached) l_law_reached c_law_reached kk_law_reached, k_law_reached := kk_law_reached,
    b_law_reached := (fun_mk (st := s_law_reached) l_law_reached c_law_reached kk_law_reached).binds (ps := ["_law_d"]) fun _ _ _ _ _ _ us hl => match us, hl with | [_], _ => rfl,
    m_law_reached := PySem.W.mg_of X G g_law_reached,
    a_law_bests := a_law_bests, fd_law_bests := _, F_law_bests := fun_mk (st := s_law_bests) l_law_bests c_law_bests kk_law_bests, k_law_bests := kk_law_bests,
    b_law_bests := (fun_mk (st := s_law_bests) l_law_bests c_law_bests kk_law_bests).binds (ps := ["_law_d", "_law_sign", "_law_lengths"]) fun _ _ _ _ _ _ us hl => match us, hl with | [_, _, _], _ => rfl,
    m_law_bests := PySem.W.mg_of X G g_law_bests,
    a_law_most := a_law_most, fd_law_most := _, F_law_most := fun_mk (st := s_law_most) l_law_most c_law_most kk_law_most, k_law_most := kk_law_most,
    b_law_most := (fun_mk (st := s_law_most) l_law_most c_law_most kk_law_most).binds (ps := ["_law_d", "_law_sign"]) fun _ _ _ _ _ _ us hl => match us, hl with | [_, _], _ => rfl,
    m_law_most := PySem.W.mg_of X G g_law_most,
    a_law_refused := a_law_refused, fd_law_refused := _, F_law_refused := fun_mk (st := s_law_refused) l_law_refused c_law_refused kk_law_refused, k_law_refused := kk_law_refused,
    b_law_refused := (fun_mk (st := s_law_refused) l_law_refused c_law_refused kk_law_refused).binds (ps := ["_law_kind", "_law_machine_here", "_law_stand"]) fun _ _ _ _ _ _ us hl => match us, hl with | [_, _, _], _ => rfl,
    m_law_refused := PySem.W.mg_of X G g_law_refused,
    a_law_edge := a_law_edge, fd_law_edge := _, F_law_edge := fun_mk (st := s_law_edge) l_law_edge c_law_edge kk_law_edge, k_law_edge := kk_law_edge,
    b_law_edge := (fun_mk (st := s_law_edge) l_law_edge c_law_edge kk_law_edge).binds (ps := ["_law_told", "_law_stands", "_law_sign"]) fun _ _ _ _ _ _ us hl => match us, hl with | [_, _, _], _ => rfl,
    m_law_edge := PySem.W.mg_of X G g_law_edge,
    a_law := a_law, fd_law := _, F_law := fun_mk (st := s_law) l_law c_law kk_law, k_law := kk_law,
    b_law := (fun_mk (st := s_law) l_law c_law kk_law).binds (ps := ["_law_script"]) fun _ _ _ _ _ _ us hl => match us, hl with | [_], _ => rfl,
    m_law := PySem.W.mg_of X G g_law,
    c_Machine := c_Machine, cl_Machine := ⟨pg_Machine, hd_Machine, po_Machine, sa_Machine⟩, m_Machine := PySem.W.mg_of X G g_Machine, mk_Machine := ⟨mi_Machine, fi_Machine, if_Machine, kc_Machine⟩,
    n__stands := nf_stands,
    n__steps := nf_steps,
    n__ends := nf_ends,
    q_stands := q_stands, p_stands := ⟨pf_stands, pt_stands, pk_stands, ⟨_, pr_stands⟩⟩,
    q_steps := q_steps, p_steps := ⟨pf_steps, pt_steps, pk_steps, ⟨_, pr_steps⟩⟩,
    q_ends := q_ends, p_ends := ⟨pf_ends, pt_ends, pk_ends, ⟨_, pr_ends⟩⟩,
    i1_Machine := x_i1_Machine,
    i2_Machine := x_i2_Machine,
    i3_Machine := x_i3_Machine,
    i4_Machine := x_i4_Machine,
    c_BadStand := c_BadStand, m_BadStand := PySem.W.mg_of X G g_BadStand, x_BadStand := xx_BadStand, k_BadStand := xk_BadStand, b_BadStand := xb_BadStand, t_BadStand := xt_BadStand, e_BadStand := exc_self xb_BadStand xi_BadStand xt_BadStand xs_BadStand,
    u_MOST_STANDS := .int 8 t_MOST_STANDS, m_MOST_STANDS := PySem.W.mg_of X G g_MOST_STANDS, r_MOST_STANDS := ⟨_, rfl⟩,
    u_MOST_GAIN := .int 1000000000000000000000000000000 t_MOST_GAIN, m_MOST_GAIN := PySem.W.mg_of X G g_MOST_GAIN, r_MOST_GAIN := ⟨_, rfl⟩,
    a_LETTERS := a_LETTERS, m_LETTERS := PySem.W.mg_of X G g_LETTERS, r_LETTERS := rfl, s_LETTERS := fun H => .inr ⟨_, _, _, l_LETTERS, rfl, rfl, (by show 4 ≤ sizeLine; decide), (Paired.cons ⟨_, rfl⟩ (Paired.cons ⟨_, rfl⟩ (Paired.cons ⟨_, rfl⟩ (Paired.cons ⟨_, rfl⟩ Paired.nil))))⟩,
    u_ENDLESS := .str "endless" t_ENDLESS, m_ENDLESS := PySem.W.mg_of X G g_ENDLESS, r_ENDLESS := ⟨_, rfl⟩,
    z_bool := PySem.W.mg_none_of X G zz_bool,
    z_enumerate := PySem.W.mg_none_of X G zz_enumerate,
    z_int := PySem.W.mg_none_of X G zz_int,
    z_isinstance := PySem.W.mg_none_of X G zz_isinstance,
    z_len := PySem.W.mg_none_of X G zz_len,
    z_list := PySem.W.mg_none_of X G zz_list,
    z_max := PySem.W.mg_none_of X G zz_max,
    z_range := PySem.W.mg_none_of X G zz_range,
    z_sorted := PySem.W.mg_none_of X G zz_sorted,
    z_str := PySem.W.mg_none_of X G zz_str,
    z_tuple := PySem.W.mg_none_of X G zz_tuple,
    bs_law := fun s v => .of_eq rfl }
theorem all_mk {l : PySem.W.OpenLaw} {w : World} {K : PySem.W.Frag} {mg : Str → Option Value} {fa : Addr} (T : Txt K mg) (hfa : mg "law" = some (.ref fa)) :
    ∃ fd : FuncData, (∀ (s : Shared) (v : Value), BindsTo s fd ⟨[v], []⟩ [("_law_script", v)]) ∧ ∀ base : Heap, K.In base → base.Ns mainGlobals mg → FnOk l.prog w K mg base (L2.CX l.prog w) 10 fa fd ["_law_script"] (sp_law K) := by
  have e := hfa.symm.trans T.m_law
  cases e
  exact ⟨T.fd_law, T.bs_law, fun _ _ _ => ok_law T⟩
theorem walk {l : PySem.W.OpenLaw} {q : Program} {loose : List Str} {XP : (Str → Option Value) → Heap → Prop} {YP : World → Heap → Prop} {d : DefRec} {K : Params → PySem.W.Frag} (hn : l.most = some 63) (hdf : d.params.defaults = [])
    (hY : ∀ (w : World) (h : Heap), YP w h → (K w.params).In h)
    (F : ∀ (w : World) (mg : Str → Option Value) (fa : Addr) (h : Heap), (K w.params).In h → h.Ns mainGlobals mg → mg d.name = some (.ref fa) →
      ∃ fd : FuncData, (∀ (s : Shared) (u : Value), BindsTo s fd ⟨[u], []⟩ [("_law_script", u)]) ∧ ∀ base : Heap, (K w.params).In base → base.Ns mainGlobals mg → FnOk l.prog w (K w.params) mg base (L2.CX l.prog w) 10 fa fd ["_law_script"] (sp_law (K w.params))) :
    PySem.W.WalkO q loose XP YP l.row.toRowW d [] (fun f vs => PySem.call f vs) :=
  L2.walk_of (n := 63) (k := 10) (x := "_law_script") (CX := fun w => L2.CX l.prog w) (sp := fun w => sp_law (K w.params)) hn (by decide) hdf ⟨rfl, by decide, by decide⟩ hY F
    (fun _ H a ns hl hO hS => ⟨a, ns, rfl, by
      rcases hS with (e | ⟨o, e⟩) | h
      · rcases hO a with z | ⟨_, _, z⟩
        · rw [e] at z; cases z
        · rw [e] at z; cases z
      · exact .inl ⟨o, e⟩
      · exact .inr fun _ => .inr h, hl, fun _ => rfl⟩)
    fun _ _ _ _ _ h => by
      obtain ⟨_, _, _, _, _, _, _, _, _, _, _, _, z⟩ := h
      exact z.elim
end Sv
open PySem PySem.W PyProof.Rows in
set_option maxRecDepth 100000 in
set_option maxHeartbeats 0 in
theorem PySem.Challenge.cw_staytallies_k04_whole_extremes_holds : PySem.Challenge.rw_staytallies_k04_whole_extremes.Holds := by
  w_on; o_law; k_head; (case hw => w_witness2)
  k_fill
  refine Sv.walk (l := PySem.Challenge.rw_staytallies_k04_whole_extremes) rfl rfl (fun w h Y => PySem.W.kIn_of Y) ?F
  case F =>
    intro w mg fa h KX G hmg
    refine' Sv.all_mk (Sv.txt_mk KX G ?g_led_to ?g_longer_rows ?g_improved ?g_best_rows ?g_best_of ?g_least_and_greatest ?g_is_whole_number ?g_is_integer_between ?g_is_stand ?g_check_stands ?g_is_step ?g_check_steps ?g_is_ascending ?g_check_ends ?g_check_machine ?g_check_stand ?g_reached ?g_tally_at ?g_greatest_at ?g_least_at ?g_bounds ?g_end_bounds ?g_law_taken ?g_law_parts ?g_law_machine ?g_law_next ?g_law_reached ?g_law_bests ?g_law_most ?g_law_refused ?g_law_edge ?g_law ?g_Machine ?g_BadStand ?g_MOST_STANDS ?g_MOST_GAIN ?g_LETTERS ?g_ENDLESS ?zz_bool ?zz_enumerate ?zz_int ?zz_isinstance ?zz_len ?zz_list ?zz_max ?zz_range ?zz_sorted ?zz_str ?zz_tuple ?l_led_to ?c_led_to ?kk_led_to ?l_longer_rows ?c_longer_rows ?kk_longer_rows ?l_improved ?c_improved ?kk_improved ?l_best_rows ?c_best_rows ?kk_best_rows ?l_best_of ?c_best_of ?kk_best_of ?l_least_and_greatest ?c_least_and_greatest ?kk_least_and_greatest ?l_Machine_init ?c_Machine_init ?kk_Machine_init ?l_Machine_stands ?c_Machine_stands ?kk_Machine_stands ?l_Machine_steps ?c_Machine_steps ?kk_Machine_steps ?l_Machine_ends ?c_Machine_ends ?kk_Machine_ends ?l_is_whole_number ?c_is_whole_number ?kk_is_whole_number ?l_is_integer_between ?c_is_integer_between ?kk_is_integer_between ?l_is_stand ?c_is_stand ?kk_is_stand ?l_check_stands ?c_check_stands ?kk_check_stands ?l_is_step ?c_is_step ?kk_is_step ?l_check_steps ?c_check_steps ?kk_check_steps ?l_is_ascending ?c_is_ascending ?kk_is_ascending ?l_check_ends ?c_check_ends ?kk_check_ends ?l_check_machine ?c_check_machine ?kk_check_machine ?l_check_stand ?c_check_stand ?kk_check_stand ?l_reached ?c_reached ?kk_reached ?l_tally_at ?c_tally_at ?kk_tally_at ?l_greatest_at ?c_greatest_at ?kk_greatest_at ?l_least_at ?c_least_at ?kk_least_at ?l_bounds ?c_bounds ?kk_bounds ?l_end_bounds ?c_end_bounds ?kk_end_bounds ?l_law_taken ?c_law_taken ?kk_law_taken ?l_law_parts ?c_law_parts ?kk_law_parts ?l_law_machine ?c_law_machine ?kk_law_machine ?l_law_next ?c_law_next ?kk_law_next ?l_law_reached ?c_law_reached ?kk_law_reached ?l_law_bests ?c_law_bests ?kk_law_bests ?l_law_most ?c_law_most ?kk_law_most ?l_law_refused ?c_law_refused ?kk_law_refused ?l_law_edge ?c_law_edge ?kk_law_edge ?l_law ?c_law ?kk_law ?pg_Machine ?hd_Machine ?po_Machine ?sa_Machine ?mi_Machine ?kc_Machine ?fi_Machine ?if_Machine ?nf_stands ?nf_steps ?nf_ends ?pf_stands ?pt_stands ?pk_stands ?pr_stands ?pf_steps ?pt_steps ?pk_steps ?pr_steps ?pf_ends ?pt_ends ?pk_ends ?pr_ends ?x_i1_Machine ?x_i2_Machine ?x_i3_Machine ?x_i4_Machine ?xx_BadStand ?xk_BadStand ?xb_BadStand ?xt_BadStand ?xi_BadStand ?xs_BadStand ?l_LETTERS) hmg
    (case g_led_to => k_is)
    (case g_longer_rows => k_is)
    (case g_improved => k_is)
    (case g_best_rows => k_is)
    (case g_best_of => k_is)
    (case g_least_and_greatest => k_is)
    (case g_is_whole_number => k_is)
    (case g_is_integer_between => k_is)
    (case g_is_stand => k_is)
    (case g_check_stands => k_is)
    (case g_is_step => k_is)
    (case g_check_steps => k_is)
    (case g_is_ascending => k_is)
    (case g_check_ends => k_is)
    (case g_check_machine => k_is)
    (case g_check_stand => k_is)
    (case g_reached => k_is)
    (case g_tally_at => k_is)
    (case g_greatest_at => k_is)
    (case g_least_at => k_is)
    (case g_bounds => k_is)
    (case g_end_bounds => k_is)
    (case g_law_taken => k_is)
    (case g_law_parts => k_is)
    (case g_law_machine => k_is)
    (case g_law_next => k_is)
    (case g_law_reached => k_is)
    (case g_law_bests => k_is)
    (case g_law_most => k_is)
    (case g_law_refused => k_is)
    (case g_law_edge => k_is)
    (case g_law => k_is)
    (case g_Machine => k_is)
    (case g_BadStand => k_is)
    (case g_MOST_STANDS => k_is)
    (case g_MOST_GAIN => k_is)
    (case g_LETTERS => k_is)
    (case g_ENDLESS => k_is)
    (case zz_bool => k_is)
    (case zz_enumerate => k_is)
    (case zz_int => k_is)
    (case zz_isinstance => k_is)
    (case zz_len => k_is)
    (case zz_list => k_is)
    (case zz_max => k_is)
    (case zz_range => k_is)
    (case zz_sorted => k_is)
    (case zz_str => k_is)
    (case zz_tuple => k_is)
    (case pg_Machine => k_is)
    (case hd_Machine => k_is)
    (case po_Machine => k_is)
    (case sa_Machine => k_is)
    (case mi_Machine => k_is)
    (case kc_Machine => k_is)
    (case fi_Machine => k_is)
    (case if_Machine => k_is)
    (case nf_stands => k_is)
    (case nf_steps => k_is)
    (case nf_ends => k_is)
    (case pf_stands => k_is)
    (case pt_stands => k_is)
    (case pk_stands => k_is)
    (case pr_stands => k_is)
    (case pf_steps => k_is)
    (case pt_steps => k_is)
    (case pk_steps => k_is)
    (case pr_steps => k_is)
    (case pf_ends => k_is)
    (case pt_ends => k_is)
    (case pk_ends => k_is)
    (case pr_ends => k_is)
    (case x_i1_Machine => k_is)
    (case x_i2_Machine => k_is)
    (case x_i3_Machine => k_is)
    (case x_i4_Machine => k_is)
    (case xx_BadStand => k_exc)
    (case xk_BadStand => k_is)
    (case xb_BadStand => k_is)
    (case xt_BadStand => k_is)
    (case xi_BadStand => k_is)
    (case xs_BadStand => first | rfl | k_is)
    (case l_LETTERS => k_is)
    (case l_led_to => k_is)
    (case c_led_to => k_is)
    (case kk_led_to => k_is)
    (case l_longer_rows => k_is)
    (case c_longer_rows => k_is)
    (case kk_longer_rows => k_is)
    (case l_improved => k_is)
    (case c_improved => k_is)
    (case kk_improved => k_is)
    (case l_best_rows => k_is)
    (case c_best_rows => k_is)
    (case kk_best_rows => k_is)
    (case l_best_of => k_is)
    (case c_best_of => k_is)
    (case kk_best_of => k_is)
    (case l_least_and_greatest => k_is)
    (case c_least_and_greatest => k_is)
    (case kk_least_and_greatest => k_is)
    (case l_Machine_init => k_is)
    (case c_Machine_init => k_is)
    (case kk_Machine_init => k_is)
    (case l_Machine_stands => k_is)
    (case c_Machine_stands => k_is)
    (case kk_Machine_stands => k_is)
    (case l_Machine_steps => k_is)
    (case c_Machine_steps => k_is)
    (case kk_Machine_steps => k_is)
    (case l_Machine_ends => k_is)
    (case c_Machine_ends => k_is)
    (case kk_Machine_ends => k_is)
    (case l_is_whole_number => k_is)
    (case c_is_whole_number => k_is)
    (case kk_is_whole_number => k_is)
    (case l_is_integer_between => k_is)
    (case c_is_integer_between => k_is)
    (case kk_is_integer_between => k_is)
    (case l_is_stand => k_is)
    (case c_is_stand => k_is)
    (case kk_is_stand => k_is)
    (case l_check_stands => k_is)
    (case c_check_stands => k_is)
    (case kk_check_stands => k_is)
    (case l_is_step => k_is)
    (case c_is_step => k_is)
    (case kk_is_step => k_is)
    (case l_check_steps => k_is)
    (case c_check_steps => k_is)
    (case kk_check_steps => k_is)
    (case l_is_ascending => k_is)
    (case c_is_ascending => k_is)
    (case kk_is_ascending => k_is)
    (case l_check_ends => k_is)
    (case c_check_ends => k_is)
    (case kk_check_ends => k_is)
    (case l_check_machine => k_is)
    (case c_check_machine => k_is)
    (case kk_check_machine => k_is)
    (case l_check_stand => k_is)
    (case c_check_stand => k_is)
    (case kk_check_stand => k_is)
    (case l_reached => k_is)
    (case c_reached => k_is)
    (case kk_reached => k_is)
    (case l_tally_at => k_is)
    (case c_tally_at => k_is)
    (case kk_tally_at => k_is)
    (case l_greatest_at => k_is)
    (case c_greatest_at => k_is)
    (case kk_greatest_at => k_is)
    (case l_least_at => k_is)
    (case c_least_at => k_is)
    (case kk_least_at => k_is)
    (case l_bounds => k_is)
    (case c_bounds => k_is)
    (case kk_bounds => k_is)
    (case l_end_bounds => k_is)
    (case c_end_bounds => k_is)
    (case kk_end_bounds => k_is)
    (case l_law_taken => k_is)
    (case c_law_taken => k_is)
    (case kk_law_taken => k_is)
    (case l_law_parts => k_is)
    (case c_law_parts => k_is)
    (case kk_law_parts => k_is)
    (case l_law_machine => k_is)
    (case c_law_machine => k_is)
    (case kk_law_machine => k_is)
    (case l_law_next => k_is)
    (case c_law_next => k_is)
    (case kk_law_next => k_is)
    (case l_law_reached => k_is)
    (case c_law_reached => k_is)
    (case kk_law_reached => k_is)
    (case l_law_bests => k_is)
    (case c_law_bests => k_is)
    (case kk_law_bests => k_is)
    (case l_law_most => k_is)
    (case c_law_most => k_is)
    (case kk_law_most => k_is)
    (case l_law_refused => k_is)
    (case c_law_refused => k_is)
    (case kk_law_refused => k_is)
    (case l_law_edge => k_is)
    (case c_law_edge => k_is)
    (case kk_law_edge => k_is)
    (case l_law => k_is)
    (case c_law => k_is)
    (case kk_law => k_is)
#print axioms PySem.Challenge.cw_staytallies_k04_whole_extremes_holds
