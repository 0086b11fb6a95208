import PyProof.Rows.All
import Wide.All
import OpenK.AllK
import Wide.FinOn
import HandS.ForMost
import HandS.ForExc
import HandS.Wide
import HandS.Property
import HandS.IsInst
import HandS.TupAny
import HandS.TupLe
import HandS.Style
import HandS.Flow
import HandS.ExcInit
import HandS.ExcField
import HandS.FStr
import HandS.OwnEq
import KE.GoesMore
import HandS.Codes
import HandS.DictComp
import HandS.Walk
import HandS.SortInts
import HandS.TupMul
import HandS.Gcd
import HandS.Head3
import HandS.HeadHook2
import HandS.SetKeys
import HandS.Deep
import PySem.Challenge.RW_staytallies_k25_whole_mends
set_option Elab.async false
set_option linter.all false
set_option maxRecDepth 100000
set_option maxHeartbeats 4000000
namespace Sv
open PySem L2
def top (i : Nat) : Stmt := PySem.Challenge.pw_staytallies_k25_whole_mends.main.body.getD i (.Pass ⟨0, 0, 0, 0⟩)
abbrev s_led_to : Stmt := (top 11)
abbrev s_longer_rows : Stmt := (top 12)
abbrev s_improved : Stmt := (top 13)
abbrev s_best_rows : Stmt := (top 14)
abbrev s_best_of : Stmt := (top 15)
abbrev s_least_and_greatest : Stmt := (top 16)
abbrev s_Machine_init : Stmt := (inClass (top 21) 0)
abbrev s_Machine_stands : Stmt := (inClass (top 21) 1)
abbrev s_Machine_steps : Stmt := (inClass (top 21) 2)
abbrev s_is_whole_number : Stmt := (top 22)
abbrev s_is_integer_between : Stmt := (top 23)
abbrev s_is_stand : Stmt := (top 24)
abbrev s_check_stands : Stmt := (top 25)
abbrev s_is_step : Stmt := (top 26)
abbrev s_check_steps : Stmt := (top 27)
abbrev s_is_ascending : Stmt := (top 29)
abbrev s_check_ends : Stmt := (top 30)
abbrev s_check_machine : Stmt := (top 31)
abbrev s_reached : Stmt := (top 32)
abbrev s_check_steps_mends : Stmt := (top 35)
abbrev s_places_on_loops : Stmt := (top 37)
abbrev s_spread : Stmt := (top 38)
abbrev s_numbers : Stmt := (top 39)
abbrev s_numbers_without : Stmt := (top 40)
abbrev s_sets_that_mend : Stmt := (top 41)
abbrev s_mends : Stmt := (top 42)
abbrev s_mended : Stmt := (top 43)
abbrev s_bounds : Stmt := (top 45)
abbrev s_law_taken : Stmt := (top 47)
abbrev s_law_parts : Stmt := (top 48)
abbrev s_law_machine : Stmt := (top 49)
abbrev s_law_next : Stmt := (top 50)
abbrev s_law_reached : Stmt := (top 51)
abbrev s_law_inner : Stmt := (top 52)
abbrev s_law_level : Stmt := (top 53)
abbrev s_law_subsets : Stmt := (top 54)
abbrev s_law_few : Stmt := (top 55)
abbrev s_law : Stmt := (top 56)
theorem sc_led_to : FnScope ["steps", "begins", "found", "waiting", "stand", "begun", "_", "end"] ["steps", "begins"] (defScope s_led_to) := ⟨rfl, rfl, rfl, by decide +kernel, rfl, by decide +kernel, by decide +kernel⟩
theorem sc_longer_rows : FnScope ["steps", "sign", "rows", "longer", "begun", "letter", "end", "gain", "tally", "row"] ["steps", "sign", "rows"] (defScope s_longer_rows) := ⟨rfl, rfl, rfl, by decide +kernel, rfl, by decide +kernel, by decide +kernel⟩
theorem sc_improved : FnScope ["rows", "best", "stand"] ["rows", "best"] (defScope s_improved) := ⟨rfl, rfl, rfl, by decide +kernel, rfl, by decide +kernel, by decide +kernel⟩
theorem sc_best_rows : FnScope ["many", "steps", "sign", "best", "rows", "_", "improved", "stand", "endless"] ["many", "steps", "sign"] (defScope s_best_rows) := ⟨rfl, rfl, rfl, by decide +kernel, rfl, by decide +kernel, by decide +kernel⟩
theorem sc_best_of : FnScope ["many", "steps", "sign", "stands", "best", "tallies", "stand"] ["many", "steps", "sign", "stands"] (defScope s_best_of) := ⟨rfl, rfl, rfl, by decide +kernel, rfl, by decide +kernel, by decide +kernel⟩
theorem sc_least_and_greatest : FnScope ["many", "steps", "stands"] ["many", "steps", "stands"] (defScope s_least_and_greatest) := ⟨rfl, rfl, rfl, by decide +kernel, rfl, by decide +kernel, by decide +kernel⟩
theorem sc_Machine_init : FnScope ["self", "stands", "steps", "ends"] ["self", "stands", "steps", "ends"] (defScope s_Machine_init) := ⟨rfl, rfl, rfl, by decide +kernel, rfl, by decide +kernel, by decide +kernel⟩
theorem sc_Machine_stands : FnScope ["self"] ["self"] (defScope s_Machine_stands) := ⟨rfl, rfl, rfl, by decide +kernel, rfl, by decide +kernel, by decide +kernel⟩
theorem sc_Machine_steps : FnScope ["self"] ["self"] (defScope s_Machine_steps) := ⟨rfl, rfl, rfl, by decide +kernel, rfl, by decide +kernel, by decide +kernel⟩
theorem sc_is_whole_number : FnScope ["value"] ["value"] (defScope s_is_whole_number) := ⟨rfl, rfl, rfl, by decide +kernel, rfl, by decide +kernel, by decide +kernel⟩
theorem sc_is_integer_between : FnScope ["value", "least", "most"] ["value", "least", "most"] (defScope s_is_integer_between) := ⟨rfl, rfl, rfl, by decide +kernel, rfl, by decide +kernel, by decide +kernel⟩
theorem sc_is_stand : FnScope ["stands", "value"] ["stands", "value"] (defScope s_is_stand) := ⟨rfl, rfl, rfl, by decide +kernel, rfl, by decide +kernel, by decide +kernel⟩
theorem sc_check_stands : FnScope ["stands"] ["stands"] (defScope s_check_stands) := ⟨rfl, rfl, rfl, by decide +kernel, rfl, by decide +kernel, by decide +kernel⟩
theorem sc_is_step : FnScope ["stands", "value", "begun", "letter", "end", "gain"] ["stands", "value"] (defScope s_is_step) := ⟨rfl, rfl, rfl, by decide +kernel, rfl, by decide +kernel, by decide +kernel⟩
theorem sc_check_steps : FnScope ["stands", "steps", "index", "step"] ["stands", "steps"] (defScope s_check_steps) := ⟨rfl, rfl, rfl, by decide +kernel, rfl, by decide +kernel, by decide +kernel⟩
theorem sc_is_ascending : FnScope ["value", "many", "least", "number"] ["value", "many"] (defScope s_is_ascending) := ⟨rfl, rfl, rfl, by decide +kernel, rfl, by decide +kernel, by decide +kernel⟩
theorem sc_check_ends : FnScope ["stands", "ends"] ["stands", "ends"] (defScope s_check_ends) := ⟨rfl, rfl, rfl, by decide +kernel, rfl, by decide +kernel, by decide +kernel⟩
theorem sc_check_machine : FnScope ["value"] ["value"] (defScope s_check_machine) := ⟨rfl, rfl, rfl, by decide +kernel, rfl, by decide +kernel, by decide +kernel⟩
theorem sc_reached : FnScope ["machine"] ["machine"] (defScope s_reached) := ⟨rfl, rfl, rfl, by decide +kernel, rfl, by decide +kernel, by decide +kernel⟩
theorem sc_check_steps_mends : FnScope ["machine"] ["machine"] (defScope s_check_steps_mends) := ⟨rfl, rfl, rfl, by decide +kernel, rfl, by decide +kernel, by decide +kernel⟩
theorem sc_places_on_loops : FnScope ["machine", "stands", "place", "begun", "_", "end"] ["machine"] (defScope s_places_on_loops) := ⟨rfl, rfl, rfl, by decide +kernel, rfl, by decide +kernel, by decide +kernel⟩
theorem sc_spread : FnScope ["numbers", "steps", "_", "begun", "end", "gain"] ["numbers", "steps"] (defScope s_spread) := ⟨rfl, rfl, rfl, by decide +kernel, rfl, by decide +kernel, by decide +kernel⟩
theorem sc_numbers : FnScope ["many", "steps", "numbers", "stand", "begun", "_", "end", "gain"] ["many", "steps"] (defScope s_numbers) := ⟨rfl, rfl, rfl, by decide +kernel, rfl, by decide +kernel, by decide +kernel⟩
theorem sc_numbers_without : FnScope ["machine", "places", "some", "place"] ["machine", "places", "some"] (defScope s_numbers_without) := ⟨rfl, rfl, rfl, by decide +kernel, rfl, by decide +kernel, by decide +kernel⟩
theorem sc_sets_that_mend : FnScope ["machine", "places", "many", "some"] ["machine", "places", "many"] (defScope s_sets_that_mend) := ⟨rfl, rfl, rfl, by decide +kernel, rfl, by decide +kernel, by decide +kernel⟩
theorem sc_mends : FnScope ["machine", "places", "many", "found"] ["machine"] (defScope s_mends) := ⟨rfl, rfl, rfl, by decide +kernel, rfl, by decide +kernel, by decide +kernel⟩
theorem sc_mended : FnScope ["machine", "some", "numbers", "place", "begun", "letter", "end", "gain"] ["machine", "some"] (defScope s_mended) := ⟨rfl, rfl, rfl, by decide +kernel, rfl, by decide +kernel, by decide +kernel⟩
theorem sc_bounds : FnScope ["machine"] ["machine"] (defScope s_bounds) := ⟨rfl, rfl, rfl, by decide +kernel, rfl, by decide +kernel, by decide +kernel⟩
theorem sc_law_taken : FnScope ["_law_row", "_law_many", "_law_found", "_law_cell"] ["_law_row", "_law_many"] (defScope s_law_taken) := ⟨rfl, rfl, rfl, by decide +kernel, rfl, by decide +kernel, by decide +kernel⟩
theorem sc_law_parts : FnScope ["_law_row", "_law_stands", "_law_size", "_law_many", "_law_kind", "_law_heights", "_law_steps", "_law_letters", "_law_begun", "_law_letter", "_law_end", "_law_gain", "_law_ends", "_law_stand"] ["_law_row", "_law_stands", "_law_size"] (defScope s_law_parts) := ⟨rfl, rfl, rfl, by decide +kernel, rfl, by decide +kernel, by decide +kernel⟩
theorem sc_law_machine : FnScope ["_law_d"] ["_law_d"] (defScope s_law_machine) := ⟨rfl, rfl, rfl, by decide +kernel, rfl, by decide +kernel, by decide +kernel⟩
theorem sc_law_next : FnScope ["_law_d", "_law_stand", "_law_begun", "_law_letter", "_law_end", "_law_gain"] ["_law_d", "_law_stand"] (defScope s_law_next) := ⟨rfl, rfl, rfl, by decide +kernel, rfl, by decide +kernel, by decide +kernel⟩
theorem sc_law_reached : FnScope ["_law_d", "_law_found", "_law_stand", "_law_here", "_law_letter", "_law_end", "_law_gain"] ["_law_d"] (defScope s_law_reached) := ⟨rfl, rfl, rfl, by decide +kernel, rfl, by decide +kernel, by decide +kernel⟩
theorem sc_law_inner : FnScope ["_law_d", "_law_stands", "_law_found", "_law_at", "_law_begun", "_law_letter", "_law_end", "_law_gain", "_law_seen", "_law_turn", "_law_here", "_law_sign", "_law_there", "_law_more"] ["_law_d"] (defScope s_law_inner) := ⟨rfl, rfl, rfl, by decide +kernel, rfl, by decide +kernel, by decide +kernel⟩
theorem sc_law_level : FnScope ["_law_d", "_law_places", "_law_heights", "_law_first", "_law_turn", "_law_at", "_law_begun", "_law_letter", "_law_end", "_law_gain"] ["_law_d", "_law_places"] (defScope s_law_level) := ⟨rfl, rfl, rfl, by decide +kernel, rfl, by decide +kernel, by decide +kernel⟩
theorem sc_law_subsets : FnScope ["_law_things", "_law_size", "_law_found", "_law_turn", "_law_longer", "_law_some", "_law_one"] ["_law_things", "_law_size"] (defScope s_law_subsets) := ⟨rfl, rfl, rfl, by decide +kernel, rfl, by decide +kernel, by decide +kernel⟩
theorem sc_law_few : FnScope ["_law_row", "_law_size", "_law_d"] ["_law_row", "_law_size"] (defScope s_law_few) := ⟨rfl, rfl, rfl, by decide +kernel, rfl, by decide +kernel, by decide +kernel⟩
theorem sc_law : FnScope ["_law_script", "_law_row", "_law_d", "_law_machine_here", "_law_inner_here", "_law_due", "_law_size", "_law_some", "_law_turn", "_law_steps", "_law_at", "_law_other"] ["_law_script"] (defScope s_law) := ⟨rfl, rfl, rfl, by decide +kernel, rfl, by decide +kernel, by decide +kernel⟩
structure Txt (K : PySem.W.Frag) (mg : Str → Option Value) : Type where
  a_led_to : Addr
  fd_led_to : FuncData
  F_led_to : Fun K "led_to" "led_to" s_led_to a_led_to fd_led_to
  b_led_to : Binds K fd_led_to ["steps", "begins"] []
  k_led_to : PySem.W.keepIn K (.ref a_led_to) = true
  m_led_to : mg "led_to" = some (.ref a_led_to)
  a_longer_rows : Addr
  fd_longer_rows : FuncData
  F_longer_rows : Fun K "longer_rows" "longer_rows" s_longer_rows a_longer_rows fd_longer_rows
  b_longer_rows : Binds K fd_longer_rows ["steps", "sign", "rows"] []
  k_longer_rows : PySem.W.keepIn K (.ref a_longer_rows) = true
  m_longer_rows : mg "longer_rows" = some (.ref a_longer_rows)
  a_improved : Addr
  fd_improved : FuncData
  F_improved : Fun K "_improved" "_improved" s_improved a_improved fd_improved
  b_improved : Binds K fd_improved ["rows", "best"] []
  k_improved : PySem.W.keepIn K (.ref a_improved) = true
  m_improved : mg "_improved" = some (.ref a_improved)
  a_best_rows : Addr
  fd_best_rows : FuncData
  F_best_rows : Fun K "best_rows" "best_rows" s_best_rows a_best_rows fd_best_rows
  b_best_rows : Binds K fd_best_rows ["many", "steps", "sign"] []
  k_best_rows : PySem.W.keepIn K (.ref a_best_rows) = true
  m_best_rows : mg "best_rows" = some (.ref a_best_rows)
  a_best_of : Addr
  fd_best_of : FuncData
  F_best_of : Fun K "_best_of" "_best_of" s_best_of a_best_of fd_best_of
  b_best_of : Binds K fd_best_of ["many", "steps", "sign", "stands"] []
  k_best_of : PySem.W.keepIn K (.ref a_best_of) = true
  m_best_of : mg "_best_of" = some (.ref a_best_of)
  a_least_and_greatest : Addr
  fd_least_and_greatest : FuncData
  F_least_and_greatest : Fun K "least_and_greatest" "least_and_greatest" s_least_and_greatest a_least_and_greatest fd_least_and_greatest
  b_least_and_greatest : Binds K fd_least_and_greatest ["many", "steps", "stands"] []
  k_least_and_greatest : PySem.W.keepIn K (.ref a_least_and_greatest) = true
  m_least_and_greatest : mg "least_and_greatest" = some (.ref a_least_and_greatest)
  a_Machine_init : Addr
  fd_Machine_init : FuncData
  F_Machine_init : Fun K "__init__" "Machine.__init__" s_Machine_init a_Machine_init fd_Machine_init
  b_Machine_init : Binds K fd_Machine_init ["self", "stands", "steps", "ends"] []
  k_Machine_init : PySem.W.keepIn K (.ref a_Machine_init) = true
  a_Machine_stands : Addr
  fd_Machine_stands : FuncData
  F_Machine_stands : Fun K "stands" "Machine.stands" s_Machine_stands a_Machine_stands fd_Machine_stands
  b_Machine_stands : Binds K fd_Machine_stands ["self"] []
  k_Machine_stands : PySem.W.keepIn K (.ref a_Machine_stands) = true
  a_Machine_steps : Addr
  fd_Machine_steps : FuncData
  F_Machine_steps : Fun K "steps" "Machine.steps" s_Machine_steps a_Machine_steps fd_Machine_steps
  b_Machine_steps : Binds K fd_Machine_steps ["self"] []
  k_Machine_steps : PySem.W.keepIn K (.ref a_Machine_steps) = true
  a_is_whole_number : Addr
  fd_is_whole_number : FuncData
  F_is_whole_number : Fun K "is_whole_number" "is_whole_number" s_is_whole_number a_is_whole_number fd_is_whole_number
  b_is_whole_number : Binds K fd_is_whole_number ["value"] []
  k_is_whole_number : PySem.W.keepIn K (.ref a_is_whole_number) = true
  m_is_whole_number : mg "is_whole_number" = some (.ref a_is_whole_number)
  a_is_integer_between : Addr
  fd_is_integer_between : FuncData
  F_is_integer_between : Fun K "is_integer_between" "is_integer_between" s_is_integer_between a_is_integer_between fd_is_integer_between
  b_is_integer_between : Binds K fd_is_integer_between ["value", "least", "most"] []
  k_is_integer_between : PySem.W.keepIn K (.ref a_is_integer_between) = true
  m_is_integer_between : mg "is_integer_between" = some (.ref a_is_integer_between)
  a_is_stand : Addr
  fd_is_stand : FuncData
  F_is_stand : Fun K "_is_stand" "_is_stand" s_is_stand a_is_stand fd_is_stand
  b_is_stand : Binds K fd_is_stand ["stands", "value"] []
  k_is_stand : PySem.W.keepIn K (.ref a_is_stand) = true
  m_is_stand : mg "_is_stand" = some (.ref a_is_stand)
  a_check_stands : Addr
  fd_check_stands : FuncData
  F_check_stands : Fun K "_check_stands" "_check_stands" s_check_stands a_check_stands fd_check_stands
  b_check_stands : Binds K fd_check_stands ["stands"] []
  k_check_stands : PySem.W.keepIn K (.ref a_check_stands) = true
  m_check_stands : mg "_check_stands" = some (.ref a_check_stands)
  a_is_step : Addr
  fd_is_step : FuncData
  F_is_step : Fun K "_is_step" "_is_step" s_is_step a_is_step fd_is_step
  b_is_step : Binds K fd_is_step ["stands", "value"] []
  k_is_step : PySem.W.keepIn K (.ref a_is_step) = true
  m_is_step : mg "_is_step" = some (.ref a_is_step)
  a_check_steps : Addr
  fd_check_steps : FuncData
  F_check_steps : Fun K "_check_steps" "_check_steps" s_check_steps a_check_steps fd_check_steps
  b_check_steps : Binds K fd_check_steps ["stands", "steps"] []
  k_check_steps : PySem.W.keepIn K (.ref a_check_steps) = true
  m_check_steps : mg "check_steps_machines" = some (.ref a_check_steps)
  a_is_ascending : Addr
  fd_is_ascending : FuncData
  F_is_ascending : Fun K "is_ascending" "is_ascending" s_is_ascending a_is_ascending fd_is_ascending
  b_is_ascending : Binds K fd_is_ascending ["value", "many"] []
  k_is_ascending : PySem.W.keepIn K (.ref a_is_ascending) = true
  m_is_ascending : mg "is_ascending" = some (.ref a_is_ascending)
  a_check_ends : Addr
  fd_check_ends : FuncData
  F_check_ends : Fun K "_check_ends" "_check_ends" s_check_ends a_check_ends fd_check_ends
  b_check_ends : Binds K fd_check_ends ["stands", "ends"] []
  k_check_ends : PySem.W.keepIn K (.ref a_check_ends) = true
  m_check_ends : mg "_check_ends" = some (.ref a_check_ends)
  a_check_machine : Addr
  fd_check_machine : FuncData
  F_check_machine : Fun K "check_machine" "check_machine" s_check_machine a_check_machine fd_check_machine
  b_check_machine : Binds K fd_check_machine ["value"] []
  k_check_machine : PySem.W.keepIn K (.ref a_check_machine) = true
  m_check_machine : mg "check_machine" = some (.ref a_check_machine)
  a_reached : Addr
  fd_reached : FuncData
  F_reached : Fun K "reached" "reached" s_reached a_reached fd_reached
  b_reached : Binds K fd_reached ["machine"] []
  k_reached : PySem.W.keepIn K (.ref a_reached) = true
  m_reached : mg "reached" = some (.ref a_reached)
  a_check_steps_mends : Addr
  fd_check_steps_mends : FuncData
  F_check_steps_mends : Fun K "_check_steps" "_check_steps" s_check_steps_mends a_check_steps_mends fd_check_steps_mends
  b_check_steps_mends : Binds K fd_check_steps_mends ["machine"] []
  k_check_steps_mends : PySem.W.keepIn K (.ref a_check_steps_mends) = true
  m_check_steps_mends : mg "check_steps_mends" = some (.ref a_check_steps_mends)
  a_places_on_loops : Addr
  fd_places_on_loops : FuncData
  F_places_on_loops : Fun K "_places_on_loops" "_places_on_loops" s_places_on_loops a_places_on_loops fd_places_on_loops
  b_places_on_loops : Binds K fd_places_on_loops ["machine"] []
  k_places_on_loops : PySem.W.keepIn K (.ref a_places_on_loops) = true
  m_places_on_loops : mg "_places_on_loops" = some (.ref a_places_on_loops)
  a_spread : Addr
  fd_spread : FuncData
  F_spread : Fun K "_spread" "_spread" s_spread a_spread fd_spread
  b_spread : Binds K fd_spread ["numbers", "steps"] []
  k_spread : PySem.W.keepIn K (.ref a_spread) = true
  m_spread : mg "_spread" = some (.ref a_spread)
  a_numbers : Addr
  fd_numbers : FuncData
  F_numbers : Fun K "_numbers" "_numbers" s_numbers a_numbers fd_numbers
  b_numbers : Binds K fd_numbers ["many", "steps"] []
  k_numbers : PySem.W.keepIn K (.ref a_numbers) = true
  m_numbers : mg "_numbers" = some (.ref a_numbers)
  a_numbers_without : Addr
  fd_numbers_without : FuncData
  F_numbers_without : Fun K "_numbers_without" "_numbers_without" s_numbers_without a_numbers_without fd_numbers_without
  b_numbers_without : Binds K fd_numbers_without ["machine", "places", "some"] []
  k_numbers_without : PySem.W.keepIn K (.ref a_numbers_without) = true
  m_numbers_without : mg "_numbers_without" = some (.ref a_numbers_without)
  a_sets_that_mend : Addr
  fd_sets_that_mend : FuncData
  F_sets_that_mend : Fun K "_sets_that_mend" "_sets_that_mend" s_sets_that_mend a_sets_that_mend fd_sets_that_mend
  b_sets_that_mend : Binds K fd_sets_that_mend ["machine", "places", "many"] []
  k_sets_that_mend : PySem.W.keepIn K (.ref a_sets_that_mend) = true
  m_sets_that_mend : mg "_sets_that_mend" = some (.ref a_sets_that_mend)
  a_mends : Addr
  fd_mends : FuncData
  F_mends : Fun K "mends" "mends" s_mends a_mends fd_mends
  b_mends : Binds K fd_mends ["machine"] []
  k_mends : PySem.W.keepIn K (.ref a_mends) = true
  m_mends : mg "mends" = some (.ref a_mends)
  a_mended : Addr
  fd_mended : FuncData
  F_mended : Fun K "mended" "mended" s_mended a_mended fd_mended
  b_mended : Binds K fd_mended ["machine", "some"] []
  k_mended : PySem.W.keepIn K (.ref a_mended) = true
  m_mended : mg "mended" = some (.ref a_mended)
  a_bounds : Addr
  fd_bounds : FuncData
  F_bounds : Fun K "bounds" "bounds" s_bounds a_bounds fd_bounds
  b_bounds : Binds K fd_bounds ["machine"] []
  k_bounds : PySem.W.keepIn K (.ref a_bounds) = true
  m_bounds : mg "bounds" = some (.ref a_bounds)
  a_law_taken : Addr
  fd_law_taken : FuncData
  F_law_taken : Fun K "_law_taken" "_law_taken" s_law_taken a_law_taken fd_law_taken
  b_law_taken : Binds K fd_law_taken ["_law_row", "_law_many"] []
  k_law_taken : PySem.W.keepIn K (.ref a_law_taken) = true
  m_law_taken : mg "_law_taken" = some (.ref a_law_taken)
  a_law_parts : Addr
  fd_law_parts : FuncData
  F_law_parts : Fun K "_law_parts" "_law_parts" s_law_parts a_law_parts fd_law_parts
  b_law_parts : Binds K fd_law_parts ["_law_row", "_law_stands", "_law_size"] []
  k_law_parts : PySem.W.keepIn K (.ref a_law_parts) = true
  m_law_parts : mg "_law_parts" = some (.ref a_law_parts)
  a_law_machine : Addr
  fd_law_machine : FuncData
  F_law_machine : Fun K "_law_machine" "_law_machine" s_law_machine a_law_machine fd_law_machine
  b_law_machine : Binds K fd_law_machine ["_law_d"] []
  k_law_machine : PySem.W.keepIn K (.ref a_law_machine) = true
  m_law_machine : mg "_law_machine" = some (.ref a_law_machine)
  a_law_next : Addr
  fd_law_next : FuncData
  F_law_next : Fun K "_law_next" "_law_next" s_law_next a_law_next fd_law_next
  b_law_next : Binds K fd_law_next ["_law_d", "_law_stand"] []
  k_law_next : PySem.W.keepIn K (.ref a_law_next) = true
  m_law_next : mg "_law_next" = some (.ref a_law_next)
  a_law_reached : Addr
  fd_law_reached : FuncData
  F_law_reached : Fun K "_law_reached" "_law_reached" s_law_reached a_law_reached fd_law_reached
  b_law_reached : Binds K fd_law_reached ["_law_d"] []
  k_law_reached : PySem.W.keepIn K (.ref a_law_reached) = true
  m_law_reached : mg "_law_reached" = some (.ref a_law_reached)
  a_law_inner : Addr
  fd_law_inner : FuncData
  F_law_inner : Fun K "_law_inner" "_law_inner" s_law_inner a_law_inner fd_law_inner
  b_law_inner : Binds K fd_law_inner ["_law_d"] []
  k_law_inner : PySem.W.keepIn K (.ref a_law_inner) = true
  m_law_inner : mg "_law_inner" = some (.ref a_law_inner)
  a_law_level : Addr
  fd_law_level : FuncData
  F_law_level : Fun K "_law_level" "_law_level" s_law_level a_law_level fd_law_level
  b_law_level : Binds K fd_law_level ["_law_d", "_law_places"] []
  k_law_level : PySem.W.keepIn K (.ref a_law_level) = true
  m_law_level : mg "_law_level" = some (.ref a_law_level)
  a_law_subsets : Addr
  fd_law_subsets : FuncData
  F_law_subsets : Fun K "_law_subsets" "_law_subsets" s_law_subsets a_law_subsets fd_law_subsets
  b_law_subsets : Binds K fd_law_subsets ["_law_things", "_law_size"] []
  k_law_subsets : PySem.W.keepIn K (.ref a_law_subsets) = true
  m_law_subsets : mg "_law_subsets" = some (.ref a_law_subsets)
  a_law_few : Addr
  fd_law_few : FuncData
  F_law_few : Fun K "_law_few" "_law_few" s_law_few a_law_few fd_law_few
  b_law_few : Binds K fd_law_few ["_law_row", "_law_size"] []
  k_law_few : PySem.W.keepIn K (.ref a_law_few) = true
  m_law_few : mg "_law_few" = some (.ref a_law_few)
  a_law : Addr
  fd_law : FuncData
  F_law : Fun K "law" "law" s_law a_law fd_law
  b_law : Binds K fd_law ["_law_script"] []
  k_law : PySem.W.keepIn K (.ref a_law) = true
  m_law : mg "law" = some (.ref a_law)
  c_Machine : Addr
  cl_Machine : Cls K c_Machine
  m_Machine : mg "Machine" = some (.ref c_Machine)
  mk_Machine : Mk K c_Machine a_Machine_init
  n__stands : NoAttr K c_Machine "_stands"
  n__steps : NoAttr K c_Machine "_steps"
  n__ends : NoAttr K c_Machine "_ends"
  q_stands : Addr
  p_stands : PropOf K c_Machine "stands" q_stands a_Machine_stands
  q_steps : Addr
  p_steps : PropOf K c_Machine "steps" q_steps a_Machine_steps
  i1_Machine : PySem.W.findIn K (.ref c_Machine) "__class__" = some (some (.builtin "object.__class__"))
  i2_Machine : PySem.W.specialIn K (.builtin "object.__class__") "__get__" = some (some (.builtin "getset_descriptor.__get__"))
  i3_Machine : PySem.W.takesIn K (.builtin "object.__class__") = some true
  i4_Machine : PySem.W.mroIn K c_Machine (.type "object") = some true
  u_MOST_STANDS : Value
  m_MOST_STANDS : mg "MOST_STANDS" = some u_MOST_STANDS
  r_MOST_STANDS : RelV (V.int 8) u_MOST_STANDS
  u_MOST_GAIN : Value
  m_MOST_GAIN : mg "MOST_GAIN" = some u_MOST_GAIN
  r_MOST_GAIN : RelV (V.int 1000000000000000000000000000000) u_MOST_GAIN
  a_LETTERS : Addr
  m_LETTERS : mg "LETTERS" = some (.ref a_LETTERS)
  r_LETTERS : RelV (V.ref a_LETTERS) (.ref a_LETTERS)
  s_LETTERS : ∀ H : Hp, SqT K H a_LETTERS [V.str "a", V.str "b", V.str "c", V.str "d"]
  u_ENDLESS : Value
  m_ENDLESS : mg "ENDLESS" = some u_ENDLESS
  r_ENDLESS : RelV (V.str "endless") u_ENDLESS
  u_MOST_STEPS : Value
  m_MOST_STEPS : mg "MOST_STEPS" = some u_MOST_STEPS
  r_MOST_STEPS : RelV (V.int 12) u_MOST_STEPS
  m_combinations : mg "combinations" = some (.type "itertools.combinations")
  z_all : mg "all" = none
  z_bool : mg "bool" = none
  z_enumerate : mg "enumerate" = none
  z_int : mg "int" = none
  z_isinstance : mg "isinstance" = none
  z_len : mg "len" = none
  z_list : mg "list" = none
  z_max : mg "max" = none
  z_range : mg "range" = none
  z_sorted : mg "sorted" = none
  z_str : mg "str" = none
  z_tuple : mg "tuple" = none
  bs_law : ∀ (s : Shared) (v : Value), BindsTo s fd_law ⟨[v], []⟩ [("_law_script", v)]
/-! ### heaps -/
/-- all but a stands as it was -/
def Keep (a : Addr) (H H' : Hp) : Prop := ∀ b o, b ≠ a → H b = some o → H' b = some o
theorem Keep.refl (a : Addr) (H : Hp) : Keep a H H := fun _ _ _ h => h
theorem Keep.trans {a : Addr} {H H1 H2 : Hp} (x : Keep a H H1) (y : Keep a H1 H2) : Keep a H H2 := fun b o n h => y b o n (x b o n h)
theorem Keep.at_ {a : Addr} {H : Hp} {o : HO} : Keep a H (upd H a o) := fun b u n h => by rw [upd_ne n]; exact h
theorem Keep.new {a p : Addr} {H : Hp} {o : HO} (hp : H p = none) : Keep a H (upd H p o) := fun b u _ h => by rw [upd_ne (ne_of_none h hp)]; exact h
theorem Keep.of_same {a : Addr} {H H' : Hp} (x : Same H H') : Keep a H H' := fun b o _ h => x b o h
theorem Same.new {p : Addr} {H : Hp} {o : HO} (hp : H p = none) : Same H (upd H p o) := fun b u h => by rw [upd_ne (ne_of_none h hp)]; exact h
theorem Keep.free {a p : Addr} {H H' : Hp} (x : Keep a H H') (n : p ≠ a) (h : H' p = none) : H p = none := by
  cases q : H p with
  | none => rfl
  | some o => rw [x p o n q] at h; cases h
/-- what H does not know may change -/
theorem Keep.mut {a p : Addr} {H H' : Hp} {o : HO} (x : Keep a H H') (hp : H p = none) : Keep a H (upd H' p o) := fun b u n h => by rw [upd_ne (ne_of_none h hp)]; exact x b u n h
theorem Keep.tup {K : PySem.W.Frag} {a b : Addr} {H H' : Hp} {xs : List V} (x : Keep a H H') (ha : ∃ l, H a = some (.lst l)) (h : SqT K H b xs) : SqT K H' b xs := by
  obtain ⟨l, ha⟩ := ha
  rcases h with (h | ⟨o, h⟩) | h
  · exact .inl (.inl (x _ _ (fun e => by rw [e, ha] at h; cases h) h))
  · exact .inl (.inr ⟨o, x _ _ (fun e => by rw [e, ha] at h; cases h) h⟩)
  · exact .inr h
theorem Keep.lst {K : PySem.W.Frag} {a b : Addr} {H H' : Hp} {xs : List V} (x : Keep a H H') (n : b ≠ a) (h : SqL K H b xs) : SqL K H' b xs := by
  rcases h with (h | ⟨o, h⟩) | h
  · exact .inl (.inl (x _ _ n h))
  · exact .inl (.inr ⟨o, x _ _ n h⟩)
  · exact .inr h
/-- the script: known to the object, or of the written part -/
def ScAt (K : PySem.W.Frag) (H : Hp) (b : Addr) (xs : List V) : Prop := (∃ o, H b = some (.frz o (.lst xs))) ∨ ∀ H', SqL K H' b xs
theorem ScAt.sq {K : PySem.W.Frag} {H : Hp} {b : Addr} {xs : List V} (h : ScAt K H b xs) : SqL K H b xs := by
  rcases h with ⟨o, h⟩ | h
  · exact .inl (.inr ⟨o, h⟩)
  · exact h H
theorem ScAt.keep {K : PySem.W.Frag} {a b : Addr} {H H' : Hp} {xs l : List V} (h : ScAt K H b xs) (k : Keep a H H') (ha : H a = some (.lst l)) : ScAt K H' b xs := by
  rcases h with ⟨o, h⟩ | h
  · exact .inl ⟨o, k _ _ (fun z => by rw [z, ha] at h; cases h) h⟩
  · exact .inr h
theorem ScAt.same {K : PySem.W.Frag} {b : Addr} {H H' : Hp} {xs : List V} (h : ScAt K H b xs) (k : Same H H') : ScAt K H' b xs := by
  rcases h with ⟨o, h⟩ | h
  · exact .inl ⟨o, k _ _ h⟩
  · exact .inr h
/-- the draws' row at a: the script, how many were read, the mixed number, the rest -/
def RowOk (K : PySem.W.Frag) (H : Hp) (a : Addr) : Prop := ∃ (sc : Addr) (ns : List Int) (i z r : Int), H a = some (.lst [.ref sc, .int i, .int z, .int r]) ∧ ScAt K H sc (ns.map V.int) ∧ ns.length ≤ 63 ∧ 0 ≤ i ∧ 0 ≤ z ∧ z < 2147483647
theorem RowOk.lst {K : PySem.W.Frag} {H : Hp} {a : Addr} (h : RowOk K H a) : ∃ l, H a = some (.lst l) := by
  obtain ⟨_, _, _, _, _, e, _⟩ := h; exact ⟨_, e⟩
/-- behind a step that leaves the row and the script as they were -/
theorem RowOk.same {K : PySem.W.Frag} {H H' : Hp} {a : Addr} (h : RowOk K H a) (s : Same H H') : RowOk K H' a := by
  obtain ⟨sc, ns, i, z, r, e, q, rest⟩ := h
  exact ⟨sc, ns, i, z, r, s _ _ e, q.same s, rest⟩
theorem RowOk.keep {K : PySem.W.Frag} {H H' : Hp} {a l : Addr} {xs : List V} (h : RowOk K H a) (n : a ≠ l) (e : H l = some (.lst xs)) (k : Keep l H H') : RowOk K H' a := by
  obtain ⟨sc, is, i, z, r, ea, q, rest⟩ := h
  exact ⟨sc, is, i, z, r, k _ _ n ea, q.keep k e, rest⟩
theorem RowOk.ne {K : PySem.W.Frag} {H : Hp} {a p : Addr} (h : RowOk K H a) (e : H p = none) : a ≠ p := by
  obtain ⟨l, q⟩ := h.lst
  exact ne_of_none q e
theorem tupl_upd {H : Hp} {F x : Addr} {o : HO} {ys : List V} (hF : ∀ xs, H F ≠ some (.tup xs)) (h : H x = some (.tup ys)) : (upd H F o) x = some (.tup ys) := by
  rw [upd_ne (fun e => hF ys (by rw [← e]; exact h))]
  exact h
theorem free_of {H H' : Hp} {q : Addr} (z : Same H H') (hq : H' q = none) : H q = none := by
  cases e : H q with
  | none => rfl
  | some ob => rw [z _ _ e] at hq; cases hq
theorem unlock_same {H2 H' : Hp} {e : Addr} {od : _} {kvs : List (Key × V)} (he : H2 e = some (.dK kvs)) (z : Same (upd H2 e (.frz od (.dK kvs))) H') : Same H2 (upd H' e (.dK kvs)) := fun b o eb => by
  by_cases c : b = e
  · rw [c, he] at eb
    rw [c, upd_same]
    exact eb
  · rw [upd_ne c]
    exact z _ _ (by rw [upd_ne c]; exact eb)
/-! ### steps: one a combinator -/
section
variable {K : PySem.W.Frag} {σ : L2.St} {H : Hp} {D : Ends} {Q : VK}
theorem k_seq {t u : TS} (h : t { D with nx := u D } σ H) : tSeq t u D σ H := h
theorem k_ifS {c : TT} {t u : TS} (h : c σ H fun b H1 => if b = true then t D σ H1 else u D σ H1) : tIfS c t u D σ H := h
theorem k_asg {te : TE} {g : TG} (h : te σ H fun x H1 => g x σ H1 D.nx) : tAsg te g D σ H := h
theorem k_ret {te : TE} (h : te σ H D.rt) : tRet te D σ H := h
theorem k_retN (h : D.rt .non H) : tRetN D σ H := h
theorem k_next (h : D.nx σ H) : tNext D σ H := h
theorem k_cont (h : D.ct σ H) : tCont D σ H := h
theorem k_break (h : D.bk σ H) : tBreak D σ H := h
theorem k_drop {te : TE} (h : te σ H fun _ H1 => D.nx σ H1) : tDrop te D σ H := h
theorem k_par {i j : Nat} {ta : TA} (h : ta σ H fun vs H1 => ∃ v w, vs = [v, w] ∧ D.nx ((σ.set i (some v)).set j (some w)) H1) : tPar i j ta D σ H := h
theorem k_two {p : V → V → Prop} {a b : V} (h : p a b) : ∃ v w, [a, b] = [v, w] ∧ p v w := ⟨a, b, rfl, h⟩
theorem k_var {i : Nat} {v : V} (e : σ[i]? = some (some v)) (h : Q v H) : tVar i σ H Q := ⟨v, e, h⟩
theorem k_c {v : V} (h : Q v H) : tC v σ H Q := h
theorem k_op {r : R2} {ta tb : TE} (h : ta σ H fun x H1 => tb σ H1 fun y H2 => r x y H2 Q) : tOp r ta tb σ H Q := h
theorem k_un {r : V → Hp → VK → Prop} {ta : TE} (h : ta σ H fun x H1 => r x H1 Q) : tUn r ta σ H Q := h
theorem k_cb {r : List V → Hp → VK → Prop} {t : TA} (h : t σ H fun vs H1 => r vs H1 Q) : tCB r t σ H Q := h
theorem k_cons {ta : TE} {tr : TA} {R : List V → Hp → Prop} (h : ta σ H fun x H1 => tr σ H1 fun xs H2 => R (x :: xs) H2) : tCons ta tr σ H R := h
theorem k_nil {R : List V → Hp → Prop} (h : R [] H) : tNil σ H R := h
theorem k_call {sp : Sp} {dvs : List V} {E : XK} {t : TA} (h : t σ H fun vs H1 => sp (vs ++ dvs) H1 Q E) : tCall sp dvs E t σ H Q := h
theorem k_make {C : Addr} {sp : Sp} {dvs : List V} {E : XK} {t : TA} (h : t σ H fun vs H1 => ∀ x dx, H1 x = none → H1 dx = none → dx ≠ x →
  sp (.ref x :: (vs ++ dvs)) (upd (upd H1 dx (.own x)) x (.ins C dx [])) (fun v H2 => v = .non ∧ Q (.ref x) H2) E) : tMake C sp dvs E t σ H Q := h
theorem k_test {t : TE} {R : Bool → Hp → Prop} (h : t σ H fun x H' => ∃ k, x = .bl k ∧ R k H') : tTest t σ H R := h
theorem k_tB {t : TE} {R : Bool → Hp → Prop} (h : t σ H fun x H' => ∃ k, x = .bl k ∧ R k H') : tB t σ H R := h
theorem k_bl {b : Bool} {R : Bool → Prop} (h : R b) : ∃ k, V.bl b = .bl k ∧ R k := ⟨b, rfl, h⟩
theorem k_and {t u : TT} {R : Bool → Hp → Prop} (h : t σ H fun c H1 => if c = true then u σ H1 R else R false H1) : tAnd t u σ H R := h
theorem k_or {t u : TT} {R : Bool → Hp → Prop} (h : t σ H fun c H1 => if c = true then R true H1 else u σ H1 R) : tOr t u σ H R := h
theorem k_not {t : TT} {R : Bool → Hp → Prop} (h : t σ H fun c H1 => R (!c) H1) : tNot t σ H R := h
theorem k_andV {ta tb : TE} (h : ta σ H fun x H1 => ∃ c, x = .bl c ∧ if c = true then tb σ H1 Q else Q (.bl false) H1) : tAndV ta tb σ H Q := h
theorem k_orV {ta tb : TE} (h : ta σ H fun x H1 => ∃ c, x = .bl c ∧ if c = true then Q (.bl true) H1 else tb σ H1 Q) : tOrV ta tb σ H Q := h
theorem k_notV {ta : TE} (h : ta σ H fun x H1 => ∃ c, x = .bl c ∧ Q (.bl (!c)) H1) : tNotV ta σ H Q := h
theorem k_ifE {t : TT} {ta tb : TE} (h : t σ H fun c H1 => if c = true then ta σ H1 Q else tb σ H1 Q) : tIf t ta tb σ H Q := h
theorem k_isN {ta : TE} (h : ta σ H fun x H1 => Q (.bl (decide (x = .non))) H1) : tIsN ta σ H Q := h
theorem k_notN {ta : TE} (h : ta σ H fun x H1 => Q (.bl (!decide (x = .non))) H1) : tNotN ta σ H Q := h
theorem k_name {i : Nat} {v : V} {R : L2.St → Hp → Prop} (h : R (σ.set i (some v)) H) : gName i v σ H R := h
theorem k_sub {to ti : TE} {t : TSet} {v : V} {R : L2.St → Hp → Prop} (h : to σ H fun o H1 => ti σ H1 fun i H2 => t o i v H2 fun H3 => R σ H3) : gSub to ti t v σ H R := h
theorem k_gt {n : Nat} {t : TGs} {R : L2.St → Hp → Prop} {a : Addr} {xs : List V} (h : SqT K H a xs) (e : xs.length = n) (q : t xs σ H R) : gTup K n t (.ref a) σ H R := ⟨a, xs, rfl, h, e, q⟩
theorem k_gn {R : L2.St → Hp → Prop} (h : R σ H) : gNil [] σ H R := ⟨rfl, h⟩
theorem k_gc {t : TG} {u : TGs} {v : V} {vs : List V} {R : L2.St → Hp → Prop} (h : t v σ H fun σ' H' => u vs σ' H' R) : gCons t u (v :: vs) σ H R := ⟨v, vs, rfl, h⟩
theorem k_I0 {g : Int → Int → V} {i j : Int} (h : Q (g i j) H) : rI0 g (.int i) (.int j) H Q := ⟨i, j, rfl, rfl, h⟩
theorem k_I {C : Int → Int → Prop} {g : Int → Int → V} {i j : Int} (c : C i j) (h : Q (g i j) H) : rI C g (.int i) (.int j) H Q := ⟨i, j, rfl, rfl, c, h⟩
theorem k_U {g : Int → V} {i : Int} (h : Q (g i) H) : rU g (.int i) H Q := ⟨i, rfl, h⟩
theorem k_eq {x y : V} (e : scal x y = true) (h : Q (.bl (decide (x = y))) H) : rEq x y H Q := ⟨e, h⟩
theorem k_ne {x y : V} (e : scal x y = true) (h : Q (.bl (!decide (x = y))) H) : rNe x y H Q := ⟨e, h⟩
theorem k_ixL {p : Addr} {xs : List V} {i : Int} {v : V} (h : SqL K H p xs) (e : atI xs i = some v) (q : Q v H) : rIxL K (.ref p) (.int i) H Q := ⟨p, xs, i, v, rfl, rfl, h, e, q⟩
theorem k_ixT {p : Addr} {xs : List V} {i : Int} {v : V} (h : SqT K H p xs) (e : atI xs i = some v) (q : Q v H) : rIxT K (.ref p) (.int i) H Q := ⟨p, xs, i, v, rfl, rfl, h, e, q⟩
theorem k_setL {p : Addr} {xs : List V} {k : Int} {j : Nat} {v : V} {R : Hp → Prop} (h : H p = some (.lst xs)) (e : ixN xs.length k = some j) (q : R (upd H p (.lst (xs.set j v)))) : rSetL (.ref p) (.int k) v H R := ⟨p, xs, k, j, rfl, rfl, h, e, q⟩
theorem k_tup {t : TA} (h : t σ H fun xs H1 => xs.length ≤ sizeLine ∧ ∀ p, H1 p = none → Q (.ref p) (upd H1 p (.tup xs))) : tTup t σ H Q := h
theorem k_lst {t : TA} (h : t σ H fun xs H1 => xs.length ≤ sizeLine ∧ ∀ p, H1 p = none → Q (.ref p) (upd H1 p (.lst xs))) : tLst t σ H Q := h
theorem k_bm {T : String} {r : V → List V → Hp → VK → Prop} {to : TE} {t : TA} (h : to σ H fun x H1 => tyV K T x H1 ∧ t σ H1 fun xs H2 => r x xs H2 Q) : tBM K T r to t σ H Q := h
theorem k_append {l : Addr} {xs : List V} {y : V} (h : H l = some (.lst xs)) (e : xs.length < sizeLine) (q : Q .non (upd H l (.lst (xs ++ [y])))) : rAppend (.ref l) [y] H Q := ⟨l, xs, y, rfl, rfl, h, e, q⟩
theorem k_dget {td ty : TE} (h : td σ H fun x H1 => ty σ H1 fun y H2 => ∃ a v, x = .ref a ∧ DGet H2 a y (some v) ∧ Q v H2) : tDGet td ty σ H Q := h
theorem k_dg {a : Addr} {y v : V} (h : DGet H a y (some v)) (q : Q v H) : ∃ b u, V.ref a = .ref b ∧ DGet H b y (some u) ∧ Q u H := ⟨a, v, rfl, h, q⟩
theorem k_fld {ta : TE} {f : Str} (h : ta σ H fun x H1 => ∃ a C dx fs v, x = .ref a ∧ H1 a = some (.ins C dx fs) ∧ Cls K C ∧ NoAttr K C f ∧ fs.lookup f = some v ∧ Q v H1) : tFld K ta f σ H Q := h
theorem k_sl {r : V → Option Int → Option Int → Hp → VK → Prop} {te : TE} {tl th : TO} (h : te σ H fun x H1 => tl σ H1 fun l H2 => th σ H2 fun u H3 => r x l u H3 Q) : L2.tSl r te tl th σ H Q := h
theorem k_noPart {R : Option Int → Hp → Prop} (h : R none H) : tNoPart σ H R := h
theorem k_part {t : TE} {R : Option Int → Hp → Prop} (h : t σ H fun x H1 => ∃ i, x = .int i ∧ R (some i) H1) : tPart t σ H R := h
theorem k_int {i : Int} {R : Int → Prop} (h : R i) : ∃ k, V.int i = .int k ∧ R k := ⟨i, rfl, h⟩
theorem k_int1 {i : Int} {R : Int → Prop} {R' : Bool → Prop} (h : R i) : (∃ j, [V.int i] = [V.int j] ∧ R j) ∨ (∃ k, [V.int i] = [V.bl k] ∧ R' k) := .inl ⟨i, rfl, h⟩
theorem k_len {a : Addr} {ys : List V} {R : List V → Prop} (h : SqL K H a ys ∨ SqT K H a ys) (q : R ys) : ∃ p xs, [V.ref a] = [V.ref p] ∧ (SqL K H p xs ∨ SqT K H p xs) ∧ R xs := ⟨a, ys, rfl, h, q⟩
theorem k_disp {trs : List (TE × TE)} (h : ∀ p, H p = none → tPairs trs σ (upd H p (.dK [])) fun ps H2 => H2 p = some (.dK []) ∧ ∃ kvs : List (Key × V), ps = kvs.map (fun kv => (kV kv.1, kv.2)) ∧ kvs.length ≤ 15 ∧ Q (.ref p) (upd H2 p (.dK (mergeK [] kvs)))) : tDisp trs σ H Q := h
theorem k_cut {t u : TS} (M : L2.St → Hp → Prop) (h : t { D with nx := M } σ H) (k : ∀ σ' H', M σ' H' → u D σ' H') : C8.tCut t u D σ H := ⟨M, h, k⟩
theorem k_rng1 {ta : TA} {R : It → Hp → Prop} (h : ta σ H fun vs H1 => ∃ j : Int, vs = [.int j] ∧ -(2 ^ 62) ≤ j ∧ j < 2 ^ 62 ∧ R (Itr 0 j.toNat) H1) : iRng1 ta σ H R := h
theorem k_rg {j : Int} {R : Int → Prop} (h1 : 0 ≤ j) (h2 : j < 2 ^ 62) (q : R j) : ∃ i : Int, [V.int j] = [V.int i] ∧ -(2 ^ 62) ≤ i ∧ i < 2 ^ 62 ∧ R i := ⟨j, rfl, by omega, h2, q⟩
theorem k_for {wi : TI} {g : TG} {tb : TS} (h : wi σ H fun J H1 => ∃ W : Nat → Nat → L2.St → Hp → Prop, (∃ m, W 0 m σ H1) ∧ ∀ i m σ H, W i m σ H →
  (J.stop i H ∧ D.nx σ H) ∨ (J.go i H ∧ ∃ N : L2.St → Hp → Prop, (∀ σ' H', N σ' H' → ∃ m', m' < m ∧ W (i + 1) m' σ' H') ∧ ∀ x H', J.yld i H x H' → g x σ H' fun σ2 H2 => tb { D with nx := N, ct := N, bk := D.nx } σ2 H2)) : tFor wi g tb D σ H := h
theorem k_lc {wi : TI} {g : TG} {tt : TT} {te : TE} {vs : List Nat} (h : wi σ H fun J H1 => ∀ D, H1 D = none → ∃ W : Nat → Nat → Hp → Prop, (∃ m, W 0 m (upd H1 D (.lst []))) ∧ ∀ i m H, W i m H →
  (J.stop i H ∧ Q (.ref D) H) ∨ (J.go i H ∧ ∃ Nx : Hp → Prop, (∀ H', Nx H' → ∃ m', m' < m ∧ W (i + 1) m' H') ∧ ∀ x H', J.yld i H x H' → g x (wipe σ vs) H' fun σ2 H2 => wipe σ2 vs = wipe σ vs ∧ tt σ2 H2 fun b H3 =>
    if b = true then te σ2 H3 fun y H4 => ∃ acc, H4 D = some (.lst acc) ∧ acc.length < sizeLine ∧ Nx (upd H4 D (.lst (acc ++ [y]))) else Nx H3)) : tLc wi g tt te vs σ H Q := h
theorem k_yesT {R : Bool → Hp → Prop} (h : R true H) : tYes σ H R := h
theorem k_str {te : TE} {R : It → Hp → Prop} (h : te σ H fun v H1 => ∃ x, v = .str x ∧ R (Its x) H1) : iStr te σ H R := h
theorem k_slS {z : Str} {lo hi : Option Int} (e : z.length ≤ sizeLine) (q : Q (.str (cutS z lo hi)) H) : rSlS (.str z) lo hi H Q := ⟨z, rfl, e, q⟩
theorem k_prs {tk tv : TE} {r : List (TE × TE)} {R : List (V × V) → Hp → Prop} (h : tk σ H fun x H1 => tv σ H1 fun y H2 => tPairs r σ H2 fun ps H3 => R ((x, y) :: ps) H3) : tPairs ((tk, tv) :: r) σ H R := h
theorem k_prn {R : List (V × V) → Hp → Prop} (h : R [] H) : tPairs [] σ H R := h
theorem k_aug {i : Nat} {te : TE} {ti : TIp} {x : V} (e : σ[i]? = some (some x)) (h : te σ H fun y H1 => ti x y H1 fun z H2 => D.nx (σ.set i (some z)) H2) : tAug i te ti D σ H := ⟨x, e, h⟩
theorem k_ipI {f : Int → Int → Int} {i j : Int} (h : Q (.int (f i j)) H) : ipI f (.int i) (.int j) H Q := ⟨i, j, rfl, rfl, h⟩
theorem k_din {ty td : TE} (h : ty σ H fun y H1 => td σ H1 fun x H2 => ∃ a o, x = .ref a ∧ DGet H2 a y o ∧ Q (.bl o.isSome) H2) : tDIn ty td σ H Q := h
theorem k_dnotin {ty td : TE} (h : ty σ H fun y H1 => td σ H1 fun x H2 => ∃ a o, x = .ref a ∧ DGet H2 a y o ∧ Q (.bl (!o.isSome)) H2) : tDNotIn ty td σ H Q := h
theorem k_dput {td ty tv : TE} (h : tv σ H fun v H1 => td σ H1 fun x H2 => ty σ H2 fun y H3 => ∃ a H4, x = .ref a ∧ DPut H3 a y v H4 ∧ D.nx σ H4) : sDPut td ty tv D σ H := h
theorem k_prop {C : Addr} {sp : Sp} {dvs : List V} {E : XK} {ta : TE} (h : ta σ H fun x H1 => ∃ a dx fs, x = .ref a ∧ H1 a = some (.ins C dx fs) ∧ sp (.ref a :: dvs) H1 Q E) : tProp C sp dvs E ta σ H Q := h
theorem k_itup {tl : TE} {R : It → Hp → Prop} (h : tl σ H fun x H1 => ∃ a, x = .ref a ∧ (∃ xs, SqT K H1 a xs) ∧ R (Itt K a) H1) : iTup K tl σ H R := h
theorem k_ilst {tl : TE} {R : It → Hp → Prop} (h : tl σ H fun x H1 => ∃ a, x = .ref a ∧ (∃ xs, SqL K H1 a xs) ∧ R (Itl K a) H1) : iList K tl σ H R := h
theorem k_bm0 {T : String} {r : V → List V → Hp → VK → Prop} {to : TE} (h : to σ H fun x H1 => tyV K T x H1 ∧ r x [] H1 Q) : tBM0 K T r to σ H Q := h
theorem k_dc {wi : TI} {g : TG} {tt : TT} {tk tv : TE} {vs : List Nat} (h : wi σ H fun J H1 => ∀ D, H1 D = none → ∃ W : Nat → Nat → Hp → Prop, (∃ m, W 0 m (upd H1 D (.dK []))) ∧ ∀ i m H, W i m H →
  (J.stop i H ∧ Q (.ref D) H) ∨ (J.go i H ∧ ∃ Nx : Hp → Prop, (∀ H', Nx H' → ∃ m', m' < m ∧ W (i + 1) m' H') ∧ ∀ x H', J.yld i H x H' → g x (wipe σ vs) H' fun σ2 H2 => wipe σ2 vs = wipe σ vs ∧ tt σ2 H2 fun b H3 =>
    if b = true then tk σ2 H3 fun y H4 => tv σ2 H4 fun z H5 => ∃ kvs k, y = kV k ∧ H5 D = some (.dK kvs) ∧ kvs.length < sizeLine ∧ Nx (upd H5 D (.dK (putK kvs k z))) else Nx H3)) : tDc wi g tt tk tv vs σ H Q := h
theorem k_whl {c : TT} {tb : TS} (W : Nat → L2.St → Hp → Prop) (h0 : ∃ m, W m σ H) (h : ∀ m σ H, W m σ H → c σ H fun b H1 => if b = true then tb { D with nx := fun σ' H' => ∃ m', m' < m ∧ W m' σ' H', ct := fun σ' H' => ∃ m', m' < m ∧ W m' σ' H', bk := D.nx } σ H1 else D.nx σ H1)
    (mono : ∀ σ H (R R' : Bool → Hp → Prop), (∀ b H1, R b H1 → R' b H1) → c σ H R → c σ H R') : tWhile c tb D σ H := by
  refine ⟨W, h0, fun m σ H w => mono _ _ _ _ (fun b H1 q => ?_) (h m σ H w)⟩
  cases b with
  | false => exact q
  | true => exact ⟨_, fun _ _ z => z, q⟩
theorem k_ite {p A B : Prop} [Decidable p] (h1 : p → A) (h2 : ¬ p → B) : if decide p = true then A else B := by
  by_cases h : p
  · rw [decide_eq_true h]; exact iteT (h1 h)
  · rw [decide_eq_false h]; exact iteF (h2 h)
theorem k_iteN {p A B : Prop} [Decidable p] (h1 : p → B) (h2 : ¬ p → A) : if (!decide p) = true then A else B := by
  by_cases h : p
  · rw [decide_eq_true h]; exact iteF (h1 h)
  · rw [decide_eq_false h]; exact iteT (h2 h)
theorem k_yes {c : Bool} {A B : Prop} (e : c = true) (h : A) : if c = true then A else B := by rw [e]; exact iteT h
theorem k_no {c : Bool} {A B : Prop} (e : c = false) (h : B) : if c = true then A else B := by rw [e]; exact iteF h
theorem k_bool {c : Bool} {A B : Prop} (h1 : c = true → A) (h2 : c = false → B) : if c = true then A else B := by cases c; exact iteF (h2 rfl); exact iteT (h1 rfl)
end
section
variable {K : PySem.W.Frag} {σ : L2.St} {H : Hp} {D : Ends} {Q : VK}
theorem k_par3 {i j l : Nat} {ta : TA} (h : ta σ H fun vs H1 => ∃ u v w, vs = [u, v, w] ∧ D.nx (((σ.set i (some u)).set j (some v)).set l (some w)) H1) : tPar3 i j l ta D σ H := h
theorem k_three {p : V → V → V → Prop} {a b c : V} (h : p a b c) : ∃ u v w, [a, b, c] = [u, v, w] ∧ p u v w := ⟨a, b, c, rfl, h⟩
theorem k_neD {x y : V} {d e : PyData} (h1 : Dp K H x d) (h2 : Dp K H y e) (s1 : SeqAt.shaped d = true) (s2 : SeqAt.shaped e = true) (q : Q (.bl (!PyData.eqv d e)) H) : rNeD K x y H Q := ⟨d, e, h1, h2, s1, s2, q⟩
theorem k_eqD {x y : V} {d e : PyData} (h1 : Dp K H x d) (h2 : Dp K H y e) (s1 : SeqAt.shaped d = true) (s2 : SeqAt.shaped e = true) (q : Q (.bl (PyData.eqv d e)) H) : rEqD K x y H Q := ⟨d, e, h1, h2, s1, s2, q⟩
theorem k_lenS {z : Str} {R : Int → Prop} (h : z.length ≤ sizeLine) (q : R z.length) : ∃ y : Str, [V.str z] = [V.str y] ∧ y.length ≤ sizeLine ∧ R y.length := ⟨z, rfl, h, q⟩
end
local macro_rules | `(tactic| walk_at "st") => `(tactic| first
  | ((with_reducible show tVar _ _ _ _); refine k_var rfl ?_)
  | (with_reducible first
    | refine k_c ?_ | refine k_op ?_ | refine k_I0 ?_ | refine k_seq ?_ | refine k_asg ?_ | refine k_name ?_ | refine k_cons ?_ | refine k_nil ?_ | refine k_cb ?_
    | refine k_ret ?_ | refine k_ifS ?_ | refine k_test ?_ | refine k_tB ?_ | refine k_bl ?_ | refine k_call ?_ | refine k_make ?_ | refine k_par3 ?_ | refine k_three ?_ | refine k_ipI ?_ | refine k_din ?_ | refine k_dnotin ?_ | refine k_dput ?_ | refine k_prop ?_ | refine k_itup ?_ | refine k_ilst ?_ | refine k_bm0 ?_ | refine k_dc ?_ | refine k_prs ?_ | refine k_prn ?_ | refine k_lc ?_ | refine k_yesT ?_ | refine k_str ?_ | refine k_disp ?_ | refine k_for ?_ | refine k_rng1 ?_ | refine k_drop ?_ | refine k_next ?_ | refine k_sub ?_ | refine k_un ?_ | refine k_U ?_
    | refine k_par ?_ | refine k_two ?_ | refine k_and ?_ | refine k_or ?_ | refine k_not ?_ | refine k_andV ?_ | refine k_orV ?_ | refine k_notV ?_ | refine k_ifE ?_ | refine k_isN ?_ | refine k_notN ?_
    | refine k_gn ?_ | refine k_gc ?_ | refine k_tup ?_ | refine k_lst ?_ | refine k_bm ?_ | refine k_dget ?_ | refine k_fld ?_ | refine k_sl ?_ | refine k_noPart ?_ | refine k_part ?_ | refine k_int ?_
    | refine k_int1 ?_ | refine k_retN ?_ | refine k_cont ?_ | refine k_break ?_)
  | ((with_reducible show rIxL _ _ _ _ _); refine k_ixL (SqL.of (by first | assumption | exact upd_same)) rfl ?_)
  | ((with_reducible show rSetL _ _ _ _ _); refine k_setL (by first | assumption | exact upd_same) rfl ?_)
  | ((with_reducible show tAug _ _ _ _ _ _); refine k_aug rfl ?_)
  | ((with_reducible show rEq _ _ _ _); refine k_eq rfl ?_)
  | ((with_reducible show rNe _ _ _ _); refine k_ne rfl ?_))
local macro_rules | `(tactic| walk_at "go") => `(tactic| repeat (walk_at "st"))
local macro_rules | `(tactic| walk_at "begin") => `(tactic| ((try dsimp only [cxOf]); simp only [L2.start, List.map_cons, List.map_nil, List.length_cons, List.length_nil, Nat.reduceAdd, Nat.reduceSub, List.replicate_succ, List.replicate_zero, List.cons_append, List.nil_append]))
/-! ### a draw: any number below the most -/
def sp_taken (K : PySem.W.Frag) : Sp := fun vs H Q _ => ∃ (a : Addr) (m : Int), vs = [.ref a, .int m] ∧ 0 < m ∧ m.natAbs < 2 ^ 8000 ∧ RowOk K H a ∧
  ∀ (x : Int) (H' : Hp), 0 ≤ x → x < m → RowOk K H' a → Keep a H H' → Q (.int x) H'
section
variable {P : Program} {w : World} {K : PySem.W.Frag} {mg : Str → Option Value} {base : Heap}
theorem ok_law_taken (T : Txt K mg) : FnOk P w K mg base (L2.CX P w) 1 T.a_law_taken T.fd_law_taken ["_law_row", "_law_many"] (sp_taken K) := by
  refine T.F_law_taken.okX sc_law_taken (fun vs H Q E h => ?_) (fun cdv A outer s H vs Q E hr h => ?_)
  · obtain ⟨a, m, rfl, _⟩ := h
    rfl
  · obtain ⟨a, m, rfl, m0, mb, ⟨sc, ns, i, z, r, ea, hs, hn, i0, z0, z1⟩, k⟩ := h
    refine ⟨_, (PSs.nox (pss_cons (ps_if (pt_cmpR op_gt (pe_ix ix_list (pv 0) pe_int (fun _ _ => rfl)) pe_int (nomark _))
  (pss_cons (ps_set (i := 2) sc_law_taken.nd rfl (Or.inl rfl) (pe_op op_mod (pe_callTy call_int1 (by rfl) T.z_int PySem.Pv.boot_int (pa_cons (pe_ix ix_list (pv 0) pe_int (fun _ _ => rfl)) pa_nil)) (pv 1)))
  (pss_cons (ps_asg (pe_op op_fdivW (pe_ix ix_list (pv 0) pe_int (fun _ _ => rfl)) (pv 1)) (pg_sub (pv 0) pe_int set_list))
  (pss_one (ps_ret (pv 2)))))
  pss_nil)
  (pss_cons (ps_asg (pe_op op_add (pe_ix ix_list (pv 0) pe_int (fun _ _ => rfl)) pe_int) (pg_sub (pv 0) pe_int set_list))
  (pss_cons (ps_if (pt_cmpR op_gt (pe_ix ix_list (pv 0) pe_int (fun _ _ => rfl)) (pe_callB call_len_seq (by rfl) T.z_len PySem.boot_len (pa_cons (pe_ix ix_list (pv 0) pe_int (fun _ _ => rfl)) pa_nil)) (nomark _))
  (pss_cons (ps_asg (pe_op op_mod (pe_callTy call_int1 (by rfl) T.z_int PySem.Pv.boot_int (pa_cons (pe_op op_add (pe_op op_mulW (pe_ix ix_list (pv 0) pe_int (fun _ _ => rfl)) pe_int) pe_int) pa_nil)) pe_int) (pg_sub (pv 0) pe_int set_list))
  (pss_one (ps_ret (pe_op op_mod (pe_callTy call_int1 (by rfl) T.z_int PySem.Pv.boot_int (pa_cons (pe_op op_fdivW (pe_ix ix_list (pv 0) pe_int (fun _ _ => rfl)) pe_int) pa_nil)) (pv 1)))))
  pss_nil)
  (pss_cons (ps_set (i := 3) sc_law_taken.nd rfl (Or.inl rfl) (pe_ix ix_list (pe_ix ix_list (pv 0) pe_int (fun _ _ => rfl)) (pe_op op_sub (pe_ix ix_list (pv 0) pe_int (fun _ _ => rfl)) pe_int) (fun _ _ => rfl)))
  (pss_cons (ps_asg (pe_op op_mod (pe_callTy call_int1 (by rfl) T.z_int PySem.Pv.boot_int (pa_cons (pe_op op_add (pe_op op_add (pe_op op_mulW (pe_ix ix_list (pv 0) pe_int (fun _ _ => rfl)) pe_int) (pv 3)) pe_int) pa_nil)) pe_int) (pg_sub (pv 0) pe_int set_list))
  (pss_cons (ps_if (pt_cmpR op_ge (pv 3) (pe_op op_pow pe_int pe_int) (nomark _))
  (pss_one (ps_asg (pe_op op_fdivW (pv 3) (pv 1)) (pg_sub (pv 0) pe_int set_list)))
  pss_nil)
  (pss_one (ps_ret (pe_op op_mod (pe_callTy call_int1 (by rfl) T.z_int PySem.Pv.boot_int (pa_cons (pv 3) pa_nil)) (pv 1))))))))))), ?_⟩
    walk_at "begin"
    walk_at "go"
    have CD : CDivW r m := wide_div m0 mb (by decide) (by decide)
    have CZ : CMulW z 48271 := wide_mul (a := 31) (b := 16) (by omega) (by decide) (by decide) (by decide) (by decide)
    refine k_ite (fun c => ?_) (fun c => ?_)
    · walk_at "go"
      refine k_I m0 ?_
      walk_at "go"
      refine k_I CD ?_
      walk_at "go"
      exact k _ _ (Int.emod_nonneg _ (by omega)) (Int.emod_lt_of_pos _ m0) ⟨sc, ns, i, z, r / m, upd_same, hs.keep Keep.at_ ea, hn, i0, z0, z1⟩ Keep.at_
    · walk_at "go"
      have K1 : Keep a H (upd H a (HO.lst ([V.ref sc, V.int i, V.int z, V.int r].set (Int.toNat 1) (V.int (i + 1))))) := Keep.at_
      refine k_len (.inl (hs.keep K1 ea).sq) ?_
      walk_at "go"
      have zn : ∀ q : Int, 0 ≤ q % 2147483647 ∧ q % 2147483647 < 2147483647 := fun q => ⟨Int.emod_nonneg _ (by decide), Int.emod_lt_of_pos _ (by decide)⟩
      have mn : ∀ q : Int, 0 ≤ q % m ∧ q % m < m := fun q => ⟨Int.emod_nonneg _ (by omega), Int.emod_lt_of_pos _ m0⟩
      refine k_ite (fun c1 => ?_) (fun c1 => ?_)
      · walk_at "go"
        refine k_I CZ ?_
        walk_at "go"
        refine k_I (by decide) ?_
        walk_at "go"
        refine k_I (wide_div (b := 3) (by decide) (by decide) (by decide) (by decide)) ?_
        walk_at "go"
        refine k_I m0 ?_
        exact k _ _ (mn _).1 (mn _).2 ⟨sc, ns, i + 1, _, r, upd_same, (hs.keep K1 ea).keep Keep.at_ upd_same, hn, by omega, (zn _).1, (zn _).2⟩ (K1.trans Keep.at_)
      · walk_at "go"
        rw [List.length_map] at c1
        have hl : (i + 1 - 1).toNat < ns.length := by omega
        refine k_ixL (hs.keep K1 ea).sq (v := V.int (ns[(i + 1 - 1).toNat]'hl)) (at_of (j := (i + 1 - 1).toNat) (by omega) (by rw [List.getElem?_map, List.getElem?_eq_getElem hl]; rfl)) ?_
        generalize ns[(i + 1 - 1).toNat]'hl = cell
        walk_at "go"
        refine k_I CZ ?_
        walk_at "go"
        refine k_I (by decide) ?_
        walk_at "go"
        refine k_I (by exact ⟨by decide, by decide, by decide⟩) ?_
        walk_at "go"
        refine k_ite (fun c2 => ?_) (fun c2 => ?_)
        · walk_at "go"
          refine k_I (wide_div m0 mb (by decide) (by decide)) ?_
          walk_at "go"
          refine k_I m0 ?_
          exact k _ _ (mn _).1 (mn _).2 ⟨sc, ns, i + 1, _, _, upd_same, ((hs.keep K1 ea).keep Keep.at_ upd_same).keep Keep.at_ upd_same, hn, by omega, (zn _).1, (zn _).2⟩ ((K1.trans Keep.at_).trans Keep.at_)
        · walk_at "go"
          refine k_I m0 ?_
          exact k _ _ (mn _).1 (mn _).2 ⟨sc, ns, i + 1, _, _, upd_same, (hs.keep K1 ea).keep Keep.at_ upd_same, hn, by omega, (zn _).1, (zn _).2⟩ (K1.trans Keep.at_)
end
/-! ### enumerate over a tuple -/
section
open Builtin
theorem meets_enumT (t : Addr) (its : Array Value) : Meets (Builtin.«enumerate.__new__» ⟨[.type "enumerate", .ref t], []⟩) (fun _ R st => st.heap.IsTuple t its ∧
    R (.ok (.ret (.ref (st.heap.objs.size + 1)))) { st with heap := (st.heap.push { cls := .type "tuple_iterator", data := .fields #[.ref t, .int 0 0] }).push { cls := .type "enumerate", data := .fields #[.none, .bool false, .ref st.heap.objs.size, rawInt 0, .none, .none] } }) := by
  refine Meets.of_wp fun prog w A R st hh => ?_
  rcases st with ⟨h0, g0, d0, t0, o0⟩
  obtain ⟨isT, q⟩ := hh
  have sub := sub_enumerate
  have L : Heap.IsTuple (Shared.heap ⟨h0, g0, d0, t0, o0⟩) t its := isT
  obtain ⟨ob, e0, c0, n0, dt0⟩ := L
  have z : (Heap.push h0 { cls := .type "tuple_iterator", data := .fields #[.ref t, .int 0 0] }).objs.size = h0.objs.size + 1 := Heap.size_push ..
  have q' := q
  rw [← z] at q'
  wp_walk using PySem.wpAny_pyIter_tuple isT
  refine wpAny_stack_any fun fr => wpAny_pure ?_
  split
  · rename_i cc _ _ _ _ _
    cases (cc == Value.type "enumerate")
    · wp_walk using PySem.wpAny_pyIter_tuple isT
      exact ⟨_, rfl, q'⟩
    · wp_walk using PySem.wpAny_pyIter_tuple isT
      exact ⟨_, rfl, q'⟩
  · wp_walk using PySem.wpAny_pyIter_tuple isT
    exact ⟨_, rfl, q'⟩
end
section
variable {prog : Program} {w : World} {A : Around} {E : Value → Shared → Prop} {s : Shared}
theorem call_enumT {t : Addr} {its : Array Value} {Q : Value → Shared → Prop} (isT : s.heap.IsTuple t its)
    (k : ∀ h', IsEnum h' (s.heap.objs.size + 1) s.heap.objs.size 0 .none → h'.IsTupleIter s.heap.objs.size t 0 → (∀ b o, s.heap.get? b = some o → h'.get? b = some o) →
      Q (.ref (s.heap.objs.size + 1)) { s with heap := h' }) : wpAny (model prog w) A (call (.type "enumerate") [.ref t]) Q E s := by
  have m := meets_enumT t its
  refine callType_new F.called_enumerate (by decide) (F.typeCall_enumerate_1 _) (F.newCall_enumerate_1 _) (fun o => F.args_object_init_2 o _) F.entry_enumerate_new m ⟨isT, ?_⟩
  have z : (Heap.push s.heap { cls := .type "tuple_iterator", data := .fields #[.ref t, .int 0 0] }).objs.size = s.heap.objs.size + 1 := Heap.size_push ..
  have g := Heap.get?_push_size (Heap.push s.heap { cls := .type "tuple_iterator", data := .fields #[.ref t, .int 0 0] })
    (o := { cls := .type "enumerate", data := .fields #[.none, .bool false, .ref s.heap.objs.size, rawInt 0, .none, .none] }) rfl
  rw [z] at g
  exact ⟨⟨_, g, rfl⟩, k _ g ⟨_, Heap.get?_push_of_some _ (Heap.get?_push_size _ rfl), rfl, rfl⟩ fun b o x => Heap.get?_push_of_some _ (Heap.get?_push_of_some _ x)⟩
end
/-- the i-th pair is new: its place and the tuple's item -/
def Iet (K : PySem.W.Frag) (a : Addr) : It :=
  ⟨fun i H => ∃ (xs : List V) (x : V), SqT K H a xs ∧ xs[i]? = some x,
   fun i H v H' => ∃ p x, v = .ref p ∧ H p = none ∧ H' = upd H p (.tup [.int (i : Nat), x]) ∧ ∀ xs, SqT K H a xs → xs[i]? = some x,
   fun i H => ∃ xs : List V, SqT K H a xs ∧ xs.length ≤ i⟩
theorem turn_enumT {P : Program} {w : World} {K : PySem.W.Frag} {es : List Expr} {c : Nat} {tp : Pos} (a e it : Addr) :
    Turn P w K (.Tuple es c tp) (Iet K a) [e, it] e (fun i h => (∃ old, IsEnum h e it ((i : Nat) : Int) old) ∧ h.IsTupleIter it a i ∧ e ≠ it) := by
  have two : ∀ b, b ∈ [e, it] → b = e ∨ b = it := fun b hb => by simpa using hb
  constructor
  case mem => simp
  case obj =>
    rintro i h ⟨⟨old, he⟩, ⟨o, ho, hc, hd⟩, _⟩ b hb
    rcases two b hb with rfl | rfl
    · exact ⟨_, he, fun v q => nomatch q⟩
    · exact ⟨o, ho, fun v q => by rw [hd] at q; cases q⟩
  case keep =>
    rintro i h h' ⟨⟨old, he⟩, hi, ne⟩ k
    exact ⟨⟨old, k e (by simp) _ he⟩, hi.at fun o q => k it (by simp) o q, ne⟩
  case item =>
    rintro X rfl rfl rfl hC i pins s σ H E I hf ⟨⟨old, he⟩, hit, ne⟩ ⟨xs, x, hq, hx⟩
    obtain ⟨its, rv, p, hz⟩ := I.tuple hq
    obtain ⟨u, hu, ru⟩ := rv.get hx
    have le : e < s.heap.objs.size := Heap.lt_size he
    have li : it < s.heap.objs.size := by obtain ⟨_, q, _⟩ := hit; exact Heap.lt_size q
    have pt : s.heap.IsTuple a its.toArray := p
    have na : a ≠ it := fun z => by
      obtain ⟨o1, q1, c1, _⟩ := hit
      obtain ⟨o2, q2, c2, _⟩ := pt
      rw [z, q1] at q2
      cases q2
      rw [c1] at c2
      exact absurd c2 (by simp)
    have nb : e ≠ a := fun z => by
      obtain ⟨o2, q2, c2, _⟩ := pt
      have q3 : s.heap.get? e = _ := he
      rw [z, q2] at q3
      cases q3
      exact absurd c2 (by simp)
    have Dr := Draws.tuple (prog := X.prog) (w := X.w) (A := X.A.in1) (I.ok.hd hC) it a na its.toArray
    refine wpAny_pyNext_enum_itemD (i := i) Dr he ⟨hit, pt⟩ (by simpa using (List.getElem?_eq_some_iff.mp hu).1) ne (by simp [ne, nb]) fun x' h' tk px ho st hT hsz hk => ?_
    have ex : x' = u := by
      have q : its.toArray[i]? = some x' := px
      rw [List.getElem?_toArray, hu] at q
      exact (Option.some.inj q).symm
    subst ex
    refine ⟨_, rfl, wpAny_letOwnedTupleGo_enum (s := { s with heap := h', toks := tk + 1 }) ho fun h2 he2 sb => ?_⟩
    have hT2 : h2.get? s.heap.objs.size = some { cls := .type "tuple", data := .seq #[.int i tk, x'] } := (sb.2 _ (Nat.ne_of_gt le)).trans hT
    have new : ObjOk X.prog X.w (upd H s.heap.objs.size (.tup [.int (i : Nat), x])) h2 s.heap.objs.size (.tup [.int (i : Nat), x]) :=
      ⟨(by decide : 2 ≤ sizeLine), [.int i tk, x'], .cons ⟨_, rfl⟩ (.cons ru .nil), ⟨_, hT2, rfl, _, rfl⟩⟩
    have I1 : Inv X pins σ (upd H s.heap.objs.size (.tup [.int (i : Nat), x])) { s with heap := h2, toks := tk + 1 } :=
      I.turnedNew (ch := [e, it]) (fun b ob hb q => (sb.2 b (fun z => hb (by simp [z]))).trans (hk b ob (fun z => hb (by simp [z])) (fun z => hb (by simp [z])) q)) hf (Nat.le_refl _) new
    refine ⟨.ref s.heap.objs.size, _, I1, rfl, ⟨_, x, rfl, I.hok.fresh (Nat.le_refl _), rfl, fun ys hy => ?_⟩, ⟨⟨x', ?_⟩, ?_, ne⟩, fun b hb => ?_⟩
    · rw [I.tuple_inj hy hq]; exact hx
    · have e1 : ((i + 1 : Nat) : Int) = (i : Int) + 1 := by omega
      rw [e1]; exact he2
    · exact st.1.at fun o q => (sb.2 it (Ne.symm ne)).trans q
    · have lb : b < s.heap.objs.size := by rcases two b hb with rfl | rfl <;> assumption
      rw [upd_ne (Nat.ne_of_lt lb)]
      exact (hf b hb).1
  case done =>
    rintro X rfl rfl rfl hC i pins s σ H E I hf ⟨⟨old, he⟩, hit, ne⟩ ⟨xs, hq, hx⟩
    obtain ⟨its, rv, p, hz⟩ := I.tuple hq
    have pt : s.heap.IsTuple a its.toArray := p
    have na : a ≠ it := fun z => by
      obtain ⟨o1, q1, c1, _⟩ := hit
      obtain ⟨o2, q2, c2, _⟩ := pt
      rw [z, q1] at q2
      cases q2
      rw [c1] at c2
      exact absurd c2 (by simp)
    have out : its.toArray[i]? = none := by
      have hl := rv.length
      rw [List.getElem?_toArray]
      exact List.getElem?_eq_none (by omega)
    have Dr : Draws X.prog X.w X.A.in1 it [it, a] i (fun _ _ => True) (fun j h => j = i ∧ h.IsTupleIter it a j ∧ h.IsTuple a its.toArray) :=
      { live := fun j h st => by obtain ⟨_, ⟨o, ho, _⟩, _⟩ := st; exact ⟨o, ho⟩
        frame := fun j h h' st hk => ⟨st.1, st.2.1.at fun o e => hk it (by simp) o e, st.2.2.at fun o e => hk a (by simp) o e⟩
        item := fun j s Q E hj st hQ => absurd st.1 (Nat.ne_of_lt hj)
        done := fun s Q E st hE => wpAny_nextOf_tuple_end (A := X.A.in1) (I.ok.hd hC) st.2.1 st.2.2 out hE }
    obtain ⟨f0, f1, f2, f3, f4, f5⟩ := hf it (by simp)
    exact wpAny_pyNext_enum_endD Dr he ⟨rfl, hit, pt⟩ fun h' eb => ⟨rfl, I.turned (t' := s.toks) (fun b o hb q => eb b o hb q) f0 f1 f3 f4 f5⟩
  case self =>
    rintro A i s Q E ⟨⟨_, he⟩, _⟩ h
    exact wpAny_pyIter_enum he h
def iEnumT (K : PySem.W.Frag) (ta : TA) : TI := fun σ H R => ta σ H fun vs H1 => ∃ a xs, vs = [.ref a] ∧ SqT K H1 a xs ∧ R (Iet K a) H1
theorem pi_enumT {X : Cx} {e : Expr} {ta : TA} {p pos tpos : Pos} {es : List Expr} {c : Nat} (hg : Gl X "enumerate") (hm : X.mg "enumerate" = none) (ha : PA X [e] ta)
    (hs : starEach [e] X.env = [(false, eval e X.env)] := by rfl) : PI X (.Tuple es c tpos) (.Call (.Name "enumerate" p) [e] [] pos) (iEnumT X.K ta) := by
  constructor
  intro pins s σ H R I h
  refine PyProof.Rows.Call_ (ld_blt I hg hm (show bootBuiltins "enumerate" = some (.type "enumerate") by decide +kernel) (PyProof.Rows.callWith_type1 (thn (ha.run pos pins s σ H _ I h) ?_) hs rfl))
  rintro us s1 ⟨vs, H1, I1, r1, a, xs, rfl, hq, q⟩
  obtain ⟨u, rfl, ru⟩ := vals1 r1
  cases ru
  obtain ⟨its, rv, p', hz⟩ := I1.tuple hq
  have pt : s1.heap.IsTuple a its.toArray := p'
  refine call_enumT pt fun h' he hit hk => wpAny_pyIter_enum he ?_
  have I2 : Inv X pins σ H1 { s1 with heap := h' } := I1.kept (t' := s1.toks) hk
  refine ⟨s1.heap.objs.size + 1, [s1.heap.objs.size + 1, s1.heap.objs.size], _, _, H1, rfl, I2, turn_enumT a (s1.heap.objs.size + 1) s1.heap.objs.size, ⟨⟨.none, he⟩, hit, Nat.succ_ne_self _⟩, fun b hb => ?_, q⟩
  have lb : s1.heap.objs.size ≤ b := by
    have two : b = s1.heap.objs.size + 1 ∨ b = s1.heap.objs.size := by simpa using hb
    rcases two with rfl | rfl
    · exact Nat.le_succ _
    · exact Nat.le_refl _
  exact I1.fpOk lb (I1.hok.fresh lb)
/-- over a tuple that stands still, the place and the item in a new pair -/
theorem for_enumT {K : PySem.W.Frag} {a : Addr} {xs : List V} {g : TG} {tb : TS} {D : Ends} {σ : L2.St} {H : Hp} (Pv : Nat → L2.St → Hp → Prop) (h0 : Pv 0 σ H) (hl : ∀ i σ H, i ≤ xs.length → Pv i σ H → SqT K H a xs)
    (hs : ∀ i x p σ H, xs[i]? = some x → Pv i σ H → H p = none → g (.ref p) σ (upd H p (.tup [.int (i : Nat), x])) fun σ2 H2 => tb { D with nx := Pv (i + 1), ct := Pv (i + 1), bk := D.nx } σ2 H2) (hd : ∀ σ H, Pv xs.length σ H → D.nx σ H) :
    ∃ W : Nat → Nat → L2.St → Hp → Prop, (∃ m, W 0 m σ H) ∧ ∀ i m σ H, W i m σ H → ((Iet K a).stop i H ∧ D.nx σ H) ∨
      ((Iet K a).go i H ∧ ∃ N : L2.St → Hp → Prop, (∀ σ' H', N σ' H' → ∃ m', m' < m ∧ W (i + 1) m' σ' H') ∧ ∀ x H', (Iet K a).yld i H x H' → g x σ H' fun σ2 H2 => tb { D with nx := N, ct := N, bk := D.nx } σ2 H2) := by
  refine ⟨fun i m σ H => m + i = xs.length ∧ Pv i σ H, ⟨xs.length, by simp, h0⟩, fun i m σ H ⟨em, hP⟩ => ?_⟩
  have sq := hl i σ H (by omega) hP
  by_cases c : i < xs.length
  · refine .inr ⟨⟨xs, xs[i], sq, List.getElem?_eq_getElem c⟩, Pv (i + 1), fun σ' H' z => ⟨m - 1, by omega, by omega, z⟩, ?_⟩
    rintro v H' ⟨p, x, rfl, hp, rfl, hx⟩
    exact hs i x p σ H (hx xs sq) hP hp
  · have e : i = xs.length := by omega
    exact .inl ⟨⟨xs, sq, by omega⟩, hd σ H (e ▸ hP)⟩
/-! ### machines as data -/
structure Stp where
  b : Nat
  c : Nat
  e : Nat
  g : Int
structure MD where
  n : Nat
  ss : List Stp
  es : List Nat
def stpV (s : Stp) : List V := [.int (s.b : Nat), .str ⟨#[s.c]⟩, .int (s.e : Nat), .int s.g]
structure Stp.Ok (n : Nat) (s : Stp) : Prop where
  b : s.b < n
  c : 97 ≤ s.c
  c' : s.c ≤ 100
  e : s.e < n
  g : -(10 ^ 30) ≤ s.g
  g' : s.g ≤ 10 ^ 30
def Stp.lt (s t : Stp) : Prop := s.b < t.b ∨ (s.b = t.b ∧ s.c < t.c)
structure MD.Ok (m : MD) : Prop where
  n1 : 1 ≤ m.n
  n8 : m.n ≤ 8
  ok : ∀ s ∈ m.ss, s.Ok m.n
  up : m.ss.Pairwise Stp.lt
  len : m.ss.length ≤ 32
  eb : ∀ e ∈ m.es, e < m.n
  eu : m.es.Pairwise (· < ·)
  el : m.es.length ≤ 8
/-- steps alone, whatever the number of stands -/
structure StOk (N : Nat) (s : Stp) : Prop where
  b : s.b < N
  c : 97 ≤ s.c
  c' : s.c ≤ 100
  e : s.e < N
  g : -(10 ^ 32) ≤ s.g
  g' : s.g ≤ 10 ^ 32
structure SsOk (N : Nat) (ss : List Stp) : Prop where
  n1 : 1 ≤ N
  n64 : N ≤ 63
  ok : ∀ s ∈ ss, StOk N s
  len : ss.length ≤ 300
theorem MD.Ok.sok {m : MD} (o : m.Ok) : SsOk m.n m.ss := ⟨o.n1, by have := o.n8; omega, fun s h => let k := o.ok s h; ⟨k.b, k.c, k.c', k.e, by have := k.g; omega, by have := k.g'; omega⟩, by have := o.len; omega⟩
/-- the steps' tuples -/
def StpsAt (K : PySem.W.Frag) (H : Hp) (vs : List V) (ss : List Stp) : Prop := vs.length = ss.length ∧ ∀ (i : Nat) (s : Stp), ss[i]? = some s → ∃ p, vs[i]? = some (V.ref p) ∧ SqT K H p (stpV s)
def nats (es : List Nat) : List V := es.map fun e => V.int (e : Nat)
def StAt (K : PySem.W.Frag) (H : Hp) (t : Addr) (ss : List Stp) : Prop := ∃ us, SqT K H t us ∧ StpsAt K H us ss
/-- steps and ends as they stand -/
def PartsAt (K : PySem.W.Frag) (H : Hp) (t u : Addr) (m : MD) : Prop := (∃ vs, SqT K H t vs ∧ StpsAt K H vs m.ss) ∧ SqT K H u (nats m.es)
def DAt (K : PySem.W.Frag) (H : Hp) (d : Addr) (m : MD) : Prop := ∃ t u, H d = some (.dK [(.inr "stands", .int (m.n : Nat)), (.inr "steps", .ref t), (.inr "ends", .ref u)]) ∧ PartsAt K H t u m
def mfs (n : Nat) (t u : Addr) : List (Str × V) := [("_stands", .int (n : Nat)), ("_steps", .ref t), ("_ends", .ref u)]
def MAt (K : PySem.W.Frag) (C : Addr) (H : Hp) (x : Addr) (m : MD) : Prop := ∃ dx t u, H x = some (.ins C dx (mfs m.n t u)) ∧ PartsAt K H t u m
section
variable {K : PySem.W.Frag} {a : Addr} {H H' : Hp}
/-- tuples stay -/
def Tups (H H' : Hp) : Prop := (∀ b xs, H b = some (.tup xs) → H' b = some (.tup xs)) ∧ ∀ b o xs, H b = some (.frz o (.tup xs)) → H' b = some (.frz o (.tup xs))
theorem Tups.trans {H H1 H2 : Hp} (a : Tups H H1) (b : Tups H1 H2) : Tups H H2 := ⟨fun c xs e => b.1 c xs (a.1 c xs e), fun c o xs e => b.2 c o xs (a.2 c o xs e)⟩
theorem Tups.sq {p : Addr} {xs : List V} (k : Tups H H') (h : SqT K H p xs) : SqT K H' p xs := by
  rcases h with (h | ⟨o, h⟩) | h
  · exact .inl (.inl (k.1 _ _ h))
  · exact .inl (.inr ⟨o, k.2 _ _ _ h⟩)
  · exact .inr h
theorem Tups.steps {vs : List V} {ss : List Stp} (k : Tups H H') (h : StpsAt K H vs ss) : StpsAt K H' vs ss := ⟨h.1, fun i s e => let ⟨p, e1, q⟩ := h.2 i s e; ⟨p, e1, k.sq q⟩⟩
theorem Tups.stAt {t : Addr} {ss : List Stp} (k : Tups H H') (h : StAt K H t ss) : StAt K H' t ss := let ⟨us, q, z⟩ := h; ⟨us, k.sq q, k.steps z⟩
theorem Tups.parts {t u : Addr} {m : MD} (k : Tups H H') (h : PartsAt K H t u m) : PartsAt K H' t u m := let ⟨⟨vs, q, z⟩, r⟩ := h; ⟨⟨vs, k.sq q, k.steps z⟩, k.sq r⟩
theorem same_tups (k : Same H H') : Tups H H' := ⟨fun _ _ e => k _ _ e, fun _ _ _ e => k _ _ e⟩
theorem Keep.tups {l : List V} (k : Keep a H H') (ha : H a = some (.lst l)) : Tups H H' := ⟨fun b _ e => k _ _ (fun z => by rw [z, ha] at e; cases e) e, fun b _ _ e => k _ _ (fun z => by rw [z, ha] at e; cases e) e⟩
theorem Tups.new {p : Addr} {o : HO} (h : H p = none) : Tups H (upd H p o) := same_tups (Same.new h)
theorem Tups.lst {p : Addr} {xs : List V} {o : HO} (h : H p = some (.lst xs)) : Tups H (upd H p o) := Keep.tups (Keep.at_) h
theorem DAt.keep {d : Addr} {m : MD} {l : List V} (h : DAt K H d m) (k : Keep a H H') (ha : H a = some (.lst l)) : DAt K H' d m :=
  let ⟨t, u, e, q⟩ := h; ⟨t, u, k _ _ (fun z => by rw [z, ha] at e; cases e) e, (k.tups ha).parts q⟩
theorem MAt.keep {C x : Addr} {m : MD} {l : List V} (h : MAt K C H x m) (k : Keep a H H') (ha : H a = some (.lst l)) : MAt K C H' x m :=
  let ⟨dx, t, u, e, q⟩ := h; ⟨dx, t, u, k _ _ (fun z => by rw [z, ha] at e; cases e) e, (k.tups ha).parts q⟩
theorem DAt.same {d : Addr} {m : MD} (h : DAt K H d m) (k : Same H H') : DAt K H' d m := let ⟨t, u, e, q⟩ := h; ⟨t, u, k _ _ e, (same_tups k).parts q⟩
theorem MAt.same {C x : Addr} {m : MD} (h : MAt K C H x m) (k : Same H H') : MAt K C H' x m := let ⟨dx, t, u, e, q⟩ := h; ⟨dx, t, u, k _ _ e, (same_tups k).parts q⟩
theorem StpsAt.snoc {vs : List V} {ss : List Stp} {p : Addr} {s : Stp} (h : StpsAt K H vs ss) (q : SqT K H p (stpV s)) : StpsAt K H (vs ++ [V.ref p]) (ss ++ [s]) := by
  refine ⟨by rw [List.length_append, List.length_append, h.1]; rfl, fun i t e => ?_⟩
  by_cases c : i < ss.length
  · rw [List.getElem?_append_left c] at e
    obtain ⟨r, e1, q1⟩ := h.2 i t e
    exact ⟨r, by rw [List.getElem?_append_left (by rw [h.1]; exact c)]; exact e1, q1⟩
  · rw [List.getElem?_append_right (by omega)] at e
    have z : i - ss.length = 0 := by
      have := (List.getElem?_eq_some_iff.mp e).1
      simp at this
      omega
    rw [z] at e
    cases e
    exact ⟨p, by rw [List.getElem?_append_right (by rw [h.1]; omega), h.1, z]; rfl, q⟩
end
/-! ### what a machine checks -/
def NotInt (K : PySem.W.Frag) (H : Hp) (v : V) : Prop := (∃ b, v = .bl b) ∨ ∃ t, TyX K H v t ∧ PySem.W.kitOne K t (.type "int") = some false
theorem k_isi {K : PySem.W.Frag} {H : Hp} {Q : VK} {x c : V} {t u : Value} {b : Bool} (hc : ClsV c u) (ht : TyX K H x t) (hk : PySem.W.kitOne K t u = some b) (h : Q (.bl b) H) : rIsi K [x, c] H Q := ⟨x, c, t, u, b, rfl, hc, ht, hk, h⟩
theorem k_chain {r r' : R2} {ta tb tc : TE} {σ : L2.St} {H : Hp} {Q : VK} (h : ta σ H fun x H1 => tb σ H1 fun y H2 => r x y H2 fun z H3 => ∃ k, z = .bl k ∧
  (if k = true then tc σ H3 fun w' H4 => r' y w' H4 Q else Q (.bl false) H3)) : tChain r r' ta tb tc σ H Q := h
def sp_whole (K : PySem.W.Frag) : Sp := fun vs H Q _ => ∃ v : V, vs = [v] ∧ ((∃ i, v = .int i ∧ Q (.bl true) H) ∨ (NotInt K H v ∧ Q (.bl false) H))
def sp_between (K : PySem.W.Frag) : Sp := fun vs H Q _ => ∃ (v : V) (lo hi : Int), vs = [v, .int lo, .int hi] ∧ ((∃ i, v = .int i ∧ Q (.bl (decide (lo ≤ i ∧ i ≤ hi))) H) ∨ (NotInt K H v ∧ Q (.bl false) H))
def sp_is_stand (K : PySem.W.Frag) : Sp := fun vs H Q _ => ∃ (v : V) (n : Int), vs = [.int n, v] ∧ ((∃ i, v = .int i ∧ Q (.bl (decide (0 ≤ i ∧ i < n))) H) ∨ (NotInt K H v ∧ Q (.bl false) H))
def sp_check_stands (K : PySem.W.Frag) : Sp := fun vs H Q _ => ∃ n : Int, vs = [.int n] ∧ 1 ≤ n ∧ n ≤ 8 ∧ Q .non H
section
variable {P : Program} {w : World} {K : PySem.W.Frag} {mg : Str → Option Value} {base : Heap}
theorem ok_is_whole_number (T : Txt K mg) : FnOk P w K mg base (L2.CX P w) 1 T.a_is_whole_number T.fd_is_whole_number ["value"] (sp_whole K) := by
  refine T.F_is_whole_number.okX sc_is_whole_number (fun vs H Q E h => ?_) (fun cdv A outer s H vs Q E hr h => ?_)
  · obtain ⟨v, rfl, _⟩ := h
    rfl
  · obtain ⟨v, rfl, k⟩ := h
    refine ⟨_, (PSs.nox (pss_one (ps_ret (pe_and (pe_callB call_isi (by rfl) T.z_isinstance (by decide +kernel) (pa_cons (pv 0) (pa_cons (pe_bltn (v := .ty "int") (by rfl) T.z_int (by decide +kernel) rfl) pa_nil))) (pe_one (pe_not (pe_callB call_isi (by rfl) T.z_isinstance (by decide +kernel) (pa_cons (pv 0) (pa_cons (pe_bltn (v := .ty "bool") (by rfl) T.z_bool (by decide +kernel) rfl) pa_nil))))))))), ?_⟩
    walk_at "begin"
    walk_at "go"
    rcases k with ⟨i, rfl, k⟩ | ⟨⟨b, rfl⟩ | ⟨t, ht, hk⟩, k⟩
    · refine k_isi (.ty _) (.base (.int i)) (kit_ty (b := "int") (r := true) (by decide +kernel)) ?_
      walk_at "go"
      refine iteT ?_
      walk_at "go"
      refine k_isi (.ty _) (.base (.int i)) (kit_ty (b := "bool") (r := false) (by decide +kernel)) ?_
      walk_at "go"
      exact k
    · refine k_isi (.ty _) (.base (.bl b)) (kit_ty (b := "int") (r := true) (by decide +kernel)) ?_
      walk_at "go"
      refine iteT ?_
      walk_at "go"
      refine k_isi (.ty _) (.base (.bl b)) (kit_ty (b := "bool") (r := true) (by decide +kernel)) ?_
      walk_at "go"
      exact k
    · refine k_isi (.ty _) ht hk ?_
      walk_at "go"
      exact iteF k
theorem ok_is_integer_between (T : Txt K mg) : FnOk P w K mg base (L2.CX P w) 2 T.a_is_integer_between T.fd_is_integer_between ["value", "least", "most"] (sp_between K) := by
  refine T.F_is_integer_between.okX sc_is_integer_between (fun vs H Q E h => ?_) (fun cdv A outer s H vs Q E hr h => ?_)
  · obtain ⟨v, lo, hi, rfl, _⟩ := h
    rfl
  · obtain ⟨v, lo, hi, rfl, k⟩ := h
    refine ⟨_, (PSs.nox (pss_one (ps_ret (pe_and (pe_call (ok_is_whole_number T) (hr.mono (by decide)) (by rfl) T.m_is_whole_number T.k_is_whole_number T.b_is_whole_number .nil passL (pa_cons (pv 0) pa_nil)) (pe_one (pe_chain op_le op_le (pv 1) (pv 0) (pv 2))))))), ?_⟩
    walk_at "begin"
    walk_at "go"
    rcases k with ⟨i, rfl, k⟩ | ⟨ni, k⟩
    · refine ⟨_, rfl, .inl ⟨i, rfl, ?_⟩⟩
      walk_at "go"
      refine iteT (k_chain ?_)
      walk_at "go"
      refine k_ite (fun c => ?_) (fun c => ?_)
      · walk_at "go"
        rw [decide_eq_decide.mpr (show lo ≤ i ∧ i ≤ hi ↔ i ≤ hi from ⟨fun z => z.2, fun z => ⟨c, z⟩⟩)] at k
        exact k
      · walk_at "go"
        rw [decide_eq_false (show ¬ (lo ≤ i ∧ i ≤ hi) from fun z => c z.1)] at k
        exact k
    · refine ⟨_, rfl, .inr ⟨ni, ?_⟩⟩
      walk_at "go"
      exact iteF k
theorem ok_is_stand (T : Txt K mg) : FnOk P w K mg base (L2.CX P w) 3 T.a_is_stand T.fd_is_stand ["stands", "value"] (sp_is_stand K) := by
  refine T.F_is_stand.okX sc_is_stand (fun vs H Q E h => ?_) (fun cdv A outer s H vs Q E hr h => ?_)
  · obtain ⟨v, n, rfl, _⟩ := h
    rfl
  · obtain ⟨v, n, rfl, k⟩ := h
    refine ⟨_, (PSs.nox (pss_one (ps_ret (pe_call (ok_is_integer_between T) (hr.mono (by decide)) (by rfl) T.m_is_integer_between T.k_is_integer_between T.b_is_integer_between .nil passL (pa_cons (pv 1) (pa_cons pe_int (pa_cons (pe_op op_sub (pv 0) pe_int) pa_nil))))))), ?_⟩
    walk_at "begin"
    walk_at "go"
    refine ⟨v, 0, n - 1, rfl, ?_⟩
    rcases k with ⟨i, rfl, k⟩ | ⟨ht, k⟩
    · refine .inl ⟨i, rfl, ?_⟩
      rw [decide_eq_decide.mpr (show (0 ≤ i ∧ i < n) ↔ (0 ≤ i ∧ i ≤ n - 1) by omega)] at k
      exact k
    · exact .inr ⟨ht, k⟩
theorem ok_check_stands (T : Txt K mg) : FnOk P w K mg base (L2.CX P w) 3 T.a_check_stands T.fd_check_stands ["stands"] (sp_check_stands K) := by
  refine T.F_check_stands.okX sc_check_stands (fun vs H Q E h => ?_) (fun cdv A outer s H vs Q E hr h => ?_)
  · obtain ⟨n, rfl, _⟩ := h
    rfl
  · obtain ⟨n, rfl, n1, n8, k⟩ := h
    refine ⟨_, (PSs.nox (pss_one (ps_if (pt_not (pt_val (pe_call (ok_is_integer_between T) (hr.mono (by decide)) (by rfl) T.m_is_integer_between T.k_is_integer_between T.b_is_integer_between .nil passL (pa_cons (pv 0) (pa_cons pe_int (pa_cons (pe_glob (by rfl) T.m_MOST_STANDS T.r_MOST_STANDS) pa_nil))))))
  (pss_one ps_never)
  pss_nil))), ?_⟩
    walk_at "begin"
    walk_at "go"
    refine ⟨_, 1, 8, rfl, .inl ⟨n, rfl, ?_⟩⟩
    rw [decide_eq_true (show 1 ≤ n ∧ n ≤ 8 from ⟨n1, n8⟩)]
    walk_at "go"
    refine iteF ?_
    walk_at "go"
    exact k
end
/-! ### (int, text) <= (int, text) -/
def le2 (i : Int) (s : Str) (j : Int) (t : Str) : Bool := if i = j then (if s = t then true else !decide (t.cps.toList < s.cps.toList)) else decide (i ≤ j)
def rLe2 (K : PySem.W.Frag) : R2 := fun x y H Q => ∃ (a b : Addr) (i j : Int) (s t : Str), x = .ref a ∧ y = .ref b ∧ SqT K H a [.int i, .str s] ∧ SqT K H b [.int j, .str t] ∧ Q (.bl (le2 i s j t)) H
theorem op_le2 {X : Cx} (hu : X.A.units < cLine) : OpR X (compareOp .LtE) (rLe2 X.K) := by
  rintro pins st σ H x y v u Q I rx ry ⟨a, b, i, j, s, t, rfl, rfl, ha, hb, q⟩
  cases rx
  cases ry
  obtain ⟨us, r1, p1, _⟩ := I.tuple ha
  obtain ⟨ws, r2, p2, _⟩ := I.tuple hb
  obtain ⟨u1, u2, rfl, ⟨k1, rfl⟩, ⟨k2, rfl⟩⟩ := vals2 r1
  obtain ⟨w1, w2, rfl, ⟨l1, rfl⟩, ⟨l2, rfl⟩⟩ := vals2 r2
  have R := Ob.RcOp.tuples_le (A := X.A) (s := st) (e := fun n => if n = 0 then (i == j) else decide (s = t)) (r := fun n => if n = 0 then decide (i ≤ j) else !decide (t.cps.toList < s.cps.toList)) p1 p2 hu
    (fun n h1 h2 => by
      have n2 : n < 2 := h1
      match n, n2 with
      | 0, _ => exact SeqAt.EqAt.int_int _ _ _ _
      | 1, _ => exact SeqAt.EqAt.str_str _ _ _ _)
    (fun n h1 h2 _ => by
      have n2 : n < 2 := h1
      match n, n2 with
      | 0, _ => exact Ob.RcOp.le_int _ _ _ _
      | 1, _ => exact fun prog w E Q hQ => PySem.P.le_str hQ)
  have z : Ob.lexAt (fun n => if n = 0 then (i == j) else decide (s = t)) (fun n => if n = 0 then decide (i ≤ j) else !decide (t.cps.toList < s.cps.toList)) (decide ((2 : Nat) ≤ 2)) 0 (min 2 2) = le2 i s j t := by
    show Ob.lexAt _ _ _ 0 2 = _
    rw [Ob.lexAt_succ]
    unfold le2
    by_cases c : i = j
    · have c' : (i == j) = true := beq_iff_eq.mpr c
      simp only [if_pos, c', if_pos c]
      rw [Ob.lexAt_succ]
      by_cases d : s = t
      · simp [d, Ob.lexAt_zero]
      · simp [d]
    · have c' : (i == j) = false := beq_eq_false_iff_ne.mpr c
      simp [c']
      exact fun z => absurd z c
  have R' := R X.prog X.w X.xe (EP X pins σ Q) ⟨.bl _, H, I, rfl, (by rw [← z] at q; exact q)⟩
  exact R'
/-! ### steps, ends, machines -/
theorem ty_tup {K : PySem.W.Frag} {H : Hp} {p : Addr} {xs : List V} (h : SqT K H p xs) : TyX K H (.ref p) (.type "tuple") := by
  rcases h with (h | ⟨o, h⟩) | ⟨o, its, n, h, hc, _⟩
  · exact .base (.tup h)
  · exact .fTuple h
  · exact .kTuple h hc
theorem k_in {K : PySem.W.Frag} {neg : Bool} {H : Hp} {Q : VK} {p : Addr} {x : V} {xs : List V} (h : SqL K H p xs ∨ SqT K H p xs) (fx : flatV x = true) (fa : xs.all flatV = true) (q : Q (.bl (if neg then !inV x xs else inV x xs)) H) : rIn K neg x (.ref p) H Q := ⟨p, xs, rfl, h, fx, fa, q⟩
theorem letter_in {c : Nat} (h : 97 ≤ c) (h' : c ≤ 100) : inV (.str ⟨#[c]⟩) [V.str "a", V.str "b", V.str "c", V.str "d"] = true := by
  have z : c = 97 ∨ c = 98 ∨ c = 99 ∨ c = 100 := by omega
  rcases z with rfl | rfl | rfl | rfl <;> decide
theorem k_slA2 {K : PySem.W.Frag} {H : Hp} {Q : VK} {a : Addr} {x y z u : V} (h : SqT K H a [x, y, z, u]) (q : ∀ p, H p = none → Q (.ref p) (upd H p (.tup [x, y]))) : rSlA K (.ref a) none (some 2) H Q :=
  ⟨a, _, rfl, h, fun e => absurd e (by show ¬ ((0 : Nat) = 0 ∧ (2 : Nat) = 4); decide), fun _ p hp => q p hp⟩
theorem le2_no {s t : Stp} (h : s.lt t) : le2 (t.b : Nat) ⟨#[t.c]⟩ (s.b : Nat) ⟨#[s.c]⟩ = false := by
  unfold le2
  rcases h with h | ⟨h1, h2⟩
  · rw [if_neg (by omega), decide_eq_false (by omega)]
  · rw [if_pos (by omega), if_neg (by intro z; injection z with z; simp at z; omega)]
    simp
    exact List.Lex.rel h2
theorem few {n : Nat} (k : Nat) (h : k < 1000) (q : n ≤ k) : n < 1000 := Nat.lt_of_le_of_lt q h
def sp_is_step (K : PySem.W.Frag) : Sp := fun vs H Q _ => ∃ (n : Nat) (p : Addr) (s : Stp), vs = [.int (n : Nat), .ref p] ∧ SqT K H p (stpV s) ∧ s.Ok n ∧ Q (.bl true) H
def sp_check_steps (K : PySem.W.Frag) : Sp := fun vs H Q _ => ∃ (t : Addr) (us : List V) (m : MD), vs = [.int (m.n : Nat), .ref t] ∧ SqT K H t us ∧ StpsAt K H us m.ss ∧ m.Ok ∧ ∀ H', Same H H' → Q .non H'
def sp_check_ends (K : PySem.W.Frag) : Sp := fun vs H Q _ => ∃ (t : Addr) (m : MD), vs = [.int (m.n : Nat), .ref t] ∧ SqT K H t (nats m.es) ∧ m.Ok ∧ ∀ H', Same H H' → Q .non H'
/-- whether values are ascending integers from l to below n -/
def ascV (n : Int) : Int → List V → Bool
  | _, [] => true
  | l, .int j :: r => decide (l ≤ j ∧ j ≤ n - 1) && ascV n (j + 1) r
  | _, _ => false
theorem ascV_odd {n l : Int} {x : V} {r : List V} (h : ∀ j, x ≠ .int j) : ascV n l (x :: r) = false := by
  cases x with
  | int j => exact (h j rfl).elim
  | _ => rfl
theorem ascV_nats {n : Nat} : ∀ {es : List Nat} {l : Nat}, (∀ e ∈ es, e < n) → es.Pairwise (· < ·) → (∀ e ∈ es, l ≤ e) → ascV (n : Nat) (l : Nat) (nats es) = true
  | [], _, _, _, _ => rfl
  | e :: es, l, h1, h2, h3 => by
    show (decide (((l : Nat) : Int) ≤ (e : Nat) ∧ ((e : Nat) : Int) ≤ (n : Nat) - 1) && ascV (n : Nat) (((e + 1 : Nat)) : Int) (nats es)) = true
    have a := h1 e (List.mem_cons_self ..)
    have b := h3 e (List.mem_cons_self ..)
    have c := List.pairwise_cons.mp h2
    rw [decide_eq_true (by omega), ascV_nats (fun x hx => h1 x (List.mem_cons_of_mem _ hx)) c.2 (fun x hx => c.1 x hx)]
    rfl
def sp_asc (K : PySem.W.Frag) : Sp := fun vs H Q _ => ∃ (v : V) (n : Int), vs = [v, .int n] ∧ ((∃ ty, TyX K H v ty ∧ PySem.W.kitOne K ty (.type "tuple") = some false ∧ Q (.bl false) H) ∨
  ∃ t xs, v = .ref t ∧ SqT K H t xs ∧ (∀ x ∈ xs, (∃ j, x = .int j) ∨ (NotInt K H x ∧ ∀ j, x ≠ .int j)) ∧ Q (.bl (ascV n 0 xs)) H)
def sp_init (K : PySem.W.Frag) (C : Addr) : Sp := fun vs H Q _ => ∃ (x dx t u : Addr) (m : MD), vs = [.ref x, .int (m.n : Nat), .ref t, .ref u] ∧ H x = some (.ins C dx []) ∧ PartsAt K H t u m ∧ m.Ok ∧
  ∀ H', Keep x H H' → H' x = some (.ins C dx (mfs m.n t u)) → Q .non H'
def sp_machine (K : PySem.W.Frag) (C : Addr) : Sp := fun vs H Q _ => ∃ (d : Addr) (m : MD), vs = [.ref d] ∧ DAt K H d m ∧ m.Ok ∧ ∀ x H', Same H H' → H x = none → MAt K C H' x m → Q (.ref x) H'
section
variable {P : Program} {w : World} {K : PySem.W.Frag} {mg : Str → Option Value} {base : Heap}
theorem ok_is_step (T : Txt K mg) : FnOk P w K mg base (L2.CX P w) 4 T.a_is_step T.fd_is_step ["stands", "value"] (sp_is_step K) := by
  refine T.F_is_step.okX sc_is_step (fun vs H Q E h => ?_) (fun cdv A outer s H vs Q E hr h => ?_)
  · obtain ⟨n, p, s, rfl, _⟩ := h
    rfl
  · obtain ⟨n, p, t, rfl, hp, o, k⟩ := h
    refine ⟨_, (PSs.nox (pss_cons (ps_if (PW.pt (pw_or (pt_not (pt_val (pe_callB call_isi (by rfl) T.z_isinstance (by decide +kernel) (pa_cons (pv 1) (pa_cons (pe_bltn (v := .ty "tuple") (by rfl) T.z_tuple (by decide +kernel) rfl) pa_nil))))) (pw_or1 (pt_cmpR op_ne (pe_callB call_len_seq (by rfl) T.z_len PySem.boot_len (pa_cons (pv 1) pa_nil)) pe_int (nomark _)))))
  (pss_one (ps_ret pe_bl))
  pss_nil)
  (pss_cons (ps_asg (pv 1) (pg_tup rfl (pgs_cons (pg_name (i := 2) sc_is_step.nd rfl (Or.inl rfl)) (pgs_cons (pg_name (i := 3) sc_is_step.nd rfl (Or.inl rfl)) (pgs_cons (pg_name (i := 4) sc_is_step.nd rfl (Or.inl rfl)) (pgs_cons (pg_name (i := 5) sc_is_step.nd rfl (Or.inl rfl)) pgs_nil))))))
  (pss_one (ps_ret (pe_and (pe_call (ok_is_stand T) (hr.mono (by decide)) (by rfl) T.m_is_stand T.k_is_stand T.b_is_stand .nil passL (pa_cons (pv 0) (pa_cons (pv 2) pa_nil))) (pe_and (pe_cmpR op_in_seq (pv 3) (pe_glob (by rfl) T.m_LETTERS T.r_LETTERS) (by rfl)) (pe_and (pe_call (ok_is_stand T) (hr.mono (by decide)) (by rfl) T.m_is_stand T.k_is_stand T.b_is_stand .nil passL (pa_cons (pv 0) (pa_cons (pv 4) pa_nil))) (pe_one (pe_call (ok_is_integer_between T) (hr.mono (by decide)) (by rfl) T.m_is_integer_between T.k_is_integer_between T.b_is_integer_between .nil passL (pa_cons (pv 5) (pa_cons (pe_un un_neg (pe_glob (by rfl) T.m_MOST_GAIN T.r_MOST_GAIN)) (pa_cons (pe_glob (by rfl) T.m_MOST_GAIN T.r_MOST_GAIN) pa_nil))))))))))))), ?_⟩
    walk_at "begin"
    walk_at "go"
    refine k_isi (.ty _) (ty_tup hp) (kit_ty (b := "tuple") (r := true) (by decide +kernel)) ?_
    walk_at "go"
    refine iteF ?_
    walk_at "go"
    refine k_len (.inr hp) ?_
    walk_at "go"
    refine iteF ?_
    walk_at "go"
    refine k_gt hp rfl ?_
    unfold stpV
    walk_at "go"
    refine ⟨_, _, rfl, .inl ⟨_, rfl, ?_⟩⟩
    rw [decide_eq_true (show 0 ≤ ((t.b : Nat) : Int) ∧ ((t.b : Nat) : Int) < (n : Nat) from ⟨Int.natCast_nonneg _, by have := o.b; omega⟩)]
    walk_at "go"
    refine iteT ?_
    walk_at "go"
    refine k_in (.inr (T.s_LETTERS _)) rfl (by decide) ?_
    rw [letter_in o.c o.c']
    walk_at "go"
    refine iteT ?_
    walk_at "go"
    refine ⟨_, _, rfl, .inl ⟨_, rfl, ?_⟩⟩
    rw [decide_eq_true (show 0 ≤ ((t.e : Nat) : Int) ∧ ((t.e : Nat) : Int) < (n : Nat) from ⟨Int.natCast_nonneg _, by have := o.e; omega⟩)]
    walk_at "go"
    refine iteT ?_
    walk_at "go"
    refine ⟨_, _, _, rfl, .inl ⟨_, rfl, ?_⟩⟩
    rw [decide_eq_true (show -1000000000000000000000000000000 ≤ t.g ∧ t.g ≤ 1000000000000000000000000000000 from ⟨by have := o.g; omega, by have := o.g'; omega⟩)]
    exact k
theorem ok_check_steps (T : Txt K mg) : FnOk P w K mg base (L2.CX P w) 5 T.a_check_steps T.fd_check_steps ["stands", "steps"] (sp_check_steps K) := by
  refine T.F_check_steps.okX sc_check_steps (fun vs H Q E h => ?_) (fun cdv A outer s H vs Q E hr h => ?_)
  · obtain ⟨t, us, m, rfl, _⟩ := h
    rfl
  · obtain ⟨t, us, m, rfl, ht, hs, o, k⟩ := h
    refine ⟨_, (PSs.nox (pss_cons (ps_if (pt_not (pt_val (pe_callB call_isi (by rfl) T.z_isinstance (by decide +kernel) (pa_cons (pv 1) (pa_cons (pe_bltn (v := .ty "tuple") (by rfl) T.z_tuple (by decide +kernel) rfl) pa_nil)))))
  (pss_one ps_never)
  pss_nil)
  (pss_one (ps_for PassesOwn.never rfl (pi_enumT (by rfl) T.z_enumerate (pa_cons (pv 1) pa_nil)) (pg_tup rfl (pgs_cons (pg_name (i := 2) sc_check_steps.nd rfl (Or.inl rfl)) (pgs_cons (pg_name (i := 3) sc_check_steps.nd rfl (Or.inl rfl)) pgs_nil)))
  (pss_cons (ps_if (pt_not (pt_val (pe_call (ok_is_step T) (hr.mono (by decide)) (by rfl) T.m_is_step T.k_is_step T.b_is_step .nil passL (pa_cons (pv 0) (pa_cons (pv 3) pa_nil)))))
  (pss_one ps_never)
  pss_nil)
  (pss_one (ps_if (PW.pt (pw_and (pt_cmpR op_gt (pv 2) pe_int (nomark _)) (pw_and1 (pt_cmpR (op_le2 hr.units0) (pe_slice sl_tupA (pv 3) po_none (po_some pe_int)) (pe_slice sl_tupA (pe_ix ix_tup (pv 1) (pe_op op_sub (pv 2) pe_int) (fun _ _ => rfl)) po_none (po_some pe_int)) (nomark _)))))
  (pss_one ps_never)
  pss_nil))))))), ?_⟩
    walk_at "begin"
    walk_at "go"
    refine k_isi (.ty _) (ty_tup ht) (kit_ty (b := "tuple") (r := true) (by decide +kernel)) ?_
    walk_at "go"
    refine iteF ?_
    walk_at "go"
    refine ⟨_, rfl, t, us, rfl, ht, for_enumT (xs := us) (fun i σ H' => Same H H' ∧ ∃ a b, σ = [some (.int (m.n : Nat)), some (.ref t), a, b]) ⟨Same.refl _, _, _, rfl⟩ (fun i σ H' _ ⟨z, _⟩ => (same_tups z).sq ht) ?_ ?_⟩
    · rintro i x p σ H1 hx ⟨z, a, b, rfl⟩ hp
      have il : i < m.ss.length := by rw [← hs.1]; exact (List.getElem?_eq_some_iff.mp hx).1
      obtain ⟨q, eq, hq⟩ := hs.2 i _ (List.getElem?_eq_getElem il)
      rw [hx] at eq
      cases eq
      have z1 : Same H (upd H1 p (.tup [.int (i : Nat), .ref q])) := z.trans (Same.new hp)
      have hq1 := (same_tups z1).sq hq
      have ok1 := o.ok _ (List.getElem_mem il)
      refine k_gt (SqT.of upd_same) rfl ?_
      walk_at "go"
      refine ⟨m.n, q, _, rfl, hq1, ok1, ?_⟩
      walk_at "go"
      refine iteF ?_
      walk_at "go"
      refine k_ite (fun c => ?_) (fun c => iteF ?_)
      · walk_at "go"
        have jl : i - 1 < m.ss.length := by omega
        obtain ⟨q2, eq2, hq2⟩ := hs.2 (i - 1) _ (List.getElem?_eq_getElem jl)
        refine k_slA2 hq1 fun p1 n1 => ?_
        have z2 := z1.trans (Same.new (o := .tup [.int ((m.ss[i]'il).b : Nat), .str ⟨#[(m.ss[i]'il).c]⟩]) n1)
        walk_at "go"
        refine k_ixT ((same_tups z2).sq ht) (v := .ref q2) (at_of (j := i - 1) (by omega) eq2) ?_
        walk_at "go"
        refine k_slA2 ((same_tups z2).sq hq2) fun p2 n2 => ?_
        have z3 := z2.trans (Same.new (o := .tup [.int ((m.ss[i - 1]'jl).b : Nat), .str ⟨#[(m.ss[i - 1]'jl).c]⟩]) n2)
        refine ⟨p1, p2, _, _, _, _, rfl, rfl, SqT.of (Same.new n2 _ _ upd_same), SqT.of upd_same, ?_⟩
        · have up := List.pairwise_iff_getElem.mp o.up (i - 1) i jl il (by omega)
          rw [le2_no up]
          walk_at "go"
          refine iteF ?_
          walk_at "go"
          exact ⟨z3, _, _, rfl⟩
      · walk_at "go"
        exact ⟨z1, _, _, rfl⟩
    · rintro σ H1 ⟨z, _⟩
      exact k H1 z
theorem ok_is_ascending (T : Txt K mg) : FnOk P w K mg base (L2.CX P w) 3 T.a_is_ascending T.fd_is_ascending ["value", "many"] (sp_asc K) := by
  refine T.F_is_ascending.okX sc_is_ascending (fun vs H Q E h => ?_) (fun cdv A outer s H vs Q E hr h => ?_)
  · obtain ⟨v, n, rfl, _⟩ := h
    rfl
  · obtain ⟨v, n, rfl, h⟩ := h
    refine ⟨_, (PSs.nox (pss_cons (ps_if (pt_not (pt_val (pe_callB call_isi (by rfl) T.z_isinstance (by decide +kernel) (pa_cons (pv 0) (pa_cons (pe_bltn (v := .ty "tuple") (by rfl) T.z_tuple (by decide +kernel) rfl) pa_nil)))))
  (pss_one (ps_ret pe_bl))
  pss_nil)
  (pss_cons (ps_set (i := 2) sc_is_ascending.nd rfl (Or.inl rfl) pe_int)
  (pss_cons (ps_for PassesOwn.never rfl (pi_tup (pv 0)) (pg_name (i := 3) sc_is_ascending.nd rfl (Or.inl rfl))
  (pss_cons (ps_if (pt_not (pt_val (pe_call (ok_is_integer_between T) (hr.mono (by decide)) (by rfl) T.m_is_integer_between T.k_is_integer_between T.b_is_integer_between .nil passL (pa_cons (pv 3) (pa_cons (pv 2) (pa_cons (pe_op op_sub (pv 1) pe_int) pa_nil))))))
  (pss_one (ps_ret pe_bl))
  pss_nil)
  (pss_one (ps_set (i := 2) sc_is_ascending.nd rfl (Or.inl rfl) (pe_op op_add (pv 3) pe_int)))))
  (pss_one (ps_ret pe_bl)))))), ?_⟩
    walk_at "begin"
    walk_at "go"
    rcases h with ⟨ty, h1, h2, k⟩ | ⟨t, xs, rfl, ht, hx, k⟩
    · refine k_isi (.ty _) h1 h2 ?_
      walk_at "go"
      refine iteT ?_
      walk_at "go"
      exact k
    · refine k_isi (.ty _) (ty_tup ht) (kit_ty (b := "tuple") (r := true) (by decide +kernel)) ?_
      walk_at "go"
      refine iteF ?_
      walk_at "go"
      refine ⟨t, rfl, ⟨_, ht⟩, ?_⟩
      refine for_tup (xs := xs) (fun i σ H' => H' = H ∧ ∃ (l : Int) (a : Option V), σ = [some (.ref t), some (.int n), some (.int l), a] ∧ ascV n 0 xs = ascV n l (xs.drop i)) ⟨rfl, 0, _, rfl, rfl⟩ (fun i σ H' _ ⟨e, _⟩ => by rw [e]; exact ht) ?_ ?_
      · rintro i x σ H1 hx1 ⟨rfl, l, a, rfl, eq⟩
        have il : i < xs.length := (List.getElem?_eq_some_iff.mp hx1).1
        have dr : xs.drop i = x :: xs.drop (i + 1) := by rw [List.drop_eq_getElem_cons il, (List.getElem?_eq_some_iff.mp hx1).2]
        rw [dr] at eq
        walk_at "go"
        rcases hx x (List.mem_of_getElem? hx1) with ⟨j, rfl⟩ | ⟨ni, nj⟩
        · refine ⟨_, _, _, rfl, .inl ⟨j, rfl, ?_⟩⟩
          by_cases c : l ≤ j ∧ j ≤ n - 1
          · rw [decide_eq_true c]
            walk_at "go"
            refine iteF ?_
            walk_at "go"
            refine ⟨rfl, _, _, rfl, ?_⟩
            rw [eq]
            show (decide (l ≤ j ∧ j ≤ n - 1) && ascV n (j + 1) (xs.drop (i + 1))) = _
            rw [decide_eq_true c]
            rfl
          · rw [decide_eq_false c]
            walk_at "go"
            refine iteT ?_
            walk_at "go"
            have e2 : ascV n 0 xs = false := by
              rw [eq]
              show (decide (l ≤ j ∧ j ≤ n - 1) && ascV n (j + 1) (xs.drop (i + 1))) = _
              rw [decide_eq_false c]
              rfl
            rw [e2] at k
            exact k
        · refine ⟨_, _, _, rfl, .inr ⟨ni, ?_⟩⟩
          walk_at "go"
          refine iteT ?_
          walk_at "go"
          have e2 : ascV n 0 xs = false := by
            rw [eq]
            exact ascV_odd nj
          rw [e2] at k
          exact k
      · rintro σ H1 ⟨rfl, l, a, rfl, eq⟩
        rw [List.drop_length] at eq
        rw [eq] at k
        walk_at "go"
        exact k
theorem ok_check_ends (T : Txt K mg) : FnOk P w K mg base (L2.CX P w) 4 T.a_check_ends T.fd_check_ends ["stands", "ends"] (sp_check_ends K) := by
  refine T.F_check_ends.okX sc_check_ends (fun vs H Q E h => ?_) (fun cdv A outer s H vs Q E hr h => ?_)
  · obtain ⟨t, m, rfl, _⟩ := h
    rfl
  · obtain ⟨t, m, rfl, ht, o, k⟩ := h
    refine ⟨_, (PSs.nox (pss_one (ps_if (pt_not (pt_val (pe_call (ok_is_ascending T) (hr.mono (by decide)) (by rfl) T.m_is_ascending T.k_is_ascending T.b_is_ascending .nil passL (pa_cons (pv 1) (pa_cons (pv 0) pa_nil)))))
  (pss_one ps_never)
  pss_nil))), ?_⟩
    walk_at "begin"
    walk_at "go"
    refine ⟨_, _, rfl, .inr ⟨t, _, rfl, ht, fun x h => ?_, ?_⟩⟩
    · obtain ⟨e, _, rfl⟩ := List.mem_map.mp h
      exact .inl ⟨_, rfl⟩
    rw [show ascV (m.n : Nat) 0 (nats m.es) = true from ascV_nats (l := 0) (fun e h => o.eb e h) o.eu (fun _ _ => Nat.zero_le _)]
    walk_at "go"
    refine iteF ?_
    walk_at "go"
    exact k H (Same.refl _)
theorem ok_Machine_init (T : Txt K mg) : FnOk P w K mg base (L2.CX P w) 6 T.a_Machine_init T.fd_Machine_init ["self", "stands", "steps", "ends"] (sp_init K T.c_Machine) := by
  refine T.F_Machine_init.okX sc_Machine_init (fun vs H Q E h => ?_) (fun cdv A outer s H vs Q E hr h => ?_)
  · obtain ⟨x, dx, t, u, m, rfl, _⟩ := h
    rfl
  · obtain ⟨x, dx, t, u, m, rfl, hx, ⟨⟨us, ht, hs⟩, hu⟩, o, k⟩ := h
    refine ⟨_, (PSs.nox (pss_cons (ps_expr (pe_call (ok_check_stands T) (hr.mono (by decide)) (by rfl) T.m_check_stands T.k_check_stands T.b_check_stands .nil passL (pa_cons (pv 1) pa_nil)))
  (pss_cons (ps_expr (pe_call (ok_check_steps T) (hr.mono (by decide)) (by rfl) T.m_check_steps T.k_check_steps T.b_check_steps .nil passL (pa_cons (pv 1) (pa_cons (pv 2) pa_nil))))
  (pss_cons (ps_expr (pe_call (ok_check_ends T) (hr.mono (by decide)) (by rfl) T.m_check_ends T.k_check_ends T.b_check_ends .nil passL (pa_cons (pv 1) (pa_cons (pv 3) pa_nil))))
  (pss_cons (ps_fld (pv 0) (pv 1) rfl)
  (pss_cons (ps_fld (pv 0) (pv 2) rfl)
  (pss_one (ps_fld (pv 0) (pv 3) rfl)))))))), ?_⟩
    walk_at "begin"
    walk_at "go"
    refine ⟨_, rfl, by have := o.n1; omega, by have := o.n8; omega, ?_⟩
    walk_at "go"
    refine ⟨t, us, m, rfl, ht, hs, o, fun H1 z1 => ?_⟩
    walk_at "go"
    refine ⟨u, m, rfl, (same_tups z1).sq hu, o, fun H2 z2 => ?_⟩
    walk_at "go"
    have e2 : H2 x = some (.ins T.c_Machine dx []) := z2 _ _ (z1 _ _ hx)
    refine ⟨_, rfl, _, rfl, x, _, dx, _, rfl, e2, T.cl_Machine, T.n__stands, (by decide : 0 < 1000), ?_⟩
    refine ⟨_, rfl, _, rfl, x, _, dx, _, rfl, upd_same, T.cl_Machine, T.n__steps, few 1 (by decide) (length_putF _ _ _), ?_⟩
    refine ⟨_, rfl, _, rfl, x, _, dx, _, rfl, upd_same, T.cl_Machine, T.n__ends, few 2 (by decide) (Nat.le_trans (length_putF _ _ _) (Nat.succ_le_succ (length_putF _ _ _))), ?_⟩
    refine k _ (((Keep.of_same (z1.trans z2)).trans Keep.at_).trans (Keep.at_.trans Keep.at_)) ?_
    rw [upd_same]
    rfl
theorem ok_law_machine (T : Txt K mg) : FnOk P w K mg base (L2.CX P w) 8 T.a_law_machine T.fd_law_machine ["_law_d"] (sp_machine K T.c_Machine) := by
  refine T.F_law_machine.okX sc_law_machine (fun vs H Q E h => ?_) (fun cdv A outer s H vs Q E hr h => ?_)
  · obtain ⟨d, m, rfl, _⟩ := h
    rfl
  · obtain ⟨d, m, rfl, ⟨t, u, hd, hp⟩, o, k⟩ := h
    refine ⟨_, (PSs.nox (pss_one (ps_ret (pe_make T.mk_Machine (ok_Machine_init T) (hr.mono (by decide)) (by rfl) T.m_Machine T.b_Machine_init .nil passL (pa_cons (pe_dget (hu_of hr) (pv 0) pe_str (fun _ _ => rfl)) (pa_cons (pe_dget (hu_of hr) (pv 0) pe_str (fun _ _ => rfl)) (pa_cons (pe_dget (hu_of hr) (pv 0) pe_str (fun _ _ => rfl)) pa_nil))))))), ?_⟩
    walk_at "begin"
    walk_at "go"
    refine ⟨d, .int (m.n : Nat), rfl, DGet.k (k := .inr "stands") hd, ?_⟩
    walk_at "go"
    refine ⟨d, .ref t, rfl, DGet.k (k := .inr "steps") hd, ?_⟩
    walk_at "go"
    refine ⟨d, .ref u, rfl, DGet.k (k := .inr "ends") hd, ?_⟩
    walk_at "go"
    intro x dx hx hdx ne
    refine ⟨x, dx, t, u, m, rfl, upd_same, (same_tups ((Same.new hdx).trans (Same.new ?_))).parts hp, o, fun H' z e => ⟨rfl, ?_⟩⟩
    · rw [upd_ne ne.symm]; exact hx
    · have zz : Same H H' := fun b ob eb => z b ob (ne_of_none eb hx) (by rw [upd_ne (ne_of_none eb hx), upd_ne (ne_of_none eb hdx)]; exact eb)
      exact k x H' zz hx ⟨dx, t, u, e, (same_tups zz).parts hp⟩
end
/-! ### steps in a tuple or in a list -/
def SqS (K : PySem.W.Frag) (H : Hp) (a : Addr) (xs : List V) : Prop := SqT K H a xs ∨ SqL K H a xs
theorem SqS.same {K : PySem.W.Frag} {H H' : Hp} {a : Addr} {xs : List V} (h : SqS K H a xs) (z : Same H H') : SqS K H' a xs := h.imp (fun h => (same_tups z).sq h) fun h => z.seq h
def StSq (K : PySem.W.Frag) (H : Hp) (t : Addr) (ss : List Stp) : Prop := ∃ us, SqS K H t us ∧ StpsAt K H us ss
theorem StSq.of {K : PySem.W.Frag} {H : Hp} {t : Addr} {ss : List Stp} (h : StAt K H t ss) : StSq K H t ss := let ⟨us, a, b⟩ := h; ⟨us, .inl a, b⟩
theorem StSq.same {K : PySem.W.Frag} {H H' : Hp} {t : Addr} {ss : List Stp} (h : StSq K H t ss) (z : Same H H') : StSq K H' t ss := let ⟨us, a, b⟩ := h; ⟨us, a.same z, (same_tups z).steps b⟩
def iSq (K : PySem.W.Frag) (tl : TE) : TI := fun σ H R => iTup K tl σ H R ∨ iList K tl σ H R
theorem pi_sq {X : L2.Cx} {tg l : Expr} {tl : TE} (hl : PE X l tl) : PI X tg l (iSq X.K tl) := ⟨fun pins s σ H R I h => h.elim ((pi_tup hl).run pins s σ H R I) ((pi_list hl).run pins s σ H R I)⟩
theorem for_sq {K : PySem.W.Frag} {t : Addr} {xs : List V} {j : Nat} {g : TG} {tb : TS} {D : Ends} {σ : L2.St} {H Hb : Hp} (e : σ[j]? = some (some (.ref t))) (hx : SqS K Hb t xs) (Pv : Nat → L2.St → Hp → Prop) (h0 : Pv 0 σ H) (hl : ∀ i σ H, Pv i σ H → Same Hb H)
    (hs : ∀ i x σ H, xs[i]? = some x → Pv i σ H → g x σ H fun σ2 H2 => tb { D with nx := Pv (i + 1), ct := Pv (i + 1), bk := D.nx } σ2 H2) (hd : ∀ σ H, Pv xs.length σ H → D.nx σ H) :
    iSq K (tVar j) σ H fun J H1 => ∃ W : Nat → Nat → L2.St → Hp → Prop, (∃ m, W 0 m σ H1) ∧ ∀ i m σ H, W i m σ H →
      (J.stop i H ∧ D.nx σ H) ∨ (J.go i H ∧ ∃ N : L2.St → Hp → Prop, (∀ σ' H', N σ' H' → ∃ m', m' < m ∧ W (i + 1) m' σ' H') ∧ ∀ x H', J.yld i H x H' → g x σ H' fun σ2 H2 => tb { D with nx := N, ct := N, bk := D.nx } σ2 H2) := by
  have z0 := hl _ _ _ h0
  rcases hx with hx | hx
  · exact .inl (k_var e ⟨t, rfl, ⟨xs, (same_tups z0).sq hx⟩, for_tup Pv h0 (fun i σ H _ p => (same_tups (hl _ _ _ p)).sq hx) hs hd⟩)
  · exact .inr (k_var e ⟨t, rfl, ⟨xs, z0.seq hx⟩, for_list Pv h0 (fun i σ H _ p => (hl _ _ _ p).seq hx) hs hd⟩)
/-! ### itertools.combinations: its facts -/
section
open PySem PySem.Spec PyProof.Rows
theorem mro_comb : mroOf (.type "itertools.combinations") = pure [.type "itertools.combinations", .type "object"] := by rw [mroOf_type]; kernel_rfl
theorem lookup_comb_new : typeLookup (.type "itertools.combinations") "__new__" = pure (some (.builtin "itertools.combinations.__new__")) := by rw [typeLookup_type, builtinLookup_eq_fast]; kernel_rfl
theorem slot_comb_init : Slot "itertools.combinations" "__init__" "object.__init__" :=
  .of (owner := "object") (n := "__init__") (by rw [typeLookup_type, builtinLookup_eq_fast]; kernel_rfl) (by decide +kernel) (by decide +kernel) (by decide +kernel)
    (by first | exact .inl (by decide +kernel) | exact .inr (by decide +kernel)) (by rw [isSubtype_type]; kernel_rfl)
theorem sub_comb : isSubtype (.type "itertools.combinations") (.type "itertools.combinations") = pure true := by rw [isSubtype_type]; kernel_rfl
theorem called_comb : TypeCalled "itertools.combinations" "itertools.combinations.__new__" "object.__init__" :=
  ⟨by decide +kernel, by decide +kernel, ⟨_, _, mro_comb⟩, madeBy_type mro_comb lookup_comb_new (by decide +kernel), by decide +kernel, sub_comb, slot_comb_init⟩
theorem typeCall_comb (a b : Value) : checkTypeCall "itertools.combinations" ⟨[a, b], []⟩ = pure () := by kernel_rfl
theorem newCall_comb (a b : Value) : checkBuiltinCall "itertools.combinations.__new__" ⟨[.type "itertools.combinations", a, b], []⟩ = pure () := by kernel_rfl
theorem entry_comb_new : entryFor table "itertools.combinations.__new__" = some Builtin.«itertools.combinations.__new__» := entryFor_of_tree (by kernel_rfl)
theorem slot_comb_iter : Slot "itertools.combinations" "__iter__" "itertools.combinations.__iter__" :=
  .of (owner := "itertools.combinations") (n := "__iter__") (by rw [typeLookup_type, builtinLookup_eq_fast]; kernel_rfl) (by decide +kernel) (by decide +kernel) (by decide +kernel)
    (by first | exact .inl (by decide +kernel) | exact .inr (by decide +kernel)) sub_comb
theorem slot_comb_next : Slot "itertools.combinations" "__next__" "itertools.combinations.__next__" :=
  .of (owner := "itertools.combinations") (n := "__next__") (by rw [typeLookup_type, builtinLookup_eq_fast]; kernel_rfl) (by decide +kernel) (by decide +kernel) (by decide +kernel)
    (by first | exact .inl (by decide +kernel) | exact .inr (by decide +kernel)) sub_comb
theorem entry_comb_iter : entryFor table "itertools.combinations.__iter__" = some Builtin.«dict_keyiterator.__iter__» :=
  entryFor_alias (id' := "dict_keyiterator.__iter__") (by kernel_rfl) (by first | rfl | decide +kernel | (unfold String.splitOn; simp +decide [String.splitOnAux])) (by decide +kernel) (by kernel_rfl)
theorem entry_comb_next : entryFor table "itertools.combinations.__next__" = some Builtin.«itertools.combinations.__next__» := entryFor_of_tree (by kernel_rfl)
theorem owner_comb : Manifest.owners.lookup (String.ofList ['s', 'n', 'o', 'i', 't', 'a', 'n', 'i', 'b', 'm', 'o', 'c', '.', 's', 'l', 'o', 'o', 't', 'r', 'e', 't', 'i'].reverse) = some Manifest.sig_itertools_combinations := by kernel_rfl
theorem args_comb_iter (a : Value) : argsOk "itertools.combinations.__iter__" ⟨[a], []⟩ := by
  unfold argsOk; rw [signature?_of (id := "itertools.combinations.__iter__") (n := ['_', '_', 'r', 'e', 't', 'i', '_', '_']) (o := ['s', 'n', 'o', 'i', 't', 'a', 'n', 'i', 'b', 'm', 'o', 'c', '.', 's', 'l', 'o', 'o', 't', 'r', 'e', 't', 'i']) (by kernel_rfl) owner_comb]; kernel_rfl
theorem args_comb_next (a : Value) : argsOk "itertools.combinations.__next__" ⟨[a], []⟩ := by
  unfold argsOk; rw [signature?_of (id := "itertools.combinations.__next__") (n := ['_', '_', 't', 'x', 'e', 'n', '_', '_']) (o := ['s', 'n', 'o', 'i', 't', 'a', 'n', 'i', 'b', 'm', 'o', 'c', '.', 's', 'l', 'o', 'o', 't', 'r', 'e', 't', 'i']) (by kernel_rfl) owner_comb]; kernel_rfl
theorem noDict_comb : typeHasDict (.type "itertools.combinations") = false := by decide +kernel
/-- the state of one: its pool, whether it has begun (2: it is through), the last result, the places -/
abbrev IsComb (h : Heap) (it pool : Addr) (st : Int) (res : Value) (ix : List Nat) : Prop := h.get? it = some { cls := .type "itertools.combinations", dict := none, data := .fields ([Value.ref pool, rawInt st, res] ++ ix.map fun (i : Nat) => rawInt i).toArray, slots := #[] }
end
/-! ### combinations made -/
section
open PySem PySem.Spec PyProof.Rows
section
variable {prog : Program} {w : World} {A : Around} {E : Value → Shared → Prop} {s : Shared}
theorem comb_class {a b : Value} {Q : Value × List Value → Shared → Prop} (h : Q (.type "itertools.combinations", [a, b]) s) : wpAny (model prog w) A (Builtin.Itertools.itClassAndRest "combinations" ⟨[.type "itertools.combinations", a, b], []⟩) Q E s := by
  obtain ⟨hp, g, dd, tk, os⟩ := s
  have hsub := sub_comb
  unfold Builtin.Itertools.itClassAndRest
  repeat (first
    | wp_step
    | simp only [List.head?_cons, Option.some_or, List.getElem?_cons_succ, List.getElem?_cons_zero, List.length_cons, List.length_nil, List.forIn_nil])
  rw [show ("itertools." ++ "combinations") = "itertools.combinations" by decide +kernel]
  refine wpAny_of_eq hsub ?_
  exact wpAny_pure h
theorem comb_named {a b : Value} {Q : List (Option Value) → Shared → Prop} (h : Q [some a, some b] s) : wpAny (model prog w) A (Builtin.Itertools.itBindNamed "combinations" ["iterable", "r"] 2 2 [a, b] []) Q E s := by
  obtain ⟨hp, g, dd, tk, os⟩ := s
  unfold Builtin.Itertools.itBindNamed
  repeat (first
    | wp_step
    | simp only [List.head?_cons, Option.some_or, List.getElem?_cons_succ, List.getElem?_cons_zero, List.length_cons, List.length_nil, List.forIn_nil])
  all_goals exact h
theorem comb_size {r : Nat} {t : Tok} {Q : Int → Shared → Prop} (hr : r ≤ 1000) (h : Q (r : Nat) s) : wpAny (model prog w) A (Builtin.Itertools.itSsizeArg (.int (r : Nat) t)) Q E s := by
  obtain ⟨hp, g, dd, tk, os⟩ := s
  unfold Builtin.Itertools.itSsizeArg
  refine wpAny_bind (wpAny_of_eq (a := ((r : Nat) : Int)) rfl ?_)
  show wpAny _ _ (if _ then _ else _) _ _ _
  rw [if_neg]
  · exact wpAny_pure h
  · rw [decide_eq_false (by omega), decide_eq_false (by omega)]
    decide
end
theorem meets_comb_new (l : Addr) (items : List Value) (r : Nat) (t : Tok) (hr : r ≤ 1000) :
    Meets (Builtin.«itertools.combinations.__new__» ⟨[.type "itertools.combinations", .ref l, .int (r : Nat) t], []⟩)
      (fun _ R s => s.heap.IsList l items.toArray ∧ items.length ≤ 1000 ∧ ∀ (h' : Heap) (it pool : Addr), (∀ b o, s.heap.get? b = some o → h'.get? b = some o) → s.heap.objs.size ≤ it → s.heap.objs.size ≤ pool → it ≠ pool →
        h'.get? pool = some { cls := .type "tuple", data := .seq items.toArray } → IsComb h' it pool (if r > items.length then 2 else 0) .none (List.range r) → R (.ok (.ret (.ref it))) { s with heap := h' }) :=
  .of_wp fun prog w A R s h => by
    obtain ⟨hl, hn, h⟩ := h
    refine wpAny_bind ?_
    show wpAny _ _ (Builtin.Itertools.itClassAndRest "combinations" _ >>= _) _ _ _
    refine wpAny_bind (comb_class ?_)
    show wpAny _ _ (Builtin.Itertools.itBindNamed "combinations" _ _ _ _ _ >>= _) _ _ _
    refine wpAny_bind (comb_named ?_)
    show wpAny _ _ (Builtin.Itertools.itSsizeArg _ >>= _) _ _ _
    refine wpAny_bind (comb_size hr ?_)
    show wpAny _ _ (collect _ >>= _) _ _ _
    refine wpAny_bind (collect_list hl ?_ (by rw [sizeLine_eq]; omega))
    have hold : ∀ b o, s.heap.get? b = some o → ((s.heap.push (seqObj "list" #[] 0)).update s.heap.objs.size (Obj.mapSeq fun x => x ++ items.toArray)).get? b = some o := fun b o e => (Heap.get?_update_ne _ _ _ _ (Nat.ne_of_lt (Heap.lt_size e))).trans (Heap.get?_push_of_some _ e)
    have hsz : s.heap.objs.size ≤ ((s.heap.push (seqObj "list" #[] 0)).update s.heap.objs.size (Obj.mapSeq fun x => x ++ items.toArray)).objs.size := by
      rw [Heap.size_after_update, Heap.size_push]
      omega
    generalize (s.heap.push (seqObj "list" #[] 0)).update s.heap.objs.size (Obj.mapSeq fun x => x ++ items.toArray) = h1 at hold hsz
    show wpAny _ _ (if ((r : Nat) : Int) < 0 then _ else _) _ _ _
    rw [if_neg (by omega)]
    show wpAny _ _ (if Builtin.Itertools.itTooMany _ = true then _ else _) _ _ _
    rw [if_neg (by unfold Builtin.Itertools.itTooMany; rw [decide_eq_true_iff]; omega)]
    refine wpAny_bind (wpAny_newTuple ?_ (by rw [sizeLine_eq]; omega))
    refine wpAny_pure ?_
    show wpAny _ _ (Builtin.Itertools.itNewRecord _ _ >>= _) _ _ _
    refine wpAny_bind ?_
    unfold Builtin.Itertools.itNewRecord
    rw [noDict_comb]
    rw [if_pos (show (!false) = true from rfl)]
    refine wpAny_newObj_type ?_ ?_
    · refine wpAny_pure ⟨_, rfl, h _ _ _ (fun b o e => Heap.get?_push_of_some _ (Heap.get?_push_of_some _ (hold b o e))) ?_ hsz ?_ (Heap.get?_push_of_some _ (Heap.get?_push_size _ rfl)) ?_⟩
      · show s.heap.objs.size ≤ (h1.push _).objs.size
        rw [Heap.size_push]
        omega
      · show (h1.push _).objs.size ≠ h1.objs.size
        rw [Heap.size_push]
        omega
      · exact Heap.get?_push_size _ rfl
    · show (([_, _, _] ++ List.map (fun (i : Nat) => rawInt i) (List.range r)).toArray).size ≤ sizeLine + 2
      rw [List.size_toArray, List.length_append, List.length_map, List.length_range, sizeLine_eq]
      show 3 + r ≤ _
      omega
end
/-! ### combinations called, their turns -/
def nextC (n : Nat) (ix : List Nat) : Option (List Nat) :=
  let q := ix.length
  match (List.range q).reverse.find? fun j => ix.getD j 0 != j + n - q with
  | none => none
  | some j => some (ix.take j ++ (List.range (q - j)).map (ix.getD j 0 + 1 + ·))
section
open PySem PySem.Spec PyProof.Rows
variable {prog : Program} {w : World} {A : Around} {E : Value → Shared → Prop} {s : Shared}
theorem call_comb {l : Addr} {items : List Value} {r : Nat} {t : Tok} {Q : Value → Shared → Prop} (hr : r ≤ 1000) (hl : s.heap.IsList l items.toArray) (hn : items.length ≤ 1000)
    (h : ∀ (h' : Heap) (it pool : Addr), (∀ b o, s.heap.get? b = some o → h'.get? b = some o) → s.heap.objs.size ≤ it → s.heap.objs.size ≤ pool → it ≠ pool →
        h'.get? pool = some { cls := .type "tuple", data := .seq items.toArray } → IsComb h' it pool (if r > items.length then 2 else 0) .none (List.range r) → Q (.ref it) { s with heap := h' }) :
    wpAny (model prog w) A (call (.type "itertools.combinations") [.ref l, .int (r : Nat) t]) Q E s :=
  callType_new called_comb (by decide +kernel) (typeCall_comb _ _) (newCall_comb _ _) (fun obj => F.args_object_init_3 obj _ _) entry_comb_new (meets_comb_new l items r t hr)
    ⟨hl, hn, fun h' it pool a b c d e f => ⟨⟨_, f, rfl⟩, h h' it pool a b c d e f⟩⟩
theorem iter_comb {it pool : Addr} {st : Int} {res : Value} {ix : List Nat} {Q : Value → Shared → Prop} (hit : IsComb s.heap it pool st res ix) (h : Q (.ref it) s) : wpAny (model prog w) A (pyIter (.ref it)) Q E s := by
  have hT : s.TypeIs (.ref it) "itertools.combinations" := ⟨_, hit, rfl⟩
  refine wpAny_pyIter_slot hT slot_comb_iter (wpAny_call_entry slot_comb_iter hT entry_comb_iter ?_ (args_comb_iter _))
  show wpAny _ _ (ret (.ref it)) _ _ s
  exact wpAny_pure ⟨_, rfl, "itertools.combinations", _, hT, slot_comb_next.lookup, h⟩
theorem comb_numbers {it pool : Addr} {st : Int} {res : Value} {ix : List Nat} {Q : List Nat → Shared → Prop} (hit : IsComb s.heap it pool st res ix) (h : Q ix s) : wpAny (model prog w) A (Builtin.Itertools.itNumbersFrom (.ref it) 3) Q E s := by
  unfold Builtin.Itertools.itNumbersFrom
  refine wpAny_bind (wpAny_load hit ?_)
  refine wpAny_pure ?_
  have e : ((([Value.ref pool, rawInt st, res] ++ ix.map fun (i : Nat) => rawInt i).toArray.toList.drop 3).map fun | .int n _ => n.toNat | _ => 0) = ix := by
    show ((ix.map fun (i : Nat) => rawInt i).map _) = ix
    rw [List.map_map]
    conv => rhs; rw [← List.map_id ix]
    exact List.map_congr_left fun i _ => rfl
  rw [← e] at h
  exact h
theorem comb_state {it pool : Addr} {st : Int} {res : Value} {ix : List Nat} {Q : Int → Shared → Prop} (hit : IsComb s.heap it pool st res ix) (h : Q st s) : wpAny (model prog w) A (Builtin.Itertools.itIntField (.ref it) 1) Q E s := by
  unfold Builtin.Itertools.itIntField
  exact wpAny_bind (wpAny_field hit rfl (x := rawInt st) rfl (wpAny_pure h))
theorem comb_hand {it pool : Addr} {st : Int} {res : Value} {jx ix : List Nat} {items : List Value} {Q : Fin → Shared → Prop} (hit : IsComb s.heap it pool st res jx) (hp : s.heap.get? pool = some { cls := .type "tuple", data := .seq items.toArray }) (hl : ix.length ≤ 1000)
    (hQ : ∀ h', IsComb h' it pool st (.ref s.heap.objs.size) jx → h'.get? s.heap.objs.size = some { cls := .type "tuple", data := .seq (ix.map fun k => items.getD k .none).toArray } → (∀ b o, b ≠ it → s.heap.get? b = some o → h'.get? b = some o) → Q (.done (.ret (.ref s.heap.objs.size))) { s with heap := h' }) :
    wpAny (model prog w) A ((Builtin.Itertools.itPoolItems (.ref pool) >>= fun its => newTuple (ix.map fun i => its.getD i .none)) >>= fun result => field (.ref it) 2 >>= fun before => setField (.ref it) 2 result >>= fun _ => letGo [before] [result] >>= fun _ => ret result) Q E s := by
  have eg : (fun i => items.toArray.getD i Value.none) = fun i => items.getD i Value.none := by
    funext i
    by_cases h : i < items.length
    · simp [Array.getD, List.getD, h]
    · simp [Array.getD, List.getD, h]
  have il : it < s.heap.objs.size := Heap.lt_size hit
  refine wpAny_bind ?_
  unfold Builtin.Itertools.itPoolItems
  refine wpAny_bind (wpAny_bind (wpAny_seqItems hp rfl ?_))
  refine wpAny_pure ?_
  rw [eg]
  refine wpAny_newTuple ?_ (by rw [List.length_map, sizeLine_eq]; omega)
  have hit1 := Heap.get?_push_of_some { cls := .type "tuple", data := .seq (ix.map fun k => items.getD k .none).toArray } hit
  refine wpAny_bind (wpAny_field hit1 rfl (x := res) rfl ?_)
  refine wpAny_bind (wpAny_setField hit1 rfl (by simp) ?_)
  refine wpAny_bind (wpAny_letGo ?_)
  refine wpAny_pure ?_
  refine hQ _ (Heap.get?_update_self _ hit1 rfl) ?_ fun b o nb e => ?_
  · exact (Heap.get?_update_ne _ _ _ _ (Nat.ne_of_gt il)).trans (Heap.get?_push_size _ rfl)
  · exact (Heap.get?_update_ne _ _ _ _ nb).trans (Heap.get?_push_of_some _ e)
theorem comb_item0 {it pool : Addr} {res : Value} {ix : List Nat} {items : List Value} {Q : Option Value → Shared → Prop} (hit : IsComb s.heap it pool 0 res ix) (hp : s.heap.get? pool = some { cls := .type "tuple", data := .seq items.toArray }) (ne : it ≠ pool) (hl : ix.length ≤ 1000)
    (hQ : ∀ h', IsComb h' it pool 1 (.ref s.heap.objs.size) ix → h'.get? s.heap.objs.size = some { cls := .type "tuple", data := .seq (ix.map fun k => items.getD k .none).toArray } → (∀ b o, b ≠ it → s.heap.get? b = some o → h'.get? b = some o) → Q (some (.ref s.heap.objs.size)) { s with heap := h' }) :
    wpAny (model prog w) A (pyNext (.ref it)) Q E s := by
  have hT : s.TypeIs (.ref it) "itertools.combinations" := ⟨_, hit, rfl⟩
  unfold pyNext
  refine wpAny_bind (wpAny_attempt (wpAny_callSpecial?_slot (name := Str.ofString "__next__") hT slot_comb_next (wpAny_call_entry slot_comb_next hT entry_comb_next ?_ (args_comb_next _))))
  show wpAny _ _ (field (.ref it) 0 >>= _) _ _ s
  refine wpAny_bind (wpAny_field hit rfl (x := .ref pool) rfl ?_)
  show wpAny _ _ (Builtin.Itertools.itNumbersFrom (.ref it) 3 >>= _) _ _ s
  refine wpAny_bind (comb_numbers hit ?_)
  show wpAny _ _ (Builtin.Itertools.itIntField (.ref it) 1 >>= _) _ _ s
  refine wpAny_bind (comb_state hit ?_)
  show wpAny _ _ (setField (.ref it) 1 (rawInt 1) >>= _) _ _ s
  refine wpAny_bind (wpAny_setField hit rfl (by simp) ?_)
  have hit1 : IsComb (s.heap.update it (Obj.mapFields fun x => x.setIfInBounds 1 (rawInt 1))) it pool 1 res ix := Heap.get?_update_self _ hit rfl
  have hp1 : (s.heap.update it (Obj.mapFields fun x => x.setIfInBounds 1 (rawInt 1))).get? pool = some { cls := .type "tuple", data := .seq items.toArray } := (Heap.get?_update_ne _ _ _ _ ne.symm).trans hp
  have hsz : (s.heap.update it (Obj.mapFields fun x => x.setIfInBounds 1 (rawInt 1))).objs.size = s.heap.objs.size := Heap.size_after_update _ _ _
  have hk : ∀ b o, b ≠ it → s.heap.get? b = some o → (s.heap.update it (Obj.mapFields fun x => x.setIfInBounds 1 (rawInt 1))).get? b = some o := fun b o nb e => (Heap.get?_update_ne _ _ _ _ nb).trans e
  generalize s.heap.update it (Obj.mapFields fun x => x.setIfInBounds 1 (rawInt 1)) = h1 at hit1 hp1 hsz hk
  refine comb_hand (s := { s with heap := h1 }) hit1 hp1 hl fun h' a b c => ⟨_, rfl, wpAny_pure ?_⟩
  have a : IsComb h' it pool 1 (.ref h1.objs.size) ix := a
  have b : h'.get? h1.objs.size = _ := b
  rw [hsz] at a b
  show Q (some (.ref h1.objs.size)) { s with heap := h' }
  rw [hsz]
  exact hQ h' a b fun b o nb e => c b o nb (hk b o nb e)
theorem comb_item1 {it pool : Addr} {res : Value} {jx ix : List Nat} {items : List Value} {Q : Option Value → Shared → Prop} (hit : IsComb s.heap it pool 1 res jx) (hp : s.heap.get? pool = some { cls := .type "tuple", data := .seq items.toArray }) (ne : it ≠ pool) (hn : nextC items.length jx = some ix) (hl : ix.length ≤ 1000)
    (hQ : ∀ h', IsComb h' it pool 1 (.ref s.heap.objs.size) ix → h'.get? s.heap.objs.size = some { cls := .type "tuple", data := .seq (ix.map fun k => items.getD k .none).toArray } → (∀ b o, b ≠ it → s.heap.get? b = some o → h'.get? b = some o) → Q (some (.ref s.heap.objs.size)) { s with heap := h' }) :
    wpAny (model prog w) A (pyNext (.ref it)) Q E s := by
  have hT : s.TypeIs (.ref it) "itertools.combinations" := ⟨_, hit, rfl⟩
  unfold pyNext
  refine wpAny_bind (wpAny_attempt (wpAny_callSpecial?_slot (name := Str.ofString "__next__") hT slot_comb_next (wpAny_call_entry slot_comb_next hT entry_comb_next ?_ (args_comb_next _))))
  show wpAny _ _ (field (.ref it) 0 >>= _) _ _ s
  refine wpAny_bind (wpAny_field hit rfl (x := .ref pool) rfl ?_)
  show wpAny _ _ (Builtin.Itertools.itNumbersFrom (.ref it) 3 >>= _) _ _ s
  refine wpAny_bind (comb_numbers hit ?_)
  show wpAny _ _ (Builtin.Itertools.itIntField (.ref it) 1 >>= _) _ _ s
  refine wpAny_bind (comb_state hit ?_)
  show wpAny _ _ (Builtin.Itertools.itPoolItems (.ref pool) >>= _) _ _ s
  unfold Builtin.Itertools.itPoolItems
  refine wpAny_bind (wpAny_bind (wpAny_seqItems hp rfl ?_))
  refine wpAny_pure ?_
  split
  · rename_i nx hnx
    have hnx : nextC items.length jx = some nx := hnx
    rw [hn] at hnx
    cases hnx
    show wpAny _ _ (Builtin.Itertools.itSetNumbersFrom (.ref it) 3 ix >>= _) _ _ s
    unfold Builtin.Itertools.itSetNumbersFrom
    refine wpAny_bind (wpAny_updateFields hit rfl ?_ ?_)
    · have ea : (([Value.ref pool, rawInt 1, res] ++ jx.map fun (i : Nat) => rawInt i).toArray.extract 0 3 ++ (ix.map fun (n : Nat) => rawInt n).toArray) = ([Value.ref pool, rawInt 1, res] ++ ix.map fun (n : Nat) => rawInt n).toArray := by
        apply Array.toList_inj.mp
        rw [Array.toList_append, Array.toList_extract]
        rfl
      have hit1 : IsComb (s.heap.update it (Obj.mapFields fun fs => fs.extract 0 3 ++ (ix.map fun (n : Nat) => rawInt n).toArray)) it pool 1 res ix := by
        have h := Heap.get?_update_self (Obj.mapFields fun fs => fs.extract 0 3 ++ (ix.map fun (n : Nat) => rawInt n).toArray) hit rfl
        have e2 : (Obj.mapFields (fun fs => fs.extract 0 3 ++ (ix.map fun (n : Nat) => rawInt n).toArray) { cls := .type "itertools.combinations", dict := none, data := .fields ([Value.ref pool, rawInt 1, res] ++ jx.map fun (i : Nat) => rawInt i).toArray, slots := #[] } : Obj) = { cls := .type "itertools.combinations", dict := none, data := .fields ([Value.ref pool, rawInt 1, res] ++ ix.map fun (n : Nat) => rawInt n).toArray, slots := #[] } := by
          rw [← ea]
          rfl
        rw [e2] at h
        exact h
      have hp1 := (Heap.get?_update_ne s.heap pool it (Obj.mapFields fun fs => fs.extract 0 3 ++ (ix.map fun (n : Nat) => rawInt n).toArray) ne.symm).trans hp
      have hsz : (s.heap.update it (Obj.mapFields fun fs => fs.extract 0 3 ++ (ix.map fun (n : Nat) => rawInt n).toArray)).objs.size = s.heap.objs.size := Heap.size_after_update _ _ _
      have hk : ∀ b o, b ≠ it → s.heap.get? b = some o → (s.heap.update it (Obj.mapFields fun fs => fs.extract 0 3 ++ (ix.map fun (n : Nat) => rawInt n).toArray)).get? b = some o := fun b o nb e => (Heap.get?_update_ne _ _ _ _ nb).trans e
      clear ea
      generalize s.heap.update it (Obj.mapFields fun fs => fs.extract 0 3 ++ (ix.map fun (n : Nat) => rawInt n).toArray) = h1 at hit1 hp1 hsz hk
      refine comb_hand (s := { s with heap := h1 }) hit1 hp1 hl fun h' a b c => ⟨_, rfl, wpAny_pure ?_⟩
      have a : IsComb h' it pool 1 (.ref h1.objs.size) ix := a
      have b : h'.get? h1.objs.size = _ := b
      rw [hsz] at a b
      show Q (some (.ref h1.objs.size)) { s with heap := h' }
      rw [hsz]
      exact hQ h' a b fun b o nb e => c b o nb (hk b o nb e)
    · rw [Array.size_append, Array.size_extract, List.size_toArray, List.size_toArray, List.length_map, sizeLine_eq]
      omega
  · rename_i hnx
    have hnx : nextC items.length jx = none := hnx
    rw [hn] at hnx
    cases hnx
theorem comb_stop {it : Addr} {h0 : Heap} {Q : Option Value → Shared → Prop} {R : Fin → Shared → Prop} (hh : A.handled = none) (hR : ∀ e h', (∃ a o, e = .ref a ∧ h'.get? a = some o ∧ o.cls = .type "StopIteration") → Heap.ExtBut it s.heap h' → E e { s with heap := h' }) :
    wpAny (model prog w) A.in1 (Builtin.Itertools.itStop : Sem Fin) R E s := by
  show wpAny _ _ (newExc (.type "StopIteration") [] >>= _) _ _ _
  refine wpAny_bind ?_
  simp only [newExc, newTuple]
  refine wpAny_bind (wpAny_newObj_type ?_ (by size_fits))
  refine wpAny_bind (m := firstArgMember _ _) (wpAny_of_eq (a := Value.none) (by first | rfl | (simp only [firstArgMember]; rfl)) ?_)
  refine wpAny_newObj_type ?_ (by size_fits)
  simp only [raiseNew]
  refine wpAny_bind (wpAny_handled ?_)
  rw [show A.in1.handled = none from hh]
  refine wpAny_bind (wpAny_pure (wpAny_throw ?_))
  exact hR _ _ ⟨_, _, rfl, Heap.get?_push_size _ rfl, rfl⟩ (((Heap.ExtBut.refl it s.heap).push _).push _)
theorem comb_end {it pool : Addr} {st : Int} {res : Value} {jx : List Nat} {items : List Value} {Q : Option Value → Shared → Prop} (hh : A.handled = none) (hit : IsComb s.heap it pool st res jx) (hp : s.heap.get? pool = some { cls := .type "tuple", data := .seq items.toArray })
    (hn : st = 2 ∨ (st = 1 ∧ nextC items.length jx = none)) (hQ : ∀ h', Heap.ExtBut it s.heap h' → Q none { s with heap := h' }) : wpAny (model prog w) A (pyNext (.ref it)) Q E s := by
  have hT : s.TypeIs (.ref it) "itertools.combinations" := ⟨_, hit, rfl⟩
  unfold pyNext
  refine wpAny_bind (wpAny_attempt (wpAny_callSpecial?_slot (name := Str.ofString "__next__") hT slot_comb_next (wpAny_call_entry slot_comb_next hT entry_comb_next ?_ (args_comb_next _))))
  show wpAny _ _ (field (.ref it) 0 >>= _) _ _ s
  refine wpAny_bind (wpAny_field hit rfl (x := .ref pool) rfl ?_)
  show wpAny _ _ (Builtin.Itertools.itNumbersFrom (.ref it) 3 >>= _) _ _ s
  refine wpAny_bind (comb_numbers hit ?_)
  show wpAny _ _ (Builtin.Itertools.itIntField (.ref it) 1 >>= _) _ _ s
  refine wpAny_bind (comb_state hit ?_)
  have fin : ∀ {e : Value} {h' : Heap}, (∃ a o, e = .ref a ∧ h'.get? a = some o ∧ o.cls = .type "StopIteration") → Heap.ExtBut it s.heap h' → wpAny (model prog w) A (isInstance e (.type "StopIteration") >>= fun b => if b = true then pure none else throw e) Q E { s with heap := h' } := by
    rintro _ h' ⟨a, o, rfl, e1, e2⟩ ext
    refine wpAny_bind (wpAny_isInstance (T := "StopIteration") (b := true) ⟨_, e1, e2⟩ isSubtype_stop ?_)
    exact wpAny_pure (hQ _ ext)
  rcases hn with rfl | ⟨rfl, hn⟩
  · show wpAny _ _ (rule _ >>= _) _ _ s
    refine wpAny_bind (wpAny_rule ?_)
    exact comb_stop (Q := Q) (it := it) (h0 := s.heap) hh fun e h' a b => fin a b
  · show wpAny _ _ (Builtin.Itertools.itPoolItems (.ref pool) >>= _) _ _ s
    unfold Builtin.Itertools.itPoolItems
    refine wpAny_bind (wpAny_bind (wpAny_seqItems hp rfl ?_))
    refine wpAny_pure ?_
    split
    · rename_i nx hnx
      have hnx : nextC items.length jx = some nx := hnx
      rw [hn] at hnx
      cases hnx
    · refine wpAny_bind (wpAny_setField hit rfl (by simp) ?_)
      exact comb_stop (Q := Q) (it := it) (h0 := s.heap) hh fun e h' a b => fin a ((Heap.SameBut.update ..).extBut.trans b)
end
/-! ### a walk over combinations -/
/-- the places of the i-th combination -/
def cseq (n r : Nat) : Nat → Option (List Nat)
  | 0 => if r > n then none else some (List.range r)
  | i + 1 => (cseq n r i).bind (nextC n)
theorem nextC_len {n : Nat} {ix jx : List Nat} (h : nextC n ix = some jx) : jx.length = ix.length := by
  unfold nextC at h
  cases e : (List.range ix.length).reverse.find? fun j => ix.getD j 0 != j + n - ix.length with
  | none =>
    simp only [e] at h
    cases h
  | some j =>
    simp only [e] at h
    cases h
    have := List.mem_of_find?_eq_some e
    rw [List.mem_reverse, List.mem_range] at this
    rw [List.length_append, List.length_take, List.length_map, List.length_range]
    omega
theorem cseq_len {n r : Nat} : ∀ {i : Nat} {ix : List Nat}, cseq n r i = some ix → ix.length = r
  | 0, ix, h => by
    unfold cseq at h
    split at h
    · cases h
    · cases h
      exact List.length_range
  | i + 1, ix, h => by
    obtain ⟨jx, h1, h2⟩ := Option.bind_eq_some_iff.mp h
    rw [nextC_len h2, cseq_len h1]
def pickV (xs : List V) (ix : List Nat) : List V := ix.map fun k => xs.getD k .non
/-- the combinations of r of the items, each in a new tuple -/
def Itcb (xs : List V) (r : Nat) : It :=
  ⟨fun i _ => ∃ ix, cseq xs.length r i = some ix, fun i H v H' => ∃ T ix, cseq xs.length r i = some ix ∧ v = .ref T ∧ H T = none ∧ H' = upd H T (.tup (pickV xs ix)), fun i _ => cseq xs.length r i = none⟩
/-- how it stands ahead of the i-th turn -/
def CombAt (items : List Value) (r : Nat) (it pool : Addr) : Nat → Heap → Prop
  | 0, h => it ≠ pool ∧ h.get? pool = some { cls := .type "tuple", data := .seq items.toArray } ∧ IsComb h it pool (if r > items.length then 2 else 0) .none (List.range r)
  | i + 1, h => it ≠ pool ∧ h.get? pool = some { cls := .type "tuple", data := .seq items.toArray } ∧ ∃ res ix, cseq items.length r i = some ix ∧ IsComb h it pool 1 res ix
theorem CombAt.ne {items : List Value} {r : Nat} {it pool : Addr} : ∀ {i : Nat} {h : Heap}, CombAt items r it pool i h → it ≠ pool ∧ h.get? pool = some { cls := .type "tuple", data := .seq items.toArray } ∧ ∃ st res ix, IsComb h it pool st res ix
  | 0, _, ⟨a, b, c⟩ => ⟨a, b, _, _, _, c⟩
  | _ + 1, _, ⟨a, b, _, _, _, c⟩ => ⟨a, b, _, _, _, c⟩
theorem pick_vals {xs : List V} {items : List Value} (rv : Vals xs items) : ∀ ix : List Nat, Vals (pickV xs ix) (ix.map fun k => items.getD k .none)
  | [] => .nil
  | k :: ix => by
    refine .cons ?_ (pick_vals rv ix)
    show RelV (xs.getD k V.non) (items.getD k Value.none)
    by_cases c : k < xs.length
    · obtain ⟨u, hu, ru⟩ := rv.get (List.getElem?_eq_getElem c)
      rw [List.getD_eq_getElem?_getD, List.getD_eq_getElem?_getD, hu, List.getElem?_eq_getElem c]
      exact ru
    · rw [List.getD_eq_getElem?_getD, List.getD_eq_getElem?_getD, List.getElem?_eq_none (by omega), List.getElem?_eq_none (by rw [← rv.length]; omega)]
      exact rfl
section
open PySem PySem.Spec PyProof.Rows
theorem turn_comb {P : Program} {w : World} {K : PySem.W.Frag} {tg : Expr} {xs : List V} {items : List Value} {r : Nat} (rv : Vals xs items) (hr : r ≤ 1000) (it pool : Addr) :
    Turn P w K tg (Itcb xs r) [it, pool] it (CombAt items r it pool) where
  mem := by simp
  obj := fun i h st b hb => by
    obtain ⟨_, hp, _, _, _, hc⟩ := st.ne
    have e' : b = it ∨ b = pool := by simpa using hb
    rcases e' with z | z
    · rw [z]; exact ⟨_, hc, fun v q => nomatch q⟩
    · rw [z]; exact ⟨_, hp, fun v q => nomatch q⟩
  keep := fun i h h' st k => by
    cases i with
    | zero => exact ⟨st.1, k pool (by simp) _ st.2.1, k it (by simp) _ st.2.2⟩
    | succ i =>
      obtain ⟨a, b, res, ix, c, d⟩ := st
      exact ⟨a, k pool (by simp) _ b, res, ix, c, k it (by simp) _ d⟩
  item := by
    intro X hP hw hK hc i pins s σ H E I hf st hg
    subst hP hw hK
    obtain ⟨ix, hix⟩ := hg
    have hl : items.length = xs.length := rv.length.symm
    have len := cseq_len hix
    have fin : ∀ h', IsComb h' it pool 1 (.ref s.heap.objs.size) ix → h'.get? s.heap.objs.size = some { cls := .type "tuple", data := .seq (ix.map fun k => items.getD k .none).toArray } → (∀ b o, b ≠ it → s.heap.get? b = some o → h'.get? b = some o) →
        ∃ u, some (Value.ref s.heap.objs.size) = some u ∧ wpAny (model X.prog X.w) X.A (letOwnedTupleGo tg (.ref it) u) (fun _ s2 => ∃ x H', Inv X pins σ H' s2 ∧ RelV x u ∧ (Itcb xs r).yld i H x H' ∧ CombAt items r it pool (i + 1) s2.heap ∧ ∀ b ∈ [it, pool], H' b = none) E { s with heap := h' } := by
      intro h' a b c
      refine ⟨_, rfl, ?_⟩
      have new : ObjOk X.prog X.w (upd H s.heap.objs.size (.tup (pickV xs ix))) h' s.heap.objs.size (.tup (pickV xs ix)) :=
        ⟨by unfold pickV; rw [List.length_map, len, sizeLine_eq]; omega, _, pick_vals rv ix, ⟨_, b, rfl, _, rfl⟩⟩
      have I1 : Inv X pins σ (upd H s.heap.objs.size (.tup (pickV xs ix))) { s with heap := h' } :=
        I.turnedNew (t' := s.toks) (ch := [it, pool]) (fun b ob hb q => c b ob (fun z => hb (by simp [z])) q) hf (Nat.le_refl _) new
      obtain ⟨ne, hp, _, _, _, hcomb⟩ := st.ne
      refine go_of (s := { s with heap := h' }) a rfl rfl (by decide) ⟨.ref s.heap.objs.size, _, I1, rfl, ⟨_, ix, hix, rfl, I.hok.fresh (Nat.le_refl _), rfl⟩, ⟨ne, c _ _ ne.symm hp, _, ix, by rw [hl]; exact hix, a⟩, fun b hb => ?_⟩
      have hb' : b < s.heap.objs.size := by
        have e' : b = it ∨ b = pool := by simpa using hb
        rcases e' with z | z
        · rw [z]; exact Heap.lt_size hcomb
        · rw [z]; exact Heap.lt_size hp
      rw [upd_ne (Nat.ne_of_lt hb')]
      exact (hf b hb).1
    cases i with
    | zero =>
      obtain ⟨ne, hp, hcomb⟩ := st
      have hle : ¬ r > items.length := fun z => by
        unfold cseq at hix
        rw [if_pos (by rw [← hl]; exact z)] at hix
        cases hix
      rw [if_neg hle] at hcomb
      have hx : ix = List.range r := by
        unfold cseq at hix
        rw [if_neg (by rw [← hl]; exact hle)] at hix
        exact (Option.some.inj hix).symm
      subst hx
      exact comb_item0 hcomb hp ne (by rw [len]; exact hr) fin
    | succ i =>
      obtain ⟨ne, hp, res, jx, hj, hcomb⟩ := st
      have hn : nextC items.length jx = some ix := by
        have h := hix
        unfold cseq at h
        rw [← hl, hj] at h
        exact h
      exact comb_item1 hcomb hp ne hn (by rw [len]; exact hr) fin
  done := by
    intro X hP hw hK hc i pins s σ H E I hf st hg
    subst hP hw hK
    obtain ⟨f0, f1, f2, f3, f4, f5⟩ := hf it (by simp)
    have hl : items.length = xs.length := rv.length.symm
    have hg : cseq xs.length r i = none := hg
    have fin : ∀ h', Heap.ExtBut it s.heap h' → (none : Option Value) = none ∧ Inv X pins σ H { s with heap := h' } := fun h' eb => ⟨rfl, I.turned (t' := s.toks) (fun b o hb q => eb b o hb q) f0 f1 f3 f4 f5⟩
    cases i with
    | zero =>
      obtain ⟨ne, hp, hcomb⟩ := st
      have hgt : r > items.length := Classical.byContradiction fun z => by
        unfold cseq at hg
        rw [if_neg (by rw [← hl]; exact z)] at hg
        cases hg
      rw [if_pos hgt] at hcomb
      exact comb_end (I.ok.hd hc) hcomb hp (.inl rfl) fin
    | succ i =>
      obtain ⟨ne, hp, res, jx, hj, hcomb⟩ := st
      have hn : nextC items.length jx = none := by
        have h := hg
        unfold cseq at h
        rw [← hl, hj] at h
        exact h
      exact comb_end (I.ok.hd hc) hcomb hp (.inr ⟨rfl, hn⟩) fin
  self := fun A i s Q E st h => let ⟨_, _, _, _, _, hc⟩ := st.ne; iter_comb hc h
def iComb (K : PySem.W.Frag) (ta : TA) : TI := fun σ H R => ta σ H fun vs H1 => ∃ (a : Addr) (xs : List V) (r : Nat), vs = [.ref a, .int (r : Nat)] ∧ SqL K H1 a xs ∧ xs.length ≤ 1000 ∧ r ≤ 1000 ∧ R (Itcb xs r) H1
theorem pi_comb {X : Cx} {tg a b : Expr} {x : Str} {ta : TA} {p pos : Pos} (hg : Gl X x) (hm : X.mg x = some (.type "itertools.combinations")) (ha : PA X [a, b] ta) (hd : (x == ("__debug__" : Str)) = false := by decide) (hs : starEach [a, b] X.env = [(false, eval a X.env), (false, eval b X.env)] := by rfl) (hs2 : starEach [b] X.env = [(false, eval b X.env)] := by rfl) :
    PI X tg (.Call (.Name x p) [a, b] [] pos) (iComb X.K ta) := by
  refine ⟨fun pins s σ H R I h => ?_⟩
  refine Call_ (ld_glob I hg hm (PyProof.Rows.callWith_type1 (thn (ha.run pos pins s σ H _ I h) fun us s1 ⟨vs, H1, I1, r1, q1⟩ => ?_) (by rw [hs, hs2]) (by rw [hs2]; rfl)) hd)
  obtain ⟨l, xs, r, rfl, hq, hx, hr, q⟩ := q1
  obtain ⟨u1, u2, rfl, h1, ⟨tk, h2⟩⟩ := vals2 r1
  cases h1
  subst h2
  obtain ⟨items, rv, pl, hz⟩ := I1.list hq
  refine call_comb hr pl.isList (by rw [← rv.length]; exact hx) fun h' it pool k b1 b2 ne hp hc => iter_comb (s := { s1 with heap := h' }) hc ?_
  have I2 : Inv X pins σ H1 { s1 with heap := h' } := I1.kept (t' := s1.toks) k
  refine ⟨it, [it, pool], _, _, H1, rfl, I2, turn_comb rv hr it pool, ⟨ne, hp, hc⟩, fun b hb => ?_, q⟩
  have e' : b = it ∨ b = pool := by simpa using hb
  rcases e' with z | z
  · rw [z]; exact I1.fpOk b1 (I1.hok.fresh b1)
  · rw [z]; exact I1.fpOk b2 (I1.hok.fresh b2)
end
/-! ### the drawn machines -/
def sp_parts (K : PySem.W.Frag) : Sp := fun vs H Q _ => ∃ (a : Addr) (st : Nat) (sz : Int), vs = [.ref a, .int (st : Nat), .int sz] ∧ 1 ≤ st ∧ st ≤ 8 ∧ 0 ≤ sz ∧ 2 * sz + 1 ≤ 10 ^ 30 ∧ RowOk K H a ∧
  ∀ (d : Addr) (m : MD) (H' : Hp), m.Ok → m.n ≤ st → (∀ s ∈ m.ss, -(2 * sz + 1) ≤ s.g ∧ s.g ≤ 2 * sz + 1) → DAt K H' d m → RowOk K H' a → Keep a H H' → H d = none → Q (.ref d) H'
theorem abcd_cut {k : Nat} (h1 : 1 ≤ k) (h4 : k ≤ 4) : cutS "abcd" none (some ((k : Nat) : Int)) = ⟨(([97, 98, 99, 100] : List Nat).take k).toArray⟩ := by
  have z : k = 1 ∨ k = 2 ∨ k = 3 ∨ k = 4 := by omega
  rcases z with rfl | rfl | rfl | rfl <;> decide
theorem abcd_at {k j c : Nat} (h : (([97, 98, 99, 100] : List Nat).take k).toArray[j]? = some c) : c = 97 + j ∧ j < 4 := by
  rw [List.getElem?_toArray, List.getElem?_take] at h
  split at h
  · match j, h with
    | 0, h => simp at h; omega
    | 1, h => simp at h; omega
    | 2, h => simp at h; omega
    | 3, h => simp at h; omega
    | n + 4, h => simp at h
  · cases h
/-- the steps so far: of the stands below i, and of i by the first j letters -/
structure Sofar (K : PySem.W.Frag) (H : Hp) (l : Addr) (n : Nat) (sz : Int) (i j : Nat) (ss : List Stp) : Prop where
  at_ : ∃ vs, H l = some (.lst vs) ∧ StpsAt K H vs ss
  ok : ∀ s ∈ ss, s.Ok n
  up : ss.Pairwise Stp.lt
  bd : ∀ s ∈ ss, s.b < i ∨ (s.b = i ∧ s.c < 97 + j)
  gb : ∀ s ∈ ss, -(2 * sz + 1) ≤ s.g ∧ s.g ≤ 2 * sz + 1
  len : ss.length ≤ 4 * i + j
theorem Sofar.keep {K : PySem.W.Frag} {H H' : Hp} {l a : Addr} {n i j : Nat} {sz : Int} {ss : List Stp} {xs : List V} (h : Sofar K H l n sz i j ss) (k : Keep a H H') (ha : H a = some (.lst xs)) (ne : l ≠ a) : Sofar K H' l n sz i j ss :=
  let ⟨vs, e, q⟩ := h.at_
  ⟨⟨vs, k _ _ ne e, (k.tups ha).steps q⟩, h.ok, h.up, h.bd, h.gb, h.len⟩
theorem Sofar.more {K : PySem.W.Frag} {H : Hp} {l : Addr} {n i j j' : Nat} {sz : Int} {ss : List Stp} (h : Sofar K H l n sz i j ss) (e : j ≤ j') : Sofar K H l n sz i j' ss :=
  ⟨h.at_, h.ok, h.up, fun s hs => (h.bd s hs).imp id fun z => ⟨z.1, by omega⟩, h.gb, by have := h.len; omega⟩
theorem Sofar.line {K : PySem.W.Frag} {H : Hp} {l : Addr} {n i j : Nat} {sz : Int} {ss : List Stp} (h : Sofar K H l n sz i j ss) (e : j ≤ 4) : Sofar K H l n sz (i + 1) 0 ss :=
  ⟨h.at_, h.ok, h.up, fun s hs => .inl (by rcases h.bd s hs with z | z <;> omega), h.gb, by have := h.len; omega⟩
theorem Sofar.snoc {K : PySem.W.Frag} {H : Hp} {l p : Addr} {n i j e : Nat} {sz g : Int} {ss : List Stp} (h : Sofar K H l n sz i j ss) (hp : H p = none) (hi : i < n) (hj : j < 4) (he : e < n) (z1 : 2 * sz + 1 ≤ 10 ^ 30)
    (g1 : -(2 * sz + 1) ≤ g) (g2 : g ≤ 2 * sz + 1) : ∀ vs, H l = some (.lst vs) →
    Sofar K (upd (upd H p (.tup (stpV ⟨i, 97 + j, e, g⟩))) l (.lst (vs ++ [.ref p]))) l n sz i (j + 1) (ss ++ [⟨i, 97 + j, e, g⟩]) := fun vs ev => by
  obtain ⟨vs', e', q⟩ := h.at_
  rw [ev] at e'
  cases e'
  have np : l ≠ p := ne_of_none ev hp
  have t1 : Tups H (upd H p (.tup (stpV ⟨i, 97 + j, e, g⟩))) := Tups.new hp
  have el : (upd H p (.tup (stpV ⟨i, 97 + j, e, g⟩))) l = some (.lst vs) := by rw [upd_ne np]; exact ev
  have t2 := Tups.lst (o := .lst (vs ++ [.ref p])) el
  have mem : ∀ s, s ∈ ss ++ [(⟨i, 97 + j, e, g⟩ : Stp)] → s ∈ ss ∨ s = ⟨i, 97 + j, e, g⟩ := fun s hs => by simpa using hs
  refine ⟨⟨_, upd_same, (t2.steps ((t1.steps q).snoc (SqT.of upd_same)))⟩, fun s hs => ?_, ?_, fun s hs => ?_, fun s hs => ?_, ?_⟩
  · rcases mem s hs with hs | rfl
    · exact h.ok s hs
    · exact ⟨hi, by show 97 ≤ 97 + j; omega, by show 97 + j ≤ 100; omega, he, by show -(10 ^ 30) ≤ g; omega, by show g ≤ 10 ^ 30; omega⟩
  · refine List.pairwise_append.mpr ⟨h.up, List.pairwise_singleton _ _, fun s hs t ht => ?_⟩
    have ht' : t = ⟨i, 97 + j, e, g⟩ := by simpa using ht
    subst ht'
    rcases h.bd s hs with z | ⟨z, z'⟩
    · exact .inl z
    · exact .inr ⟨z, z'⟩
  · rcases mem s hs with hs | rfl
    · rcases h.bd s hs with z | ⟨z, z'⟩
      · exact .inl z
      · exact .inr ⟨z, by omega⟩
    · exact .inr ⟨rfl, by show 97 + j < 97 + (j + 1); omega⟩
  · rcases mem s hs with hs | rfl
    · exact h.gb s hs
    · exact ⟨g1, g2⟩
  · rw [List.length_append, List.length_singleton]
    have := h.len
    omega
section
variable {P : Program} {w : World} {K : PySem.W.Frag} {mg : Str → Option Value} {base : Heap}
theorem ok_law_parts (T : Txt K mg) : FnOk P w K mg base (L2.CX P w) 2 T.a_law_parts T.fd_law_parts ["_law_row", "_law_stands", "_law_size"] (sp_parts K) := by
  refine T.F_law_parts.okX sc_law_parts (fun vs H Q E h => ?_) (fun cdv A outer s H vs Q E hr h => ?_)
  · obtain ⟨a, st, sz, rfl, _⟩ := h
    rfl
  · obtain ⟨a, st, sz, rfl, st1, st8, sz0, sz1, R0, k⟩ := h
    refine ⟨_, (PSs.nox (pss_cons (ps_par (i := 3) (j := 4) (by rfl) sc_law_parts.nd rfl rfl (by decide) rfl rfl (pa_cons (pe_op op_add pe_int (pe_call (ok_law_taken T) (hr.mono (by decide)) (by rfl) T.m_law_taken T.k_law_taken T.b_law_taken .nil passL (pa_cons (pv 0) (pa_cons (pv 1) pa_nil)))) (pa_cons (pe_call (ok_law_taken T) (hr.mono (by decide)) (by rfl) T.m_law_taken T.k_law_taken T.b_law_taken .nil passL (pa_cons (pv 0) (pa_cons pe_int pa_nil))) pa_nil)) (by rfl))
  (pss_cons (ps_setLc (i := 5) (own := [("_law_stand", 13)]) (g := (gName 13)) (tt := tYes) rfl sc_law_parts.nd rfl rfl (sw_true rfl rfl rfl (by decide +kernel)) (pi_range1 (by rfl) T.z_range (pa_cons (pv 3) pa_nil)) (blkOk_by (own := [("_law_stand", 13)]) (N := ["_law_row", "_law_stands", "_law_size", "_law_many", "_law_kind", "_law_heights", "_law_steps", "_law_letters", "_law_begun", "_law_letter", "_law_end", "_law_gain", "_law_ends", "_law_stand"]) (sc := defScope s_law_parts) (by decide +kernel)) (fun _ _ _ _ _ => (pg_name (i := 13) sc_law_parts.nd rfl (Or.inl rfl))) (fun _ _ _ _ _ => pts_nil) (fun _ _ _ _ _ => (pe_op op_sub (pe_call (ok_law_taken T) (hr.mono (by decide)) (by rfl) T.m_law_taken T.k_law_taken T.b_law_taken .nil passL (pa_cons (pv 0) (pa_cons (pe_op op_add (pe_op op_mulW pe_int (pv 2)) pe_int) pa_nil))) (pv 2))))
  (pss_cons (ps_par (i := 6) (j := 7) (by rfl) sc_law_parts.nd rfl rfl (by decide) rfl rfl (pa_cons (pe_lst pa_nil) (pa_cons (pe_slice sl_str pe_str po_none (po_some (pe_op op_add pe_int (pe_call (ok_law_taken T) (hr.mono (by decide)) (by rfl) T.m_law_taken T.k_law_taken T.b_law_taken .nil passL (pa_cons (pv 0) (pa_cons pe_int pa_nil)))))) pa_nil)) (by rfl))
  (pss_cons (ps_for PassesOwn.never rfl (pi_range1 (by rfl) T.z_range (pa_cons (pv 3) pa_nil)) (pg_name (i := 8) sc_law_parts.nd rfl (Or.inl rfl))
  (pss_one (ps_for PassesOwn.never rfl (pi_str (pv 7)) (pg_name (i := 9) sc_law_parts.nd rfl (Or.inl rfl))
  (pss_one (ps_if (pt_cmpR op_gt (pe_call (ok_law_taken T) (hr.mono (by decide)) (by rfl) T.m_law_taken T.k_law_taken T.b_law_taken .nil passL (pa_cons (pv 0) (pa_cons pe_int pa_nil))) pe_int (nomark _))
  (pss_cons (ps_set (i := 10) sc_law_parts.nd rfl (Or.inl rfl) (pe_call (ok_law_taken T) (hr.mono (by decide)) (by rfl) T.m_law_taken T.k_law_taken T.b_law_taken .nil passL (pa_cons (pv 0) (pa_cons (pv 3) pa_nil))))
  (pss_cons (ps_set (i := 11) sc_law_parts.nd rfl (Or.inl rfl) (pe_op op_sub (pe_ix ix_list (pv 5) (pv 10) (fun _ _ => rfl)) (pe_ix ix_list (pv 5) (pv 8) (fun _ _ => rfl))))
  (C8.pss_cut (ps_if (PW.pt (pw_or (PW.pt (pw_and (pt_cmpR op_eq (pv 4) pe_int (nomark _)) (pw_and1 (pt_cmpR op_eq (pe_call (ok_law_taken T) (hr.mono (by decide)) (by rfl) T.m_law_taken T.k_law_taken T.b_law_taken .nil passL (pa_cons (pv 0) (pa_cons pe_int pa_nil))) pe_int (nomark _))))) (pw_or1 (pt_cmpR op_eq (pv 4) pe_int (nomark _)))))
  (pss_one (ps_set (i := 11) sc_law_parts.nd rfl (Or.inl rfl) (pe_op op_sub (pe_call (ok_law_taken T) (hr.mono (by decide)) (by rfl) T.m_law_taken T.k_law_taken T.b_law_taken .nil passL (pa_cons (pv 0) (pa_cons (pe_op op_add (pe_op op_mulW pe_int (pv 2)) pe_int) pa_nil))) (pv 2))))
  pss_nil)
  (C8.pss_cut (ps_if (PW.pt (pw_and (pt_cmpR op_eq (pv 4) pe_int (nomark _)) (pw_and1 (pt_cmpR op_eq (pe_call (ok_law_taken T) (hr.mono (by decide)) (by rfl) T.m_law_taken T.k_law_taken T.b_law_taken .nil passL (pa_cons (pv 0) (pa_cons pe_int pa_nil))) pe_int (nomark _)))))
  (pss_one (ps_set (i := 11) sc_law_parts.nd rfl (Or.inl rfl) (pe_op op_add (pv 11) pe_int)))
  pss_nil)
  (pss_one (ps_expr (pe_bm PySem.F.plainAttrs_list PySem.F.slot_list_append PySem.F.type_list_append mt_append (pv 6) (pa_cons (pe_tup (pa_cons (pv 8) (pa_cons (pv 9) (pa_cons (pv 10) (pa_cons (pv 11) pa_nil))))) pa_nil))))))))
  pss_nil)))))
  (pss_cons (ps_set (i := 12) sc_law_parts.nd rfl (Or.inl rfl) (pe_callTy call_tuple_of (by rfl) T.z_tuple PySem.Pv.boot_tuple (pa_cons (pe_lc (own := [("_law_stand", 13)]) (g := (gName 13)) rfl sc_law_parts.nd (pi_range1 (by rfl) T.z_range (pa_cons (pv 3) pa_nil)) (blkOk_by (own := [("_law_stand", 13)]) (N := ["_law_row", "_law_stands", "_law_size", "_law_many", "_law_kind", "_law_heights", "_law_steps", "_law_letters", "_law_begun", "_law_letter", "_law_end", "_law_gain", "_law_ends", "_law_stand"]) (sc := defScope s_law_parts) (by decide +kernel)) (fun _ _ _ _ _ => (pg_name (i := 13) sc_law_parts.nd rfl (Or.inl rfl))) (fun _ _ _ _ _ => (pts_one (pt_cmpR op_eq (pe_call (ok_law_taken T) (hr.mono (by decide)) (by rfl) T.m_law_taken T.k_law_taken T.b_law_taken .nil passL (pa_cons (pv 0) (pa_cons pe_int pa_nil))) pe_int (nomark _)))) (fun _ _ _ _ _ => (pv 13))) pa_nil)))
  (pss_one (ps_ret (pe_disp (pps_cons pe_str (pv 3) (pps_cons pe_str (pe_callTy call_tuple_of (by rfl) T.z_tuple PySem.Pv.boot_tuple (pa_cons (pv 6) pa_nil)) (pps_cons pe_str (pv 12) pps_nil))) (by rfl) (by rfl) (fun z => by cases z) (by decide)))))))))), ?_⟩
    walk_at "begin"
    walk_at "go"
    refine ⟨a, _, rfl, by omega, by omega, R0, fun x1 H1 x1a x1b R1 K1 => ?_⟩
    obtain ⟨y, rfl⟩ := Int.eq_ofNat_of_zero_le x1a
    walk_at "go"
    refine ⟨a, 4, rfl, by omega, by decide, R1, fun kind H2 kda kdb R2 K2 => ?_⟩
    walk_at "go"
    have en : (1 + (y : Int)) = ((y + 1 : Nat) : Int) := by omega
    rw [en]
    refine k_rg (by omega) (by omega) fun D hD => ?_
    have K02 := K1.trans K2
    have nD : a ≠ D := R2.ne hD
    have hD0 : H D = none := K02.free nD.symm hD
    have CM : CMulW 2 sz := wide_mul (a := 2) (b := 101) (by decide) (by omega) (by decide) (by decide) (by decide)
    have small : ∀ {hs : List Int} {i : Nat}, hs.length = i → i < 100 → (hs.map V.int).length < sizeLine := fun e q => by
      rw [List.length_map, e]
      exact Nat.lt_trans q (by decide)
    -- the heights
    refine lc_range (lo := 0) (n := (((y + 1 : Nat) : Int)).toNat) (fun i H' => Keep a H H' ∧ RowOk K H' a ∧ ∃ hs : List Int, H' D = some (.lst (hs.map V.int)) ∧ hs.length = i ∧ ∀ h ∈ hs, -sz ≤ h ∧ h ≤ sz)
      ⟨K02.trans (Keep.new hD), R2.same (Same.new hD), [], upd_same, rfl, fun _ h => absurd h (by simp)⟩ ?_ ?_
    · rintro i H3 hi ⟨K3, R3, hs, eD, hl, hb⟩
      walk_at "go"
      refine ⟨rfl, ?_⟩
      walk_at "go"
      refine iteT ?_
      walk_at "go"
      refine k_I CM ?_
      walk_at "go"
      refine ⟨a, _, rfl, by omega, by omega, R3, fun x H4 xa xb R4 K4 => ?_⟩
      walk_at "go"
      have eD4 := K4 _ _ nD.symm eD
      refine ⟨_, eD4, small hl (by omega), (K3.trans K4).mut hD0, R4.keep nD eD4 Keep.at_, hs ++ [x - sz], ?_, ?_, ?_⟩
      · rw [upd_same, List.map_append]; rfl
      · rw [List.length_append, hl]; rfl
      · intro h hh
        rcases List.mem_append.mp hh with hh | hh
        · exact hb h hh
        · have : h = x - sz := by simpa using hh
          omega
    · rintro H3 ⟨K3, R3, hs, eD, hl, hb⟩
      walk_at "go"
      refine ⟨Nat.zero_le _, fun l hl0 => ?_⟩
      have nl : a ≠ l := R3.ne hl0
      have hlH : H l = none := K3.free nl.symm hl0
      have nDl : D ≠ l := ne_of_none eD hl0
      walk_at "go"
      refine ⟨a, 4, rfl, by omega, by decide, R3.same (Same.new hl0), fun x2 H4 xa xb R4 K4 => ?_⟩
      obtain ⟨y2, rfl⟩ := Int.eq_ofNat_of_zero_le xa
      have en2 : (1 + (y2 : Int)) = ((y2 + 1 : Nat) : Int) := by omega
      walk_at "go"
      rw [en2]
      refine k_slS (by decide) ?_
      rw [abcd_cut (by omega) (by omega)]
      walk_at "go"
      refine k_rg (by omega) (by omega) ?_
      have K04 : Keep a H H4 := (K3.trans (Keep.new hl0)).trans K4
      have eD4 : H4 D = some (.lst (hs.map V.int)) := K4 _ _ nD.symm (Keep.new (a := a) hl0 _ _ nD.symm eD)
      have el4 : H4 l = some (.lst []) := K4 _ _ nl.symm upd_same
      clear K3 R3 eD K4
      -- the steps
      obtain ⟨LT, hLT⟩ : ∃ z : Str, z = ⟨(([97, 98, 99, 100] : List Nat).take (y2 + 1)).toArray⟩ := ⟨_, rfl⟩
      rw [← hLT]
      have nat : ∀ z : Nat, ((z : Int)).toNat = z := fun z => rfl
      refine for_range (lo := 0) (n := (((y + 1 : Nat) : Int)).toNat) (fun i σ H' => ∃ ss s8 s9 s10 s11, Keep a H H' ∧ RowOk K H' a ∧ H' D = some (.lst (hs.map V.int)) ∧ Sofar K H' l (y + 1) sz i 0 ss ∧
        σ = [some (.ref a), some (.int (st : Nat)), some (.int sz), some (.int ((y + 1 : Nat) : Int)), some (.int kind), some (.ref D), some (.ref l), some (.str LT), s8, s9, s10, s11, none, none])
        ⟨[], none, none, none, none, K04, R4, eD4, ⟨⟨[], el4, rfl, fun _ _ h => absurd h (by simp)⟩, fun _ h => absurd h (by simp), .nil, fun _ h => absurd h (by simp), fun _ h => absurd h (by simp), Nat.zero_le _⟩, rfl⟩ ?_ ?_
      · rintro i σ H5 hi ⟨ss, s8, s9, s10, s11, K5, R5, eD5, S5, rfl⟩
        walk_at "go"
        refine ⟨_, rfl, for_it walk_str (fun j σ H' => ∃ ss s9 s10 s11, Keep a H H' ∧ RowOk K H' a ∧ H' D = some (.lst (hs.map V.int)) ∧ Sofar K H' l (y + 1) sz i j ss ∧
          σ = [some (.ref a), some (.int (st : Nat)), some (.int sz), some (.int ((y + 1 : Nat) : Int)), some (.int kind), some (.ref D), some (.ref l), some (.str LT), some (.int (0 + (i : Nat))), s9, s10, s11, none, none])
          ⟨ss, s9, s10, s11, K5, R5, eD5, S5, rfl⟩ (fun _ _ _ _ _ => trivial) ?_ ?_⟩
        · rintro j x σ H6 H6' hj ⟨ss, s9, s10, s11, K6, R6, eD6, S6, rfl⟩ ⟨rfl, c, hc, rfl⟩
          have hc' : c = 97 + j ∧ j < 4 := by
            rw [hLT] at hc
            exact abcd_at hc
          obtain ⟨rfl, j4⟩ := hc'
          walk_at "go"
          refine ⟨a, 4, rfl, by omega, by decide, R6, fun x1 H7 _ _ R7 K7 => ?_⟩
          walk_at "go"
          have eD7 := K7 _ _ nD.symm eD6
          obtain ⟨lr, er6⟩ := R6.lst
          have S7 := S6.keep K7 er6 nl.symm
          refine k_ite (fun c1 => ?_) (fun c1 => ?_)
          · walk_at "go"
            refine ⟨a, _, rfl, by omega, by omega, R7, fun x2 H8 x2a x2b R8 K8 => ?_⟩
            obtain ⟨e, rfl⟩ := Int.eq_ofNat_of_zero_le x2a
            have eD8 := K8 _ _ nD.symm eD7
            obtain ⟨lr7, er7⟩ := R7.lst
            have S8 := S7.keep K8 er7 nl.symm
            walk_at "go"
            have le : e < hs.length := by rw [hl, nat]; omega
            have li : i < hs.length := by rw [hl, nat]; omega
            refine k_ixL (SqL.of eD8) (v := .int (hs[e]'le)) (at_of (j := e) rfl (by rw [List.getElem?_map, List.getElem?_eq_getElem le]; rfl)) ?_
            walk_at "go"
            refine k_ixL (SqL.of eD8) (v := .int (hs[i]'li)) (at_of (j := i) (by omega) (by rw [List.getElem?_map, List.getElem?_eq_getElem li]; rfl)) ?_
            have be := hb _ (List.getElem_mem le)
            have bi := hb _ (List.getElem_mem li)
            generalize hs[e]'le = he at be ⊢
            generalize hs[i]'li = hi' at bi ⊢
            walk_at "go"
            have K68 := (K6.trans K7).trans K8
            refine k_cut (fun σ' H' => ∃ g, -(2 * sz) ≤ g ∧ g ≤ 2 * sz ∧ Keep a H H' ∧ RowOk K H' a ∧ H' D = some (.lst (hs.map V.int)) ∧ Sofar K H' l (y + 1) sz i j ss ∧
              σ' = [some (.ref a), some (.int (st : Nat)), some (.int sz), some (.int ((y + 1 : Nat) : Int)), some (.int kind), some (.ref D), some (.ref l), some (.str LT), some (.int (0 + (i : Nat))), some (.str ⟨#[97 + j]⟩), some (.int (e : Nat)), some (.int g), none, none]) ?_ ?_
            · have old : ∀ H', Keep a H8 H' → RowOk K H' a → H' D = some (.lst (hs.map V.int)) ∧ Sofar K H' l (y + 1) sz i j ss := fun H' kk rr => by
                obtain ⟨lr8, er8⟩ := R8.lst
                exact ⟨kk _ _ nD.symm eD8, S8.keep kk er8 nl.symm⟩
              have draw : ∀ H9, Keep a H8 H9 → RowOk K H9 a → ∀ x H10, 0 ≤ x → x < 2 * sz + 1 → RowOk K H10 a → Keep a H9 H10 → -(2 * sz) ≤ x - sz ∧ x - sz ≤ 2 * sz ∧ Keep a H H10 ∧ RowOk K H10 a ∧ H10 D = some (.lst (hs.map V.int)) ∧ Sofar K H10 l (y + 1) sz i j ss := fun H9 k9 r9 x H10 x0 x1 r10 k10 => by
                have o := old H10 (k9.trans k10) r10
                exact ⟨by omega, by omega, (K68.trans k9).trans k10, r10, o.1, o.2⟩
              walk_at "go"
              refine k_ite (fun d1 => ?_) (fun d1 => ?_)
              · walk_at "go"
                refine ⟨a, 4, rfl, by omega, by decide, R8, fun x3 H9 _ _ R9 K9 => ?_⟩
                walk_at "go"
                refine k_ite (fun d2 => ?_) (fun d2 => ?_)
                · refine iteT ?_
                  walk_at "go"
                  refine k_I CM ?_
                  walk_at "go"
                  refine ⟨a, _, rfl, by omega, by omega, R9, fun x4 H10 x4a x4b R10 K10 => ?_⟩
                  walk_at "go"
                  obtain ⟨q1, q2, q3, q4, q5, q6⟩ := draw H9 K9 R9 x4 H10 x4a x4b R10 K10
                  exact ⟨_, q1, q2, q3, q4, q5, q6, rfl⟩
                · walk_at "go"
                  refine k_ite (fun d3 => ?_) (fun d3 => ?_)
                  · rw [d1] at d3; exact absurd d3 (by decide)
                  · walk_at "go"
                    exact ⟨_, by omega, by omega, K68.trans K9, R9, (old H9 K9 R9).1, (old H9 K9 R9).2, rfl⟩
              · refine iteF ?_
                walk_at "go"
                refine k_ite (fun d3 => ?_) (fun d3 => ?_)
                · walk_at "go"
                  refine k_I CM ?_
                  walk_at "go"
                  refine ⟨a, _, rfl, by omega, by omega, R8, fun x4 H10 x4a x4b R10 K10 => ?_⟩
                  walk_at "go"
                  obtain ⟨q1, q2, q3, q4, q5, q6⟩ := draw H8 (Keep.refl _ _) R8 x4 H10 x4a x4b R10 K10
                  exact ⟨_, q1, q2, q3, q4, q5, q6, rfl⟩
                · walk_at "go"
                  exact ⟨_, by omega, by omega, K68, R8, eD8, S8, rfl⟩
            · rintro σ' H9 ⟨g, g1, g2, K9, R9, eD9, S9, rfl⟩
              refine k_cut (fun σ' H' => ∃ g, -(2 * sz + 1) ≤ g ∧ g ≤ 2 * sz + 1 ∧ Keep a H H' ∧ RowOk K H' a ∧ H' D = some (.lst (hs.map V.int)) ∧ Sofar K H' l (y + 1) sz i j ss ∧
                σ' = [some (.ref a), some (.int (st : Nat)), some (.int sz), some (.int ((y + 1 : Nat) : Int)), some (.int kind), some (.ref D), some (.ref l), some (.str LT), some (.int (0 + (i : Nat))), some (.str ⟨#[97 + j]⟩), some (.int (e : Nat)), some (.int g), none, none]) ?_ ?_
              · walk_at "go"
                refine k_ite (fun d1 => ?_) (fun d1 => ?_)
                · walk_at "go"
                  refine ⟨a, 3, rfl, by omega, by decide, R9, fun x3 H10 _ _ R10 K10 => ?_⟩
                  obtain ⟨lr9, er9⟩ := R9.lst
                  have eD10 := K10 _ _ nD.symm eD9
                  have S10 := S9.keep K10 er9 nl.symm
                  walk_at "go"
                  refine k_ite (fun d2 => ?_) (fun d2 => ?_)
                  · walk_at "go"
                    exact ⟨_, by omega, by omega, K9.trans K10, R10, eD10, S10, rfl⟩
                  · walk_at "go"
                    exact ⟨_, by omega, by omega, K9.trans K10, R10, eD10, S10, rfl⟩
                · refine iteF ?_
                  walk_at "go"
                  exact ⟨_, by omega, by omega, K9, R9, eD9, S9, rfl⟩
              · rintro σ' H10 ⟨g, g1, g2, K10, R10, eD10, S10, rfl⟩
                walk_at "go"
                obtain ⟨vs10, el10, _⟩ := S10.at_
                refine ⟨.inl ⟨rfl, _, SqL.of el10⟩, ?_⟩
                walk_at "go"
                refine ⟨(by decide : 4 ≤ sizeLine), fun p hp => ?_⟩
                have z0 : (0 + (i : Nat) : Int) = ((i : Nat) : Int) := by omega
                rw [z0]
                walk_at "go"
                have npl : l ≠ p := ne_of_none el10 hp
                have npD : D ≠ p := ne_of_none eD10 hp
                have el11 : (upd H10 p (.tup [.int (i : Nat), .str ⟨#[97 + j]⟩, .int (e : Nat), .int g])) l = some (.lst vs10) := by rw [upd_ne npl]; exact el10
                have lv : vs10.length < sizeLine := by
                  obtain ⟨vs', e', q'⟩ := S10.at_
                  rw [el10] at e'
                  cases e'
                  have := S10.len
                  have : vs10.length < 100 := by rw [q'.1]; omega
                  exact Nat.lt_trans this (by decide)
                refine k_append el11 lv ?_
                walk_at "go"
                have S11 := S10.snoc hp (by omega) j4 (show e < y + 1 by omega) sz1 g1 g2 vs10 el10
                have R11 := R10.same (Same.new (o := .tup [.int (i : Nat), .str ⟨#[97 + j]⟩, .int (e : Nat), .int g]) hp)
                refine ⟨_, some (.str ⟨#[97 + j]⟩), some (.int (e : Nat)), some (.int g), (K10.trans (Keep.new hp)).mut hlH, R11.keep nl el11 Keep.at_, ?_, S11, ?_⟩
                · rw [upd_ne nDl, upd_ne npD]; exact eD10
                · rfl
          · walk_at "go"
            exact ⟨ss, _, _, _, K6.trans K7, R7, eD7, S7.more (Nat.le_succ _), rfl⟩
        · rintro σ H6 ⟨ss, s9, s10, s11, K6, R6, eD6, S6, rfl⟩
          refine ⟨ss, _, _, _, _, K6, R6, eD6, S6.line ?_, rfl⟩
          rw [hLT]
          simp
          omega
      · rintro σ H5 ⟨ss, s8, s9, s10, s11, K5, R5, eD5, S5, rfl⟩
        obtain ⟨vs, el5, q5⟩ := S5.at_
        walk_at "go"
        refine k_rg (by omega) (by omega) fun B hB => ?_
        have nB : a ≠ B := R5.ne hB
        have hB0 : H B = none := K5.free nB.symm hB
        have nlB : l ≠ B := ne_of_none el5 hB
        -- the ends
        refine lc_range (lo := 0) (n := (((y + 1 : Nat) : Int)).toNat) (fun i H' => Keep a H H' ∧ RowOk K H' a ∧ H' l = some (.lst vs) ∧ StpsAt K H' vs ss ∧ ∃ es : List Nat, H' B = some (.lst (nats es)) ∧ es.length ≤ i ∧ (∀ e ∈ es, e < i) ∧ es.Pairwise (· < ·))
          ⟨K5.trans (Keep.new hB), R5.same (Same.new hB), by rw [upd_ne nlB]; exact el5, (Tups.new hB).steps q5, [], upd_same, Nat.le_refl _, fun _ h => absurd h (by simp), .nil⟩ ?_ ?_
        · rintro i H6 hi ⟨K6, R6, el6, q6, es, eB, h1, h2, h3⟩
          obtain ⟨lr6, er6⟩ := R6.lst
          walk_at "go"
          refine ⟨rfl, ?_⟩
          walk_at "go"
          refine ⟨a, 2, rfl, by omega, by decide, R6, fun x H7 _ _ R7 K7 => ?_⟩
          have eB7 := K7 _ _ nB.symm eB
          have el7 := K7 _ _ nl.symm el6
          have q7 := (K7.tups er6).steps q6
          walk_at "go"
          refine k_ite (fun c => ?_) (fun c => ?_)
          · walk_at "go"
            have z0 : (0 + (i : Nat) : Int) = ((i : Nat) : Int) := by omega
            rw [z0]
            refine ⟨_, eB7, ?_, (K6.trans K7).mut hB0, R7.keep nB eB7 Keep.at_, by rw [upd_ne nlB]; exact el7, (Tups.lst eB7).steps q7, es ++ [i], ?_, ?_, ?_, ?_⟩
            · have : (nats es).length < 100 := by unfold nats; rw [List.length_map]; omega
              exact Nat.lt_trans this (by decide)
            · rw [upd_same]; unfold nats; rw [List.map_append]; rfl
            · rw [List.length_append]; simp; omega
            · intro e he
              rcases List.mem_append.mp he with he | he
              · have := h2 e he; omega
              · have : e = i := by simpa using he
                omega
            · refine List.pairwise_append.mpr ⟨h3, List.pairwise_singleton _ _, fun e he f hf => ?_⟩
              have : f = i := by simpa using hf
              have := h2 e he
              omega
          · exact ⟨K6.trans K7, R7, el7, q7, es, eB7, by omega, fun e he => by have := h2 e he; omega, h3⟩
        · rintro H6 ⟨K6, R6, el6, q6, es, eB, h1, h2, h3⟩
          walk_at "go"
          refine ⟨B, _, rfl, .inl ⟨SqL.of eB, fun u hu => ?_⟩⟩
          have nu : a ≠ u := R6.ne hu
          have K7 := K6.trans (Keep.new (o := .tup (nats es)) hu)
          have R7 := R6.same (Same.new (o := .tup (nats es)) hu)
          have el7 : (upd H6 u (.tup (nats es))) l = some (.lst vs) := by rw [upd_ne (ne_of_none el6 hu)]; exact el6
          have q7 := (Tups.new (o := .tup (nats es)) hu).steps q6
          walk_at "go"
          intro d hd
          have K8 := K7.trans (Keep.new (o := .dK []) hd)
          have R8 := R7.same (Same.new (o := .dK []) hd)
          have el8 : (upd (upd H6 u (.tup (nats es))) d (.dK [])) l = some (.lst vs) := by rw [upd_ne (ne_of_none el7 hd)]; exact el7
          have q8 := (Tups.new (o := .dK []) hd).steps q7
          have hd0 : H d = none := K7.free (R7.ne hd).symm hd
          walk_at "go"
          refine ⟨l, vs, rfl, .inl ⟨SqL.of el8, fun t ht => ?_⟩⟩
          walk_at "go"
          have ntd : d ≠ t := ne_of_none upd_same ht
          have e1 : (upd (upd (upd H6 u (.tup (nats es))) d (.dK [])) t (.tup vs)) d = some (.dK []) := by rw [upd_ne ntd, upd_same]
          refine ⟨e1, [(.inr "stands", .int ((y + 1 : Nat) : Int)), (.inr "steps", .ref t), (.inr "ends", .ref u)], rfl, (by decide : 3 ≤ 15), ?_⟩
          have em : mergeK [] [((.inr "stands" : Key), V.int ((y + 1 : Nat) : Int)), (.inr "steps", .ref t), (.inr "ends", .ref u)] = [(.inr "stands", .int ((y + 1 : Nat) : Int)), (.inr "steps", .ref t), (.inr "ends", .ref u)] := rfl
          rw [em]
          have t9 : Tups (upd (upd H6 u (.tup (nats es))) d (.dK [])) (upd (upd (upd H6 u (.tup (nats es))) d (.dK [])) t (.tup vs)) := Tups.new ht
          have nuD : u ≠ d := ne_of_none (upd_same (H := H6) (o := .tup (nats es))) hd
          have t10 : Tups (upd (upd (upd H6 u (.tup (nats es))) d (.dK [])) t (.tup vs)) (upd (upd (upd (upd H6 u (.tup (nats es))) d (.dK [])) t (.tup vs)) d (.dK [(.inr "stands", .int ((y + 1 : Nat) : Int)), (.inr "steps", .ref t), (.inr "ends", .ref u)])) :=
            ⟨fun b xs e => by rw [upd_ne (fun z => by rw [z, e1] at e; cases e)]; exact e, fun b o xs e => by rw [upd_ne (fun z => by rw [z, e1] at e; cases e)]; exact e⟩
          refine k d ⟨y + 1, ss, es⟩ _ ⟨by show 1 ≤ y + 1; omega, by show y + 1 ≤ 8; omega, S5.ok, S5.up, ?_, fun e he => ?_, h3, ?_⟩ (by show y + 1 ≤ st; omega) S5.gb ⟨t, u, upd_same, ⟨vs, t10.sq (SqT.of upd_same), (t10.steps (t9.steps q8))⟩, ?_⟩ ?_ ?_ hd0
          · have := S5.len
            show ss.length ≤ 32
            rw [nat] at this
            omega
          · have := h2 e he
            rw [nat] at this
            exact this
          · show es.length ≤ 8
            rw [nat] at h1
            omega
          · exact t10.sq (t9.sq ((Tups.new (o := .dK []) hd).sq (SqT.of upd_same)))
          · have R9 := R8.same (Same.new (o := .tup vs) ht)
            obtain ⟨sc, ns, i, z, r, e, q, rest⟩ := R9
            have nad : a ≠ d := R7.ne hd
            refine ⟨sc, ns, i, z, r, by rw [upd_ne nad]; exact e, ?_, rest⟩
            rcases q with ⟨o, q⟩ | q
            · exact .inl ⟨o, by rw [upd_ne (fun z => by rw [z, e1] at q; cases q)]; exact q⟩
            · exact .inr q
          · exact (K8.trans (Keep.new ht)).mut hd0
end
/-! ### name = {k: v for ..} -/
theorem sw_trueD {kx vx : Expr} {gs : List Comprehension} {scope : Scope} {pos py : Pos} {y : Str} {n : Nat} {env : Env} (hk : env.scope.kind = .function) (hy : env.scope.names.lookup y = some .local) (hl : (py.line == pos.line) = true)
    (ha : (scope.names.any fun (m, c) => m == y && (c == .local || c == .cell)) = false) : swapsWith (.DictComp kx vx gs scope pos) (some (.Name y py)) n env = pure true := by
  have k1 : env.kindOf y = some .local := hy
  have k2 : env.blockKind = .function := by
    unfold Env.blockKind
    rw [hk]
    rfl
  unfold swapsWith
  simp only [k1, k2, ha, Expr.pos, hl]
  rfl
section
variable {X : Cx}
theorem ps_setDc {i : Nat} {y : Str} {py : Pos} {kx vx tg it : Expr} {ifs : List Expr} {scope : Scope} {own : List (Str × Nat)} {pos sp : Pos} {wi : TI} {g : TG} {tt : TT} {tk tv : TE} (hc : X.calm = true) (hN : X.N.Nodup)
    (hy : X.N[i]? = some y) (hyl : X.env.scope.names.lookup y = some .local) (hsw : swapsWith (.DictComp kx vx [⟨tg, it, ifs, 0⟩] scope pos) (some (.Name y py)) sp.line X.env = pure true)
    (hi : PI X tg it wi) (ok : BlkOk X.N X.env.scope scope own)
    (hg : ∀ (s : Shared) (H : Hp) (C : Addr) (cl : List (Str × Addr)) (fp : List Addr), PG (X.blk s H scope (compEnvC scope cl C X.env) fp) tg g)
    (ht : ∀ (s : Shared) (H : Hp) (C : Addr) (cl : List (Str × Addr)) (fp : List Addr), PTs (X.blk s H scope (compEnvC scope cl C X.env) fp) ifs tt)
    (hk : ∀ (s : Shared) (H : Hp) (C : Addr) (cl : List (Str × Addr)) (fp : List Addr), PE (X.blk s H scope (compEnvC scope cl C X.env) fp) kx tk)
    (hv : ∀ (s : Shared) (H : Hp) (C : Addr) (cl : List (Str × Addr)) (fp : List Addr), PE (X.blk s H scope (compEnvC scope cl C X.env) fp) vx tv)
    (hs : ∀ x, foldedSetIterable it X.env x = pure x := by intro _; rfl) :
    PS X (.Assign [.Name y py] (.DictComp kx vx [⟨tg, it, ifs, 0⟩] scope pos) sp) (tAsg (tDc wi g tt tk tv (own.map (·.2))) (gName i)) := by
  constructor
  intro pins s σ H D I h
  rw [exec_Assign_Name_used _ _ _ _ hsw]
  refine wpAny_bind (wpAny_standAt (wpAny_bind ?_))
  show wpAny _ X.A (do let _ ← comprehension (.DictComp kx vx [⟨tg, it, ifs, 0⟩] scope pos) scope X.env (firstIterPos [⟨tg, it, ifs, 0⟩] pos) newDict false (eval it X.env) (some (assign (.Name y py) X.env))) _ _ s
  have h' : tDc wi g tt tk tv (own.map (·.2)) σ H (fun x H1 => gName i x σ H1 D.nx) := h
  refine wpAny_bind (thn (dc_core (Qf := fun _ s' => SP X pins D .next s') hc hN I hi ok hg ht hk hv hs h' ?_) fun _ s' hq => wpAny_pure (wpAny_pure hq))
  intro L C s' m H' I' q hn f
  show wpAny _ _ (assign (.Name y py) X.env (.ref L)) _ _ _
  refine wpAny_assign_Name (store_ok2 (v := V.ref L) I' hN hy (.inl hyl) rfl ?_ (.inr hyl))
  rintro s2 I2 ⟨a, sb, ha⟩
  obtain ⟨f0, f1, f2, f3, f4, f5⟩ := f
  have ne : C ≠ a := by
    rcases ha with z | z
    · rw [z]; exact f1
    · exact fun e => f4 y a z e.symm
  exact ⟨m, hn.sameBut sb ne, fun h3 sb3 => ⟨_, H', I2.turned (t' := s2.toks) (fun b o hb e => (sb3.2 b hb).trans e) f0 f1 f3 f4 f5, q⟩⟩
/-- over a list that stays -/
theorem dc_lst {K : PySem.W.Frag} {a : Addr} {xs : List V} {g : TG} {tt : TT} {tk tv : TE} {vs : List Nat} {σ : L2.St} {H1 : Hp} {D : Addr} {Qd : Hp → Prop} (Pv : Nat → Hp → Prop) (h0 : Pv 0 (upd H1 D (.dK [])))
    (hl : ∀ i H, i ≤ xs.length → Pv i H → SqL K H a xs)
    (hs : ∀ i x H, xs[i]? = some x → Pv i H → g x (wipe σ vs) H fun σ2 H2 => wipe σ2 vs = wipe σ vs ∧ tt σ2 H2 fun b H3 =>
      if b = true then tk σ2 H3 fun y H4 => tv σ2 H4 fun z H5 => ∃ kvs k, y = kV k ∧ H5 D = some (.dK kvs) ∧ kvs.length < sizeLine ∧ Pv (i + 1) (upd H5 D (.dK (putK kvs k z))) else Pv (i + 1) H3) (hd : ∀ H, Pv xs.length H → Qd H) :
    ∃ W : Nat → Nat → Hp → Prop, (∃ m, W 0 m (upd H1 D (.dK []))) ∧ ∀ i m H, W i m H → ((Itl K a).stop i H ∧ Qd H) ∨
      ((Itl K a).go i H ∧ ∃ Nx : Hp → Prop, (∀ H', Nx H' → ∃ m', m' < m ∧ W (i + 1) m' H') ∧ ∀ x H', (Itl K a).yld i H x H' → g x (wipe σ vs) H' fun σ2 H2 => wipe σ2 vs = wipe σ vs ∧ tt σ2 H2 fun b H3 =>
        if b = true then tk σ2 H3 fun y H4 => tv σ2 H4 fun z H5 => ∃ kvs k, y = kV k ∧ H5 D = some (.dK kvs) ∧ kvs.length < sizeLine ∧ Nx (upd H5 D (.dK (putK kvs k z))) else Nx H3) := by
  refine ⟨fun i m H => m + i = xs.length ∧ Pv i H, ⟨xs.length, by simp, h0⟩, fun i m H ⟨em, hP⟩ => ?_⟩
  have sq := hl i H (by omega) hP
  by_cases c : i < xs.length
  · refine .inr ⟨⟨xs, xs[i], sq, List.getElem?_eq_getElem c⟩, Pv (i + 1), fun H' z => ⟨m - 1, by omega, by omega, z⟩, ?_⟩
    rintro x H' ⟨rfl, hx⟩
    exact hs i x _ (hx xs sq) hP
  · have e : i = xs.length := by omega
    exact .inl ⟨⟨xs, sq, by omega⟩, hd H (e ▸ hP)⟩
end
/-! ### rows by their codes; what is best so far, by stand -/
abbrev Wd := List Nat
def sOf (w : Wd) : Str := ⟨w.toArray⟩
theorem sOf_snoc (w : Wd) (c : Nat) : sOf w ++ ⟨#[c]⟩ = sOf (w ++ [c]) := by
  show Str.mk (w.toArray ++ #[c]) = _
  rw [List.append_toArray]
  rfl
theorem sOf_len (w : Wd) : (sOf w).length = w.length := by
  show w.toArray.size = _
  simp
theorem sOf_cps (w : Wd) : (sOf w).cps.toList = w := rfl
theorem sOf_inj {v w : Wd} (h : sOf v = sOf w) : v = w := by
  have := congrArg (fun s => s.cps.toList) h
  exact this
abbrev RF := Nat → Option (Int × Wd)
def better (x : Int × Wd) : Option (Int × Wd) → Bool
  | none => true
  | some y => decide (y.1 < x.1) || (decide (x.1 = y.1) && decide (x.2 < y.2))
def RF.put (f : RF) (k : Nat) (x : Int × Wd) : RF := fun j => if j = k then some x else f j
def turnL (sg : Int) (f acc : RF) (s : Stp) : RF := match f s.b with
  | none => acc
  | some y => if better (y.1 + sg * s.g, y.2 ++ [s.c]) (acc s.e) = true then acc.put s.e (y.1 + sg * s.g, y.2 ++ [s.c]) else acc
def longer (sg : Int) (f : RF) (ss : List Stp) : RF := ss.foldl (turnL sg f) fun _ => none
/-! ### dicts from stands to tuples -/
def ent2 (x : Int × Wd) : List V := [.int x.1, .str (sOf x.2)]
def E2 (f : RF) : Nat → Option (List V) := fun n => (f n).map ent2
def KvOk (K : PySem.W.Frag) (H : Hp) (kvs : List (Key × V)) (e : Nat → Option (List V)) : Prop :=
  (∀ p ∈ kvs, ∃ n : Nat, p.1 = .inl (n : Int)) ∧ ∀ n : Nat, (e n = none → valV kvs (.inl (n : Int)) = none) ∧ ∀ l, e n = some l → ∃ p, valV kvs (.inl (n : Int)) = some (.ref p) ∧ SqT K H p l
section
variable {K : PySem.W.Frag} {H H' : Hp} {kvs : List (Key × V)} {e : Nat → Option (List V)}
theorem KvOk.tups (h : KvOk K H kvs e) (t : Tups H H') : KvOk K H' kvs e := ⟨h.1, fun n => ⟨(h.2 n).1, fun l el => let ⟨p, q, z⟩ := (h.2 n).2 l el; ⟨p, q, t.sq z⟩⟩⟩
theorem KvOk.nil : KvOk K H [] fun _ => none := ⟨fun _ h => absurd h (by simp), fun n => ⟨fun _ => rfl, fun l h => by cases h⟩⟩
theorem KvOk.put {n : Nat} {p : Addr} {l : List V} (h : KvOk K H kvs e) (hp : SqT K H p l) : KvOk K H (putK kvs (.inl (n : Int)) (.ref p)) fun j => if j = n then some l else e j := by
  refine ⟨fun q hq => ?_, fun j => ?_⟩
  · unfold putK at hq
    split at hq
    · obtain ⟨r, hr, rfl⟩ := List.mem_map.mp hq
      split
      · rename_i z; exact ⟨n, z⟩
      · exact h.1 r hr
    · rcases List.mem_append.mp hq with hq | hq
      · exact h.1 q hq
      · have : q = (.inl (n : Int), .ref p) := by simpa using hq
        exact ⟨n, by rw [this]⟩
  · rw [valV_put]
    by_cases c : j = n
    · have c' : (Sum.inl (j : Int) : Key) = .inl (n : Int) := by rw [c]
      simp only [if_pos c, if_pos c']
      refine ⟨fun z => (by cases z), fun l' el => ?_⟩
      cases el
      exact ⟨p, rfl, hp⟩
    · have c' : ¬ (Sum.inl (j : Int) : Key) = .inl (n : Int) := fun z => c (by injection z with z; omega)
      simp only [if_neg c, if_neg c']
      exact h.2 j
theorem KvOk.congr {e' : Nat → Option (List V)} (h : KvOk K H kvs e) (q : ∀ n, e n = e' n) : KvOk K H kvs e' := (funext q : e = e') ▸ h
end
theorem E2_put (f : RF) (k : Nat) (x : Int × Wd) (n : Nat) : (if n = k then some (ent2 x) else E2 f n) = E2 (f.put k x) n := by
  unfold E2 RF.put
  by_cases c : n = k
  · rw [if_pos c, if_pos c]; rfl
  · rw [if_neg c, if_neg c]
theorem Same.mut {p : Addr} {H H' : Hp} {o : HO} (x : Same H H') (hp : H p = none) : Same H (upd H' p o) := fun b u h => by rw [upd_ne (ne_of_none h hp)]; exact x b u h
theorem Tups.dk {p : Addr} {H : Hp} {kvs : List (Key × V)} {o : HO} (h : H p = some (.dK kvs)) : Tups H (upd H p o) :=
  ⟨fun b xs e => by rw [upd_ne (fun z => by rw [z, h] at e; cases e)]; exact e, fun b _ xs e => by rw [upd_ne (fun z => by rw [z, h] at e; cases e)]; exact e⟩
theorem Tups.dT {p : Addr} {H : Hp} {kvs : List (List Key × V)} {o : HO} (h : H p = some (.dT kvs)) : Tups H (upd H p o) :=
  ⟨fun b xs e => by rw [upd_ne (fun z => by rw [z, h] at e; cases e)]; exact e, fun b _ xs e => by rw [upd_ne (fun z => by rw [z, h] at e; cases e)]; exact e⟩
theorem take_fold {α β : Type} (f : β → α → β) (z : β) {l : List α} {i : Nat} {x : α} (h : l[i]? = some x) : (l.take (i + 1)).foldl f z = f ((l.take i).foldl f z) x := by
  rw [List.take_add_one, h, List.foldl_append]
  rfl
/-! ### the parts read off a machine -/
section
variable {P : Program} {w : World} {K : PySem.W.Frag} {mg : Str → Option Value} {base : Heap}
theorem ok_Machine_stands (T : Txt K mg) : FnOk P w K mg base (L2.CX P w) 1 T.a_Machine_stands T.fd_Machine_stands ["self"] (getSp T.c_Machine "_stands") := by
  refine T.F_Machine_stands.okX sc_Machine_stands (fun vs H Q E h => ?_) (fun cdv A outer s H vs Q E hr h => ?_)
  · obtain ⟨a, dx, fs, v, rfl, _⟩ := h
    rfl
  · obtain ⟨a, dx, fs, v, rfl, ha, hl, k⟩ := h
    refine ⟨_, (PSs.nox (pss_one (ps_ret (pe_fld (pv 0) rfl)))), ?_⟩
    exact ⟨_, rfl, a, _, dx, fs, v, rfl, ha, T.cl_Machine, T.n__stands, hl, k⟩
theorem ok_Machine_steps (T : Txt K mg) : FnOk P w K mg base (L2.CX P w) 1 T.a_Machine_steps T.fd_Machine_steps ["self"] (getSp T.c_Machine "_steps") := by
  refine T.F_Machine_steps.okX sc_Machine_steps (fun vs H Q E h => ?_) (fun cdv A outer s H vs Q E hr h => ?_)
  · obtain ⟨a, dx, fs, v, rfl, _⟩ := h
    rfl
  · obtain ⟨a, dx, fs, v, rfl, ha, hl, k⟩ := h
    refine ⟨_, (PSs.nox (pss_one (ps_ret (pe_fld (pv 0) rfl)))), ?_⟩
    exact ⟨_, rfl, a, _, dx, fs, v, rfl, ha, T.cl_Machine, T.n__steps, hl, k⟩
end
/-! ### the parts read off a machine; the next length's best rows -/
def rLtS : R2 := fun x y H Q => ∃ i j, x = .str i ∧ y = .str j ∧ Q (.bl (decide (i.cps.toList < j.cps.toList))) H
theorem test_better {K : PySem.W.Frag} {σ : L2.St} {H : Hp} {R : Bool → Hp → Prop} {D : Addr} {kvs : List (Key × V)} {acc : RF} {e : Nat} {x : Int × Wd} (hD : H D = some (.dK kvs)) (ok : KvOk K H kvs (E2 acc))
    (h3 : σ[3]? = some (some (.ref D))) (h6 : σ[6]? = some (some (.int (e : Nat)))) (h8 : σ[8]? = some (some (.int x.1))) (h9 : σ[9]? = some (some (.str (sOf x.2)))) (h : R (better x (acc e)) H) :
    tOr (tB (tDNotIn (tVar 6) (tVar 3))) (tOr (tTest (tOp (rI0 fun i j => V.bl (decide (j < i))) (tVar 8) (tOp (rIxT K) (tDGet (tVar 3) (tVar 6)) (tC (.int 0)))))
      (tAnd (tTest (tOp rEq (tVar 8) (tOp (rIxT K) (tDGet (tVar 3) (tVar 6)) (tC (.int 0))))) (tTest (tOp rLtS (tVar 9) (tOp (rIxT K) (tDGet (tVar 3) (tVar 6)) (tC (.int 1))))))) σ H R := by
  have dg : DGet H D (.int (e : Nat)) (valV kvs (.inl (e : Int))) := DGet.k (k := .inl (e : Int)) hD
  refine k_or (k_tB (k_dnotin (k_var h6 (k_var h3 ⟨D, _, rfl, dg, k_bl ?_⟩))))
  cases ea : acc e with
  | none =>
    have z := (ok.2 e).1 (by unfold E2; rw [ea]; rfl)
    rw [z]
    refine iteT ?_
    rw [ea] at h
    exact h
  | some y =>
    obtain ⟨p, z, sq⟩ := (ok.2 e).2 (ent2 y) (by unfold E2; rw [ea]; rfl)
    rw [ea] at h
    rw [z] at dg ⊢
    have at0 : ∀ {Q : VK}, Q (.int y.1) H → tOp (rIxT K) (tDGet (tVar 3) (tVar 6)) (tC (.int 0)) σ H Q := fun q => k_op (k_dget (k_var h3 (k_var h6 ⟨D, _, rfl, dg, k_c (k_ixT sq (v := .int y.1) rfl q)⟩)))
    have at1 : ∀ {Q : VK}, Q (.str (sOf y.2)) H → tOp (rIxT K) (tDGet (tVar 3) (tVar 6)) (tC (.int 1)) σ H Q := fun q => k_op (k_dget (k_var h3 (k_var h6 ⟨D, _, rfl, dg, k_c (k_ixT sq (v := .str (sOf y.2)) rfl q)⟩)))
    refine iteF (k_or (k_test (k_op (k_var h8 (at0 (k_I0 (k_bl ?_)))))))
    have hb : better x (some y) = (decide (y.1 < x.1) || (decide (x.1 = y.1) && decide (x.2 < y.2))) := rfl
    rw [hb] at h
    refine k_ite (fun c => ?_) (fun c => ?_)
    · rw [decide_eq_true c, Bool.true_or] at h
      exact h
    · rw [decide_eq_false c, Bool.false_or] at h
      refine k_and (k_test (k_op (k_var h8 (at0 (k_eq rfl (k_bl ?_))))))
      refine k_ite (fun d => ?_) (fun d => ?_)
      · have d' : x.1 = y.1 := by injection d
        rw [decide_eq_true d', Bool.true_and] at h
        refine k_test (k_op (k_var h9 (at1 ⟨_, _, rfl, rfl, k_bl ?_⟩)))
        exact h
      · have d' : ¬ x.1 = y.1 := fun z => d (by rw [z])
        rw [decide_eq_false d', Bool.false_and] at h
        exact h
def Sgn (sg : Int) : Prop := sg = 1 ∨ sg = -1 ∨ sg = 0
theorem Sgn.of {sg : Int} (h : sg = 1 ∨ sg = -1) : Sgn sg := by rcases h with h | h; exact .inl h; exact .inr (.inl h)
def sp_longer (K : PySem.W.Frag) : Sp := fun vs H Q _ => ∃ (t r : Addr) (sg : Int) (N : Nat) (ss : List Stp) (f : RF) (kvs : List (Key × V)), vs = [.ref t, .int sg, .ref r] ∧ StSq K H t ss ∧ SsOk N ss ∧ H r = some (.dK kvs) ∧ KvOk K H kvs (E2 f) ∧
  Sgn sg ∧ (∀ n y, f n = some y → y.2.length ≤ 64) ∧ ∀ p kvs' H', Same H H' → H p = none → H' p = some (.dK kvs') → KvOk K H' kvs' (E2 (longer sg f ss)) → kvs'.length ≤ 300 → Q (.ref p) H'
section
variable {P : Program} {w : World} {K : PySem.W.Frag} {mg : Str → Option Value} {base : Heap}
theorem ok_longer_rows (T : Txt K mg) : FnOk P w K mg base (L2.CX P w) 3 T.a_longer_rows T.fd_longer_rows ["steps", "sign", "rows"] (sp_longer K) := by
  refine T.F_longer_rows.okX sc_longer_rows (fun vs H Q E h => ?_) (fun cdv A outer s H vs Q E hr h => ?_)
  · obtain ⟨t, r, sg, N, ss, f, kvs, rfl, _⟩ := h
    rfl
  · obtain ⟨t, r, sg, N, ss, f, kvs, rfl, ⟨us, ht, hs⟩, o, hr0, hf, hsg, hw, k⟩ := h
    refine ⟨_, (PSs.nox (pss_cons (ps_set (i := 3) sc_longer_rows.nd rfl (Or.inl rfl) pe_dnewK)
  (pss_cons (ps_for PassesOwn.never rfl (pi_sq (pv 0)) (pg_tup rfl (pgs_cons (pg_name (i := 4) sc_longer_rows.nd rfl (Or.inl rfl)) (pgs_cons (pg_name (i := 5) sc_longer_rows.nd rfl (Or.inl rfl)) (pgs_cons (pg_name (i := 6) sc_longer_rows.nd rfl (Or.inl rfl)) (pgs_cons (pg_name (i := 7) sc_longer_rows.nd rfl (Or.inl rfl)) pgs_nil)))))
  (pss_one (ps_if (pt_cmp (pc_din (hu_of hr) (pv 4) (pv 2)) (by rfl))
  (pss_cons (ps_asg (pe_dget (hu_of hr) (pv 2) (pv 4) (fun _ _ => rfl)) (pg_tup rfl (pgs_cons (pg_name (i := 8) sc_longer_rows.nd rfl (Or.inl rfl)) (pgs_cons (pg_name (i := 9) sc_longer_rows.nd rfl (Or.inl rfl)) pgs_nil))))
  (pss_cons (ps_aug (i := 8) sc_longer_rows.nd rfl (Or.inl rfl) (pe_op op_mulW (pv 1) (pv 7)) ip_add)
  (pss_cons (ps_aug (i := 9) sc_longer_rows.nd rfl (Or.inl rfl) (pv 5) iop_add_str)
  (pss_one (ps_if (PW.pt (pw_or (pt_cmp (pc_dnotin (hu_of hr) (pv 6) (pv 3)) (by rfl)) (pw_or (pt_cmpR op_gt (pv 8) (pe_ix ix_tup (pe_dget (hu_of hr) (pv 3) (pv 6) (fun _ _ => rfl)) pe_int (fun _ _ => rfl)) (nomark _)) (pw_or1 (PW.pt (pw_and (pt_cmpR op_eq (pv 8) (pe_ix ix_tup (pe_dget (hu_of hr) (pv 3) (pv 6) (fun _ _ => rfl)) pe_int (fun _ _ => rfl)) (nomark _)) (pw_and1 (pt_cmpR op_lt_str (pv 9) (pe_ix ix_tup (pe_dget (hu_of hr) (pv 3) (pv 6) (fun _ _ => rfl)) pe_int (fun _ _ => rfl)) (nomark _)))))))))
  (pss_one (ps_dput (hu_of hr) (pv 3) (pv 6) (pe_tup (pa_cons (pv 8) (pa_cons (pv 9) pa_nil))) rfl))
  pss_nil)))))
  pss_nil)))
  (pss_one (ps_ret (pv 3)))))), ?_⟩
    walk_at "begin"
    walk_at "go"
    intro D hD
    walk_at "go"
    refine for_sq (xs := us) rfl ht (fun i σ H' => ∃ kvs' a4 a5 a6 a7 a8 a9, Same H H' ∧ H' D = some (.dK kvs') ∧ KvOk K H' kvs' (E2 ((ss.take i).foldl (turnL sg f) fun _ => none)) ∧ kvs'.length ≤ i ∧
      σ = [some (.ref t), some (.int sg), some (.ref r), some (.ref D), a4, a5, a6, a7, a8, a9]) ⟨[], none, none, none, none, none, none, Same.new hD, upd_same, KvOk.nil, Nat.le_refl _, rfl⟩
      (fun i σ H' ⟨_, _, _, _, _, _, _, z, _⟩ => z) ?_ ?_
    · rintro i y σ H1 hy ⟨kvs', a4, a5, a6, a7, a8, a9, z, eD, ok, len, rfl⟩
      have il : i < ss.length := by rw [← hs.1]; exact (List.getElem?_eq_some_iff.mp hy).1
      have ei : ss[i]? = some (ss[i]'il) := List.getElem?_eq_getElem il
      obtain ⟨q, eq, hq⟩ := hs.2 i _ ei
      rw [hy] at eq
      cases eq
      have ok1 := o.ok _ (List.getElem_mem il)
      have len32 := o.len
      rw [take_fold _ _ ei]
      generalize ss[i]'il = st at hq ok1 ⊢
      generalize (ss.take i).foldl (turnL sg f) (fun _ => none) = acc at ok ⊢
      have dg := DGet.k (k := .inl (st.b : Int)) (z _ _ hr0)
      refine k_gt ((same_tups z).sq hq) rfl ?_
      unfold stpV
      walk_at "go"
      refine ⟨r, _, rfl, dg, ?_⟩
      walk_at "go"
      cases fb : f st.b with
      | none =>
        rw [(hf.2 st.b).1 (by unfold E2; rw [fb]; rfl)]
        refine iteF ?_
        walk_at "go"
        have et : turnL sg f acc st = acc := by unfold turnL; rw [fb]
        rw [et]
        exact ⟨kvs', _, _, _, _, _, _, z, eD, ok, by omega, rfl⟩
      | some v =>
        obtain ⟨p, ep, sp⟩ := (hf.2 st.b).2 (ent2 v) (by unfold E2; rw [fb]; rfl)
        have lw := hw _ _ fb
        rw [ep] at dg ⊢
        refine iteT ?_
        walk_at "go"
        refine ⟨r, _, rfl, dg, ?_⟩
        refine k_gt ((same_tups z).sq sp) rfl ?_
        unfold ent2
        walk_at "go"
        refine k_I (wide_mul (a := 1) (b := 108) (by rcases hsg with rfl | rfl | rfl <;> decide) (by have := ok1.g; have := ok1.g'; omega) (by decide) (by decide) (by decide)) ?_
        walk_at "go"
        refine ⟨_, _, rfl, rfl, by rw [sOf_len]; show v.2.length + 1 ≤ sizeLine; exact Nat.le_trans (show v.2.length + 1 ≤ 65 by omega) (by decide), ?_⟩
        rw [sOf_snoc]
        dsimp only
        refine k_ifS ?_
        refine test_better (x := (v.1 + sg * st.g, v.2 ++ [st.c])) (acc := acc) (e := st.e) eD ok ?_ ?_ ?_ ?_ ?_
        iterate 4 rfl
        have et : turnL sg f acc st = if better (v.1 + sg * st.g, v.2 ++ [st.c]) (acc st.e) = true then acc.put st.e (v.1 + sg * st.g, v.2 ++ [st.c]) else acc := by unfold turnL; rw [fb]
        rw [et]
        refine k_bool (fun c => ?_) (fun c => ?_)
        · rw [if_pos c]
          walk_at "go"
          refine ⟨(by decide : 2 ≤ sizeLine), fun pn hpn => ?_⟩
          walk_at "go"
          have eD2 : (upd H1 pn (.tup [.int (v.1 + sg * st.g), .str (sOf (v.2 ++ [st.c]))])) D = some (.dK kvs') := by rw [upd_ne (ne_of_none eD hpn)]; exact eD
          refine ⟨D, _, rfl, DPut.k (k := .inl (st.e : Int)) eD2 (Nat.lt_of_le_of_lt len (Nat.lt_trans (show i < 1000 by omega) (by decide))), ?_⟩
          refine ⟨_, _, _, _, _, _, _, Same.mut (z.trans (Same.new hpn)) hD, upd_same, ?_, by have := length_putK kvs' (.inl (st.e : Int)) (V.ref pn); omega, rfl⟩
          refine ((KvOk.put (n := st.e) (ok.tups (Tups.new hpn)) (l := ent2 (v.1 + sg * st.g, v.2 ++ [st.c])) (SqT.of upd_same)).tups (Tups.dk eD2)).congr fun n => ?_
          exact E2_put acc st.e _ n
        · rw [if_neg (by rw [c]; exact Bool.false_ne_true)]
          walk_at "go"
          exact ⟨kvs', _, _, _, _, _, _, z, eD, ok, by omega, rfl⟩
    · rintro σ H1 ⟨kvs', a4, a5, a6, a7, a8, a9, z, eD, ok, len, rfl⟩
      walk_at "go"
      rw [hs.1, List.take_length] at ok
      have := o.len
      exact k D kvs' H1 z hD eD ok (by rw [hs.1] at len; omega)
end
/-! ### which stands have a better row; which stands letters lead to -/
inductive Reach (ss : List Stp) (l : List Nat) : Nat → Prop
  | base {n : Nat} : n ∈ l → Reach ss l n
  | step {s : Stp} : s ∈ ss → Reach ss l s.b → Reach ss l s.e
def fkv (F : List Nat) : List (Key × V) := F.map fun (n : Nat) => ((.inl (n : Int) : Key), V.bl true)
theorem key_eq (a b : Nat) : ((Sum.inl (a : Int) : Key) = .inl (b : Int)) ↔ a = b := ⟨fun z => by injection z with z; omega, fun z => by rw [z]⟩
theorem valV_fkv (n : Nat) : ∀ F : List Nat, valV (fkv F) (.inl (n : Int)) = if n ∈ F then some (.bl true) else none
  | [] => rfl
  | a :: F => by
    have ih := valV_fkv n F
    by_cases c : a = n
    · rw [if_pos (by rw [c]; exact List.mem_cons_self)]
      exact valV_pos (p := ((.inl (a : Int) : Key), V.bl true)) ((key_eq a n).mpr c)
    · have e : valV (fkv (a :: F)) (.inl (n : Int)) = valV (fkv F) (.inl (n : Int)) := valV_neg (p := ((.inl (a : Int) : Key), V.bl true)) fun z => c ((key_eq a n).mp z)
      rw [e, ih]
      by_cases d : n ∈ F
      · rw [if_pos d, if_pos (List.mem_cons_of_mem _ d)]
      · rw [if_neg d, if_neg (fun z => by rcases List.mem_cons.mp z with z | z; exact c z.symm; exact d z)]
def addN (F : List Nat) (n : Nat) : List Nat := if n ∈ F then F else F ++ [n]
theorem addN_mem {F : List Nat} {n k : Nat} : k ∈ addN F n ↔ k ∈ F ∨ k = n := by
  unfold addN
  by_cases c : n ∈ F
  · rw [if_pos c]
    exact ⟨.inl, fun z => by rcases z with z | rfl <;> assumption⟩
  · rw [if_neg c, List.mem_append, List.mem_singleton]
theorem addN_nodup {F : List Nat} {n : Nat} (h : F.Nodup) : (addN F n).Nodup := by
  unfold addN
  by_cases c : n ∈ F
  · rw [if_pos c]; exact h
  · rw [if_neg c]
    exact List.nodup_append.mpr ⟨h, by simp, fun a ha b hb e => by rw [List.mem_singleton] at hb; rw [e, hb] at ha; exact c ha⟩
theorem putK_fkv (F : List Nat) (n : Nat) : putK (fkv F) (.inl (n : Int)) (.bl true) = fkv (addN F n) := by
  by_cases c : n ∈ F
  · unfold addN putK
    have h := valV_any (.inl (n : Int) : Key) (fkv F)
    rw [valV_fkv, if_pos c] at h
    rw [h, if_pos c, if_pos (show (some (V.bl true)).isSome = true from rfl)]
    unfold fkv
    rw [List.map_map]
    refine List.map_congr_left fun a _ => ?_
    show (if (Sum.inl (a : Int) : Key) = .inl (n : Int) then ((Sum.inl (a : Int) : Key), V.bl true) else ((Sum.inl (a : Int) : Key), V.bl true)) = _
    split <;> rfl
  · rw [putK_new _ (by rw [valV_fkv, if_neg c])]
    unfold addN fkv
    rw [if_neg c, List.map_append]
    rfl
theorem nats_snoc (l : List Nat) (n : Nat) : nats (l ++ [n]) = nats l ++ [.int (n : Nat)] := by unfold nats; rw [List.map_append]; rfl
theorem nats_at {l : List Nat} {i : Nat} {x : V} (h : (nats l)[i]? = some x) : ∃ n, l[i]? = some n ∧ x = .int (n : Nat) := by
  unfold nats at h
  rw [List.getElem?_map] at h
  cases e : l[i]? with
  | none => rw [e] at h; cases h
  | some n => rw [e] at h; exact ⟨n, rfl, (Option.some.inj h).symm⟩
theorem nodup_small {F : List Nat} {n : Nat} (h : F.Nodup) (b : ∀ k ∈ F, k < n) : F.length ≤ n := by
  induction n generalizing F with
  | zero =>
    cases F with
    | nil => exact Nat.le_refl _
    | cons a F => exact absurd (b a List.mem_cons_self) (Nat.not_lt_zero _)
  | succ n ih =>
    by_cases c : n ∈ F
    · have e1 := ih (F := F.erase n) (h.erase n) fun k hk => by
        have hk' := (List.Nodup.mem_erase_iff h).mp hk
        have := b k hk'.2
        have := hk'.1
        omega
      rw [List.length_erase_of_mem c] at e1
      omega
    · have := ih h fun k hk => by
        have := b k hk
        have : k ≠ n := fun z => c (z ▸ hk)
        omega
      omega
def sp_led (K : PySem.W.Frag) : Sp := fun vs H Q _ => ∃ (t p : Addr) (N : Nat) (ss : List Stp) (l : List Nat), vs = [.ref t, .ref p] ∧ StSq K H t ss ∧ SsOk N ss ∧ H p = some (.lst (nats l)) ∧ (∀ n ∈ l, n < N) ∧ l.length ≤ 300 ∧
  ∀ q (l' : List Nat) H', Same H H' → H q = none → H' q = some (.lst (nats l')) → (∀ n, n ∈ l' ↔ Reach ss l n) → l'.Pairwise (· < ·) → Q (.ref q) H'
theorem nodup_sub {α : Type} [DecidableEq α] : ∀ {l T : List α}, l.Nodup → (∀ x ∈ l, x ∈ T) → l.length ≤ T.length
  | [], _, _, _ => Nat.zero_le _
  | a :: l, T, h, s => by
    have q := List.nodup_cons.mp h
    have i := nodup_sub (T := T.erase a) q.2 fun x hx => (List.mem_erase_of_ne (fun e => q.1 (by rw [← e]; exact hx))).mpr (s x (List.mem_cons_of_mem _ hx))
    have m := s a List.mem_cons_self
    have := List.length_erase_of_mem m
    have := List.length_pos_of_mem m
    rw [List.length_cons]
    omega
theorem inV_nats (n : Nat) : ∀ l : List Nat, inV (.int (n : Nat)) (nats l) = decide (n ∈ l)
  | [] => rfl
  | a :: l => by
    have ih := inV_nats n l
    unfold inV nats at ih ⊢
    rw [List.map_cons, List.any_cons, ih]
    have e : eqV (.int (a : Nat)) (.int (n : Nat)) = decide (n = a) := by
      show ((((a : Nat) : Int)) == ((n : Nat) : Int)) = decide (n = a)
      rw [Bool.eq_iff_iff, beq_iff_eq, decide_eq_true_iff]
      omega
    rw [e]
    by_cases c : n = a
    · subst c
      simp
    · simp [c]
theorem flat_nats : ∀ l : List Nat, (nats l).all flatV = true
  | [] => rfl
  | a :: l => by
    show (flatV (.int (a : Nat)) && (nats l).all flatV) = true
    rw [flat_nats l]
    rfl
theorem dec_int (a b : Int) : decide (V.int a = V.int b) = decide (a = b) := decide_eq_decide.mpr ⟨fun h => by injection h, fun h => by rw [h]⟩
/-! ### which stands have a better row -/
def impr (f D : RF) (n : Nat) : Bool := match f n with
  | none => false
  | some x => match D n with
    | none => true
    | some y => decide (y.1 < x.1)
def sp_improved (K : PySem.W.Frag) : Sp := fun vs H Q _ => ∃ (r b : Addr) (f D : RF) (kvs kvb : List (Key × V)), vs = [.ref r, .ref b] ∧ H r = some (.dK kvs) ∧ KvOk K H kvs (E2 f) ∧ H b = some (.dK kvb) ∧ KvOk K H kvb (E2 D) ∧ r ≠ b ∧ kvs.length ≤ 300 ∧
  ∀ p (l : List Nat) H', Same H H' → H p = none → H' p = some (.lst (nats l)) → (∀ n, n ∈ l ↔ impr f D n = true) → l.length ≤ 300 → Q (.ref p) H'
section
variable {P : Program} {w : World} {K : PySem.W.Frag} {mg : Str → Option Value} {base : Heap}
theorem ok_improved (T : Txt K mg) : FnOk P w K mg base (L2.CX P w) 1 T.a_improved T.fd_improved ["rows", "best"] (sp_improved K) := by
  refine T.F_improved.okX sc_improved (fun vs H Q E h => ?_) (fun cdv A outer s H vs Q E hr h => ?_)
  · obtain ⟨r, b, f, D, kvs, kvb, rfl, _⟩ := h
    rfl
  · obtain ⟨r, b, f, g, kvs, kvb, rfl, hr0, hf, hb, hg, ne, len, k⟩ := h
    refine ⟨_, (PSs.nox (pss_one (ps_ret (pe_lock (pe_lc (own := [("stand", 2)]) (g := (gName 2)) rfl sc_improved.nd (pi_keys (pv 0)) (blkOk_by (own := [("stand", 2)]) (N := ["rows", "best", "stand"]) (sc := defScope s_improved) (by decide +kernel)) (fun _ _ _ _ _ => (pg_name (i := 2) sc_improved.nd rfl (Or.inl rfl))) (fun _ _ _ _ _ => (pts_one (PW.pt (pw_or (pt_cmp (pc_dnotin (hu_of hr) (pv 2) (pv 1)) (by rfl)) (pw_or1 (pt_cmpR op_gt (pe_ix (show IxR _ (rIxT K) from ix_tup) (pe_dget (hu_of hr) (pv 0) (pv 2) (fun _ _ => rfl)) pe_int (fun _ _ => rfl)) (pe_ix (show IxR _ (rIxT K) from ix_tup) (pe_dget (hu_of hr) (pv 1) (pv 2) (fun _ _ => rfl)) pe_int (fun _ _ => rfl)) (nomark _))))))) (fun _ _ _ _ _ => (pv 2))))))), ?_⟩
    walk_at "begin"
    refine k_ret ⟨r, _, hr0, trivial, fun od => ?_⟩
    obtain ⟨HL, eL⟩ : ∃ z, z = upd H r (.frz od (.dK kvs)) := ⟨_, rfl⟩
    rw [← eL]
    have tL : Tups H HL := by rw [eL]; exact Tups.dk hr0
    have bL : HL b = some (.dK kvb) := by rw [eL, upd_ne ne.symm]; exact hb
    have rL : HL r = some (.frz od (.dK kvs)) := by rw [eL, upd_same]
    walk_at "go"
    refine ⟨_, rfl, r, od, rfl, .inl ⟨kvs, rL, fun L hL => ?_⟩⟩
    have nLr : L ≠ r := fun z => by rw [z, rL] at hL; cases hL
    have hL0 : H L = none := by rw [eL, upd_ne nLr] at hL; exact hL
    refine lc_it walk_keys (fun i H' => Same HL H' ∧ ∃ l : List Nat, H' L = some (.lst (nats l)) ∧ l.length ≤ i ∧ ∀ n, n ∈ l ↔ (impr f g n = true ∧ ∃ j v, j < i ∧ kvs[j]? = some (.inl (n : Int), v)))
      ⟨Same.new hL, [], upd_same, Nat.le_refl _, fun n => ⟨fun z => absurd z (by simp), fun ⟨_, j, _, hj, _⟩ => absurd hj (Nat.not_lt_zero _)⟩⟩ (fun i H' _ ⟨z, _⟩ => z _ _ rL) ?_ ?_
    · rintro i x H0 H1 hi ⟨z, l, el, ll, hl⟩ ⟨rfl, key, v, hk, rfl⟩
      obtain ⟨n, rfl⟩ := hf.1 (key, v) (List.mem_of_getElem? hk)
      have more : ∀ q, (q ∈ l ∨ (impr f g n = true ∧ q = n)) ↔ (impr f g q = true ∧ ∃ j v, j < i + 1 ∧ kvs[j]? = some (.inl (q : Int), v)) := fun q => by
        constructor
        · rintro (h | ⟨h, rfl⟩)
          · obtain ⟨h1, j, v', hj, e⟩ := (hl q).mp h
            exact ⟨h1, j, v', by omega, e⟩
          · exact ⟨h, i, v, by omega, hk⟩
        · rintro ⟨h1, j, v', hj, e⟩
          by_cases c : j = i
          · rw [c, hk] at e
            have e' : ((Sum.inl (n : Int) : Key), v) = (.inl (q : Int), v') := Option.some.inj e
            have e2 : n = q := (key_eq n q).mp (congrArg Prod.fst e')
            exact .inr ⟨by rw [e2]; exact h1, e2.symm⟩
          · exact .inl ((hl q).mpr ⟨h1, j, v', by omega, e⟩)
      have keep : ∀ {H2 : Hp}, H2 = H1 → impr f g n = false → (Same HL H2 ∧ ∃ l : List Nat, H2 L = some (.lst (nats l)) ∧ l.length ≤ i + 1 ∧ ∀ q, q ∈ l ↔ (impr f g q = true ∧ ∃ j v, j < i + 1 ∧ kvs[j]? = some (.inl (q : Int), v))) := by
        rintro H2 rfl h
        refine ⟨z, l, el, by omega, fun q => ?_⟩
        rw [← more q, h]
        simp
      have snoc : impr f g n = true → ∃ acc, H1 L = some (.lst acc) ∧ acc.length < sizeLine ∧ (Same HL (upd H1 L (.lst (acc ++ [V.int (n : Nat)]))) ∧ ∃ l : List Nat, (upd H1 L (.lst (acc ++ [V.int (n : Nat)]))) L = some (.lst (nats l)) ∧ l.length ≤ i + 1 ∧ ∀ q, q ∈ l ↔ (impr f g q = true ∧ ∃ j v, j < i + 1 ∧ kvs[j]? = some (.inl (q : Int), v))) := fun h => by
        refine ⟨_, el, ?_, Same.mut z hL, l ++ [n], by rw [upd_same, nats_snoc], by rw [List.length_append, List.length_singleton]; omega, fun q => ?_⟩
        · have : (nats l).length < 1000 := by unfold nats; rw [List.length_map]; omega
          exact Nat.lt_trans this (by decide)
        · rw [← more q, h, List.mem_append, List.mem_singleton]
          simp
      have dr : DGet H1 r (.int (n : Nat)) (valV kvs (.inl (n : Int))) := .inl ⟨kvs, .inl (n : Int), .inr ⟨od, z _ _ rL⟩, rfl, rfl⟩
      have db : DGet H1 b (.int (n : Nat)) (valV kvb (.inl (n : Int))) := DGet.k (k := .inl (n : Int)) (z _ _ bL)
      have fr : ∃ y, f n = some y := by
        cases e : f n with
        | some y => exact ⟨y, rfl⟩
        | none =>
          have q := (hf.2 n).1 (by unfold E2; rw [e]; rfl)
          have a := valV_any (.inl (n : Int) : Key) kvs
          rw [q] at a
          have : kvs.any (fun kv => decide (kv.1 = (.inl (n : Int) : Key))) = true := List.any_eq_true.mpr ⟨_, List.mem_of_getElem? hk, decide_eq_true rfl⟩
          rw [this] at a
          cases a
      obtain ⟨y, ey⟩ := fr
      obtain ⟨p, ep, sp⟩ := (hf.2 n).2 (ent2 y) (by unfold E2; rw [ey]; rfl)
      rw [ep] at dr
      have sp1 := (tL.sq sp)
      have sp2 := (same_tups z).sq sp1
      have ei : impr f g n = match g n with | none => true | some y' => decide (y'.1 < y.1) := by unfold impr; rw [ey]
      walk_at "st"
      refine ⟨rfl, ?_⟩
      walk_at "go"
      refine ⟨b, _, rfl, db, ?_⟩
      walk_at "go"
      cases eg : g n with
      | none =>
        rw [(hg.2 n).1 (by unfold E2; rw [eg]; rfl)]
        rw [eg] at ei
        refine iteT (iteT ?_)
        walk_at "go"
        exact snoc ei
      | some y' =>
        obtain ⟨p', ep', sp'⟩ := (hg.2 n).2 (ent2 y') (by unfold E2; rw [eg]; rfl)
        rw [ep'] at db ⊢
        rw [eg] at ei
        refine iteF ?_
        walk_at "go"
        refine ⟨r, _, rfl, dr, ?_⟩
        walk_at "go"
        refine k_ixT sp2 (v := .int y.1) rfl ?_
        walk_at "go"
        refine ⟨b, _, rfl, db, ?_⟩
        walk_at "go"
        refine k_ixT ((same_tups z).sq (tL.sq sp')) (v := .int y'.1) rfl ?_
        walk_at "go"
        refine k_ite (fun c => ?_) (fun c => ?_)
        · walk_at "go"
          exact snoc (ei.trans (decide_eq_true c))
        · exact keep rfl (ei.trans (decide_eq_false c))
    · rintro H1 ⟨z, l, el, ll, hl⟩
      refine ⟨z _ _ rL, k L l _ (fun c o ec => ?_) hL0 ?_ (fun n => ?_) (by omega)⟩
      · by_cases cr : c = r
        · rw [cr, upd_same]
          rw [cr, hr0] at ec
          exact ec
        · rw [upd_ne cr]
          exact z _ _ (by rw [eL, upd_ne cr]; exact ec)
      · rw [upd_ne nLr]; exact el
      · rw [hl n]
        refine ⟨fun h => h.1, fun h => ⟨h, ?_⟩⟩
        have fs : ∃ y, f n = some y := by
          unfold impr at h
          cases e : f n with
          | none => rw [e] at h; cases h
          | some y => exact ⟨y, rfl⟩
        obtain ⟨y, ey⟩ := fs
        obtain ⟨p, ep, _⟩ := (hf.2 n).2 (ent2 y) (by unfold E2; rw [ey]; rfl)
        have a := valV_any (.inl (n : Int) : Key) kvs
        rw [ep] at a
        obtain ⟨kv, hm, hd⟩ := List.any_eq_true.mp (a.trans rfl)
        obtain ⟨j, hj, ej⟩ := List.getElem_of_mem hm
        refine ⟨j, kv.2, hj, ?_⟩
        rw [List.getElem?_eq_getElem hj, ej]
        have : kv.1 = .inl (n : Int) := of_decide_eq_true hd
        rw [← this]
end
/-- the stands found and those that wait -/
structure Led (N : Nat) (ss : List Stp) (l F Wt : List Nat) : Prop where
  nd : F.Nodup
  bd : ∀ n ∈ F, n < N
  re : ∀ n ∈ F, Reach ss l n
  sub : ∀ n ∈ Wt, n ∈ F
  bas : ∀ n ∈ l, n ∈ F
/-- all but those that wait (and it, from the step i on) are closed -/
def Closed (ss : List Stp) (F Wt : List Nat) : Prop := ∀ s ∈ ss, s.b ∈ F → s.b ∉ Wt → s.e ∈ F
section
variable {P : Program} {w : World} {K : PySem.W.Frag} {mg : Str → Option Value} {base : Heap}
theorem ok_led_to (T : Txt K mg) : FnOk P w K mg base (L2.CX P w) 3 T.a_led_to T.fd_led_to ["steps", "begins"] (sp_led K) := by
  refine T.F_led_to.okX sc_led_to (fun vs H Q E h => ?_) (fun cdv A outer s H vs Q E hr h => ?_)
  · obtain ⟨t, p, N, ss, l, rfl, _⟩ := h
    rfl
  · obtain ⟨t, p, N, ss, l, rfl, ⟨us, ht, hs⟩, o, hp, hl, ll, k⟩ := h
    refine ⟨_, (PSs.nox (pss_cons (ps_setDc (i := 2) (own := [("stand", 4)]) (g := (gName 4)) (tt := tYes) rfl sc_led_to.nd rfl rfl (sw_trueD rfl rfl rfl (by decide +kernel)) (pi_list (pv 1)) (blkOk_by (own := [("stand", 4)]) (N := ["steps", "begins", "found", "waiting", "stand", "begun", "_", "end"]) (sc := defScope s_led_to) (by decide +kernel)) (fun _ _ _ _ _ => (pg_name (i := 4) sc_led_to.nd rfl (Or.inl rfl))) (fun _ _ _ _ _ => pts_nil) (fun _ _ _ _ _ => (pv 4)) (fun _ _ _ _ _ => pe_bl))
  (pss_cons (ps_set (i := 3) sc_led_to.nd rfl (Or.inl rfl) (pe_callTy call_list_of (by rfl) T.z_list PySem.Pv.boot_list (pa_cons (pv 1) pa_nil)))
  (pss_cons (ps_while PassesOwn.never (pt_truth (pv 3) (fun _ => rfl))
  (pss_cons (ps_set (i := 4) sc_led_to.nd rfl (Or.inl rfl) (pe_bm0 PySem.F.plainAttrs_list PySem.F.slot_list_pop PySem.F.type_list_pop mt_pop (pv 3)))
  (pss_one (ps_for PassesOwn.never rfl (pi_sq (pv 0)) (pg_tup rfl (pgs_cons (pg_name (i := 5) sc_led_to.nd rfl (Or.inl rfl)) (pgs_cons (pg_name (i := 6) sc_led_to.nd rfl (Or.inl rfl)) (pgs_cons (pg_name (i := 7) sc_led_to.nd rfl (Or.inl rfl)) (pgs_cons (pg_name (i := 6) sc_led_to.nd rfl (Or.inl rfl)) pgs_nil)))))
  (pss_one (ps_if (PW.pt (pw_and (pt_cmpR op_eq (pv 5) (pv 4) (nomark _)) (pw_and1 (pt_cmp (pc_dnotin (hu_of hr) (pv 7) (pv 2)) (by rfl)))))
  (pss_cons (ps_dput (hu_of hr) (pv 2) (pv 7) pe_bl rfl)
  (pss_one (ps_expr (pe_bm PySem.F.plainAttrs_list PySem.F.slot_list_append PySem.F.type_list_append mt_append (pv 3) (pa_cons (pv 7) pa_nil)))))
  pss_nil))))))
  (pss_one (ps_ret (pe_callB (call_sortedDI rfl) (by rfl) T.z_sorted (by decide +kernel) (pa_cons (pv 2) pa_nil)))))))), ?_⟩
    walk_at "begin"
    walk_at "go"
    refine ⟨p, rfl, ⟨_, SqL.of hp⟩, fun D hD => ?_⟩
    refine dc_lst (xs := nats l) (fun i H' => Same H H' ∧ ∃ F, H' D = some (.dK (fkv F)) ∧ F.length ≤ i ∧ F.Nodup ∧ (∀ n, n ∈ F ↔ n ∈ l.take i)) ⟨Same.new hD, [], upd_same, Nat.le_refl _, .nil, fun n => by simp⟩
      (fun i H' _ ⟨z, _⟩ => z.seq (SqL.of hp)) ?_ ?_
    · rintro i y H1 hy ⟨z, F, eF, lF, nF, mF⟩
      obtain ⟨n, hn, rfl⟩ := nats_at hy
      walk_at "go"
      refine ⟨rfl, ?_⟩
      walk_at "go"
      refine iteT ?_
      walk_at "go"
      have il := (List.getElem?_eq_some_iff.mp hn).1
      refine ⟨_, .inl (n : Int), rfl, eF, ?_, ?_⟩
      · have : (fkv F).length < 1000 := by unfold fkv; rw [List.length_map]; omega
        exact Nat.lt_trans this (by decide)
      · refine ⟨Same.mut z hD, addN F n, by rw [upd_same, putK_fkv], ?_, addN_nodup nF, fun q => ?_⟩
        · unfold addN
          split
          · omega
          · rw [List.length_append, List.length_singleton]; omega
        · rw [addN_mem, mF q, List.take_add_one, hn, List.mem_append]
          simp
    · rintro H1 ⟨z, F, eF, lF, nF, mF⟩
      have tl : l.take (nats l).length = l := by unfold nats; rw [List.length_map, List.take_length]
      rw [tl] at mF
      walk_at "go"
      refine ⟨p, _, rfl, .inl (z.seq (SqL.of hp)), fun B hB => ?_⟩
      have nDB : D ≠ B := ne_of_none eF hB
      have hB0 : H B = none := by
        cases q : H B with
        | none => rfl
        | some ob => rw [z _ _ q] at hB; cases hB
      have L0 : Led N ss l F l := ⟨nF, fun n h => hl n ((mF n).mp h), fun n h => .base ((mF n).mp h), fun n h => (mF n).mpr h, fun n h => (mF n).mpr h⟩
      have C0 : Closed ss F l := fun st _ h1 h2 => absurd ((mF _).mp h1) h2
      walk_at "go"
      refine k_whl (fun q σ H' => ∃ F Wt a4 a5 a6 a7, q = 2 * (64 - F.length) + Wt.length ∧ Same H H' ∧ H' D = some (.dK (fkv F)) ∧ H' B = some (.lst (nats Wt)) ∧ Led N ss l F Wt ∧ Closed ss F Wt ∧ q ≤ 500 ∧
        σ = [some (.ref t), some (.ref p), some (.ref D), some (.ref B), a4, a5, a6, a7]) ⟨_, F, l, none, none, none, none, rfl, Same.mut z hB0, by rw [upd_ne nDB]; exact eF, upd_same, L0, C0, by omega, rfl⟩ ?_
        (fun σ H R R' h ⟨v, e, c, t, q⟩ => ⟨v, e, c, t, h _ _ q⟩)
      rintro q σ H2 ⟨F, Wt, a4, a5, a6, a7, rfl, z, eF, eB, L, C, lW, rfl⟩
      clear mF nF lF L0 C0
      refine k_var rfl ⟨_, .inl ⟨_, SqL.of eB, rfl⟩, ?_⟩
      rcases List.eq_nil_or_concat Wt with rfl | ⟨W', st, eW⟩
      · refine iteF ?_
        walk_at "go"
        have nk : (fkv F).map (·.1) = (F.map fun n : Nat => (n : Int)).map Sum.inl := by unfold fkv; rw [List.map_map, List.map_map]; rfl
        have f8 := nodup_small L.nd L.bd
        refine ⟨D, fkv F, F.map fun n : Nat => (n : Int), rfl, .inl eF, nk, by rw [List.length_map]; have := o.n64; omega, fun ys q perm up hq => ?_⟩
        -- the sorted keys are stands again
        obtain ⟨F', rfl⟩ : ∃ F' : List Nat, ys = F'.map fun n : Nat => (n : Int) := by
          have all : ∀ y ∈ ys, ∃ n : Nat, y = (n : Int) := fun y hy => by
            have := perm.mem_iff.mp hy
            obtain ⟨n, _, rfl⟩ := List.mem_map.mp this
            exact ⟨n, rfl⟩
          clear perm up hq
          induction ys with
          | nil => exact ⟨[], rfl⟩
          | cons y ys ih =>
            obtain ⟨n, rfl⟩ := all y List.mem_cons_self
            obtain ⟨F', e⟩ := ih fun y hy => all y (List.mem_cons_of_mem _ hy)
            exact ⟨n :: F', by rw [e]; rfl⟩
        have mem : ∀ n, n ∈ F' ↔ n ∈ F := fun n => by
          have := perm.mem_iff (a := (n : Int))
          constructor
          · intro h
            have h2 := this.mp (List.mem_map.mpr ⟨n, h, rfl⟩)
            obtain ⟨n', h3, e⟩ := List.mem_map.mp h2
            have : n' = n := by exact_mod_cast e
            rw [← this]; exact h3
          · intro h
            have h2 := this.mpr (List.mem_map.mpr ⟨n, h, rfl⟩)
            obtain ⟨n', h3, e⟩ := List.mem_map.mp h2
            have : n' = n := by exact_mod_cast e
            rw [← this]; exact h3
        have inj : ∀ a b : Nat, (a : Int) = (b : Int) → a = b := fun a b e => by exact_mod_cast e
        have nd' : (F'.map fun n : Nat => (n : Int)).Nodup := perm.nodup_iff.mpr (List.Pairwise.map _ (fun a b h e => h (inj a b e)) L.nd)
        have hq0 : H q = none := by
          cases e : H q with
          | none => rfl
          | some ob => rw [z _ _ e] at hq; cases hq
        refine k q F' _ (z.trans (Same.new hq)) hq0 ?_ (fun n => ?_) ?_
        · rw [upd_same]
          unfold nats
          rw [List.map_map]
          rfl
        · rw [mem n]
          refine ⟨L.re n, fun h => ?_⟩
          induction h with
          | base h => exact L.bas _ h
          | step h _ ih => exact C _ h ih (by simp)
        · have up' : (F'.map fun n : Nat => (n : Int)).Pairwise (· < ·) := by
            have := List.Pairwise.and up nd'
            exact this.imp fun ⟨h1, h2⟩ => by omega
          rw [List.pairwise_map] at up'
          exact up'.imp fun h => by omega
      · rw [List.concat_eq_append] at eW
        subst eW
        have ne : nats (W' ++ [st]) = nats W' ++ [.int (st : Nat)] := nats_snoc W' st
        rw [ne] at eB ⊢
        have ql : (W' ++ [st]).length = W'.length + 1 := by rw [List.length_append]; rfl
        rw [ql] at lW ⊢
        obtain ⟨q0, hq0⟩ : ∃ q0, q0 = 2 * (64 - F.length) + (W'.length + 1) := ⟨_, rfl⟩
        rw [← hq0] at lW ⊢
        refine k_yes (by simp) ?_
        walk_at "go"
        refine ⟨.inl ⟨rfl, _, SqL.of eB⟩, B, _, .int (st : Nat), rfl, rfl, eB, by simp, ?_⟩
        rw [List.dropLast_concat]
        have z3 : Same H (upd H2 B (.lst (nats W'))) := Same.mut z hB0
        have t3 := same_tups z3
        have stF : st ∈ F := L.sub _ (by simp)
        walk_at "go"
        refine for_sq (xs := us) rfl ht (fun i σ H' => ∃ F Wt a5 a6 a7, 2 * (64 - F.length) + Wt.length + 1 ≤ q0 ∧ Same H H' ∧ H' D = some (.dK (fkv F)) ∧ H' B = some (.lst (nats Wt)) ∧ Led N ss l F Wt ∧ st ∈ F ∧
          (∀ s ∈ ss, s.b ∈ F → s.b ∉ Wt → s.b ≠ st → s.e ∈ F) ∧ (∀ s ∈ ss.take i, s.b = st → s.e ∈ F) ∧
          σ = [some (.ref t), some (.ref p), some (.ref D), some (.ref B), some (.int (st : Nat)), a5, a6, a7])
          ⟨F, W', _, _, _, by omega, z3, by rw [upd_ne nDB]; exact eF, upd_same, ⟨L.nd, L.bd, L.re, fun n h => L.sub n (by simp [h]), L.bas⟩, stF, fun s hs h1 h2 h3 => C s hs h1 (by simp [h2, h3]), fun s h => by simp at h, rfl⟩
          (fun i σ H' ⟨_, _, _, _, _, _, z, _⟩ => z) ?_ ?_
        · clear eF eB L C z z3 t3 stF ql hq0 ne
          rintro i y σ H3 hy ⟨F, Wt, a5, a6, a7, le, z, eF, eB, L, stF, C1, C2, rfl⟩
          have il : i < ss.length := by rw [← hs.1]; exact (List.getElem?_eq_some_iff.mp hy).1
          have ei : ss[i]? = some (ss[i]'il) := List.getElem?_eq_getElem il
          obtain ⟨q, eq, hq⟩ := hs.2 i _ ei
          rw [hy] at eq
          cases eq
          have ok1 := o.ok _ (List.getElem_mem il)
          have im : ss[i]'il ∈ ss := List.getElem_mem il
          have tk : ∀ s, s ∈ ss.take (i + 1) ↔ s ∈ ss.take i ∨ s = ss[i]'il := fun s => by rw [List.take_add_one, ei, List.mem_append]; simp
          generalize ss[i]'il = s0 at hq ok1 im tk
          have dg : DGet H3 D (.int (s0.e : Nat)) (valV (fkv F) (.inl (s0.e : Int))) := DGet.k (k := .inl (s0.e : Int)) eF
          refine k_gt ((same_tups z).sq hq) rfl ?_
          unfold stpV
          walk_at "go"
          refine k_ite (fun c => ?_) (fun c => ?_)
          · have c' : s0.b = st := by
              injection c with c
              omega
            walk_at "go"
            refine ⟨D, _, rfl, dg, ?_⟩
            walk_at "go"
            rw [valV_fkv]
            by_cases d : s0.e ∈ F
            · rw [if_pos d]
              refine iteF ?_
              walk_at "go"
              exact ⟨F, Wt, _, _, _, le, z, eF, eB, L, stF, C1, fun s h e => by
                rcases (tk s).mp h with h | rfl
                · exact C2 s h e
                · exact d, rfl⟩
            · rw [if_neg d]
              refine iteT ?_
              walk_at "go"
              have ad : addN F s0.e = F ++ [s0.e] := if_neg d
              have f8 : (fkv F).length < sizeLine := by
                have := nodup_small L.nd L.bd
                have := o.n64
                have : (fkv F).length < 1000 := by unfold fkv; rw [List.length_map]; omega
                exact Nat.lt_trans this (by decide)
              have w8 : (nats Wt).length < sizeLine := by
                have : (nats Wt).length < 1000 := by unfold nats; rw [List.length_map]; omega
                exact Nat.lt_trans this (by decide)
              refine ⟨D, _, rfl, DPut.k (k := .inl (s0.e : Int)) eF f8, ?_⟩
              rw [putK_fkv, ad]
              have eB3 : (upd H3 D (.dK (fkv (F ++ [s0.e])))) B = some (.lst (nats Wt)) := by rw [upd_ne nDB.symm]; exact eB
              walk_at "go"
              refine ⟨.inl ⟨rfl, _, SqL.of eB3⟩, ?_⟩
              walk_at "go"
              refine k_append eB3 w8 ?_
              rw [← nats_snoc]
              have nd2 : (F ++ [s0.e]).Nodup := by rw [← ad]; exact addN_nodup L.nd
              have bd2 : ∀ n ∈ F ++ [s0.e], n < N := fun n h => by
                rcases List.mem_append.mp h with h | h
                · exact L.bd n h
                · rw [List.mem_singleton.mp h]; exact ok1.e
              refine ⟨F ++ [s0.e], Wt ++ [s0.e], _, _, _, ?_, Same.mut (Same.mut z hD) hB0, by rw [upd_ne nDB, upd_same], upd_same, ⟨nd2, bd2, ?_, ?_, fun n h => List.mem_append_left _ (L.bas n h)⟩, List.mem_append_left _ stF, ?_, ?_, rfl⟩
              · have := nodup_small nd2 bd2
                have := o.n64
                rw [List.length_append, List.length_append, List.length_singleton] at *
                omega
              · intro n h
                rcases List.mem_append.mp h with h | h
                · exact L.re n h
                · rw [List.mem_singleton.mp h]
                  exact .step im (L.re _ (by rw [c']; exact stF))
              · intro n h
                rcases List.mem_append.mp h with h | h
                · exact List.mem_append_left _ (L.sub n h)
                · exact List.mem_append_right _ h
              · intro s hs h1 h2 h3
                rcases List.mem_append.mp h1 with h1 | h1
                · exact List.mem_append_left _ (C1 s hs h1 (fun z => h2 (List.mem_append_left _ z)) h3)
                · exact absurd (List.mem_append_right _ h1) h2
              · intro s h e
                rcases (tk s).mp h with h | rfl
                · exact List.mem_append_left _ (C2 s h e)
                · exact List.mem_append_right _ (List.mem_singleton.mpr rfl)
          · refine iteF ?_
            walk_at "go"
            refine ⟨F, Wt, _, _, _, le, z, eF, eB, L, stF, C1, fun s h e => ?_, rfl⟩
            rcases (tk s).mp h with h | rfl
            · exact C2 s h e
            · exact absurd (show V.int (s.b : Nat) = V.int (st : Nat) by rw [e]) c
        · rintro σ H3 ⟨F, Wt, a5, a6, a7, le, z, eF, eB, L, stF, C1, C2, rfl⟩
          rw [hs.1, List.take_length] at C2
          refine ⟨_, ?_, F, Wt, _, _, _, _, rfl, z, eF, eB, L, fun s hs h1 h2 => ?_, by omega, rfl⟩
          · omega
          · by_cases c : s.b = st
            · exact C2 s hs c
            · exact C1 s hs h1 h2 c
end
/-! ### the best rows of all -/
def lvl (sg : Int) (ss : List Stp) : Nat → RF
  | 0 => fun n => if n = 0 then some (0, []) else none
  | i + 1 => longer sg (lvl sg ss i) ss
def bst (sg : Int) (ss : List Stp) : Nat → RF
  | 0 => fun _ => none
  | i + 1 => fun n => if impr (lvl sg ss i) (bst sg ss i) n = true then lvl sg ss i n else bst sg ss i n
theorem longer_ind {sg : Int} {f : RF} {ss : List Stp} {P : Nat → Int × Wd → Prop} (h : ∀ s ∈ ss, ∀ y, f s.b = some y → P s.e (y.1 + sg * s.g, y.2 ++ [s.c])) : ∀ n y, longer sg f ss n = some y → P n y := by
  have gen : ∀ (ss' : List Stp) (acc : RF), (∀ s ∈ ss', s ∈ ss) → (∀ n y, acc n = some y → P n y) → ∀ n y, ss'.foldl (turnL sg f) acc n = some y → P n y := by
    intro ss'
    induction ss' with
    | nil => exact fun acc _ ha => ha
    | cons s r ih =>
      intro acc sub ha
      refine ih (turnL sg f acc s) (fun t ht => sub t (List.mem_cons_of_mem _ ht)) fun n y e => ?_
      unfold turnL at e
      cases fb : f s.b with
      | none => rw [fb] at e; exact ha n y e
      | some v =>
        rw [fb] at e
        dsimp only at e
        split at e
        · unfold RF.put at e
          split at e
          · rename_i q
            cases e
            rw [q]
            exact h s (sub s List.mem_cons_self) v fb
          · exact ha n y e
        · exact ha n y e
  exact gen ss _ (fun _ h => h) fun _ _ e => nomatch e
theorem lvl_sok {sg : Int} {N : Nat} {ss : List Stp} (o : SsOk N ss) : ∀ i n y, lvl sg ss i n = some y → n < N ∧ y.2.length = i
  | 0, n, y, e => by
    unfold lvl at e
    split at e
    · rename_i q
      cases e
      exact ⟨by rw [q]; exact o.n1, rfl⟩
    · cases e
  | i + 1, n, y, e => longer_ind (P := fun n y => n < N ∧ y.2.length = i + 1) (fun s hs v ev => ⟨(o.ok s hs).e, by rw [List.length_append, (lvl_sok o i _ _ ev).2]; rfl⟩) n y e
theorem lvl_ok {sg : Int} {m : MD} (o : m.Ok) : ∀ i n y, lvl sg m.ss i n = some y → n < m.n ∧ y.2.length = i := lvl_sok o.sok
def endE : List V := [.str "endless", .non]
def sp_best (K : PySem.W.Frag) : Sp := fun vs H Q _ => ∃ (t : Addr) (sg : Int) (N : Nat) (ss : List Stp), vs = [.int (N : Nat), .ref t, .int sg] ∧ StSq K H t ss ∧ SsOk N ss ∧ Sgn sg ∧
  ∀ p kvs H' (l L : List Nat), Same H H' → H p = none → H' p = some (.dK kvs) → (∀ n, n ∈ l ↔ impr (lvl sg ss N) (bst sg ss N) n = true) → (∀ n, n ∈ L ↔ Reach ss l n) →
    KvOk K H' kvs (fun n => if n ∈ L then some endE else E2 (bst sg ss N) n) → Q (.ref p) H'
section
variable {P : Program} {w : World} {K : PySem.W.Frag} {mg : Str → Option Value} {base : Heap}
theorem ok_best_rows (T : Txt K mg) : FnOk P w K mg base (L2.CX P w) 4 T.a_best_rows T.fd_best_rows ["many", "steps", "sign"] (sp_best K) := by
  refine T.F_best_rows.okX sc_best_rows (fun vs H Q E h => ?_) (fun cdv A outer s H vs Q E hr h => ?_)
  · obtain ⟨t, sg, N, ss, rfl, _⟩ := h
    rfl
  · obtain ⟨t, sg, N, ss, rfl, hm, o, hsg, k⟩ := h
    refine ⟨_, (PSs.nox (pss_cons (ps_set (i := 3) sc_best_rows.nd rfl (Or.inl rfl) pe_dnewK)
  (pss_cons (ps_set (i := 4) sc_best_rows.nd rfl (Or.inl rfl) (pe_disp (pps_cons pe_int (pe_tup (pa_cons pe_int (pa_cons pe_str pa_nil))) pps_nil) (by rfl) (by rfl) (fun z => by cases z) (by decide)))
  (pss_cons (ps_for PassesOwn.never rfl (pi_range1 (by rfl) T.z_range (pa_cons (pv 0) pa_nil)) (pg_name (i := 5) sc_best_rows.nd rfl (Or.inl rfl))
  (pss_cons (ps_set (i := 6) sc_best_rows.nd rfl (Or.inl rfl) (pe_call (ok_improved T) (hr.mono (by decide)) (by rfl) T.m_improved T.k_improved T.b_improved .nil passL (pa_cons (pv 4) (pa_cons (pv 3) pa_nil))))
  (pss_cons (ps_for PassesOwn.never rfl (pi_list (pv 6)) (pg_name (i := 7) sc_best_rows.nd rfl (Or.inl rfl))
  (pss_one (ps_dput (hu_of hr) (pv 3) (pv 7) (pe_dget (hu_of hr) (pv 4) (pv 7) (fun _ _ => rfl)) rfl)))
  (pss_one (ps_set (i := 4) sc_best_rows.nd rfl (Or.inl rfl) (pe_call (ok_longer_rows T) (hr.mono (by decide)) (by rfl) T.m_longer_rows T.k_longer_rows T.b_longer_rows .nil passL (pa_cons (pv 1) (pa_cons (pv 2) (pa_cons (pv 4) pa_nil)))))))))
  (pss_cons (ps_set (i := 8) sc_best_rows.nd rfl (Or.inl rfl) (pe_call (ok_led_to T) (hr.mono (by decide)) (by rfl) T.m_led_to T.k_led_to T.b_led_to .nil passL (pa_cons (pv 1) (pa_cons (pe_call (ok_improved T) (hr.mono (by decide)) (by rfl) T.m_improved T.k_improved T.b_improved .nil passL (pa_cons (pv 4) (pa_cons (pv 3) pa_nil))) pa_nil))))
  (pss_cons (ps_for PassesOwn.never rfl (pi_list (pv 8)) (pg_name (i := 7) sc_best_rows.nd rfl (Or.inl rfl))
  (pss_one (ps_dput (hu_of hr) (pv 3) (pv 7) (pe_tup (pa_cons (pe_glob (by rfl) T.m_ENDLESS T.r_ENDLESS) (pa_cons pe_non pa_nil))) rfl)))
  (pss_one (ps_ret (pv 3))))))))), ?_⟩
    walk_at "begin"
    walk_at "go"
    intro D hD
    walk_at "go"
    intro r hr0
    walk_at "go"
    refine ⟨(by decide : 2 ≤ sizeLine), fun q hq => ?_⟩
    walk_at "go"
    have nDr : D ≠ r := ne_of_none (upd_same (H := H) (o := .dK [])) hr0
    have nrq : r ≠ q := ne_of_none upd_same hq
    have nDq : D ≠ q := fun e => by rw [← e, upd_ne nDr, upd_same] at hq; cases hq
    have hr1 : H r = none := by rw [upd_ne nDr.symm] at hr0; exact hr0
    have z1 : Same H (upd (upd (upd H D (.dK [])) r (.dK [])) q (.tup [.int 0, .str ""])) := ((Same.new hD).trans (Same.new hr0)).trans (Same.new hq)
    refine ⟨by rw [upd_ne nrq, upd_same], [(.inl 0, .ref q)], rfl, (by decide : 1 ≤ 15), ?_⟩
    have em : mergeK [] [((.inl 0 : Key), V.ref q)] = [(.inl 0, .ref q)] := rfl
    rw [em]
    have z2 := Same.mut (o := .dK [(.inl 0, .ref q)]) z1 hr1
    generalize hH1 : upd (upd (upd (upd H D (.dK [])) r (.dK [])) q (.tup [.int 0, .str ""])) r (.dK [(.inl 0, .ref q)]) = H1 at z2 ⊢
    have eD1 : H1 D = some (.dK []) := by rw [← hH1, upd_ne nDr, upd_ne nDq, upd_ne nDr, upd_same]
    have er1 : H1 r = some (.dK [(.inl 0, .ref q)]) := by rw [← hH1, upd_same]
    have eq1 : H1 q = some (.tup [.int 0, .str ""]) := by rw [← hH1, upd_ne nrq.symm, upd_same]
    have ok0 : KvOk K H1 [(.inl 0, .ref q)] (E2 (lvl sg ss 0)) := by
      have := KvOk.put (n := 0) (KvOk.nil (K := K) (H := H1)) (l := ent2 (0, [])) (SqT.of eq1)
      refine KvOk.congr this fun n => ?_
      unfold E2 lvl
      by_cases c : n = 0
      · rw [if_pos c, if_pos c]; rfl
      · rw [if_neg c, if_neg c]; rfl
    clear hH1 z1 em hq hr0 nrq nDq eq1
    walk_at "go"
    have n8 := o.n64
    refine k_rg (by omega) (by omega) ?_
    refine for_range (lo := 0) (n := (((N : Nat) : Int)).toNat) (fun i σ H' => ∃ kvD kvR r a4 a5 a6 a7, Same H H' ∧ H' D = some (.dK kvD) ∧ KvOk K H' kvD (E2 (bst sg ss i)) ∧ kvD.length ≤ 300 * i ∧ H' r = some (.dK kvR) ∧ KvOk K H' kvR (E2 (lvl sg ss i)) ∧
      kvR.length ≤ 300 ∧ r ≠ D ∧ σ = [some (.int (N : Nat)), some (.ref t), some (.int sg), some (.ref D), some (.ref r), a4, a5, a6, a7])
      ⟨[], _, r, none, none, none, none, z2, eD1, KvOk.nil, Nat.le_refl _, er1, ok0, (by decide : 1 ≤ 300), nDr.symm, rfl⟩ ?_ ?_
    · clear z2 eD1 er1 ok0 nDr hr1
      rintro i σ H2 hi ⟨kvD, kvR, r, a4, a5, a6, a7, z, eD, okD, lD, er, okR, lR, ne, rfl⟩
      have im : i < N := hi
      walk_at "go"
      refine ⟨r, D, _, _, kvR, kvD, rfl, er, okR, eD, okD, ne, by omega, fun p l H3 z3 hp0 ep mem ll => ?_⟩
      walk_at "go"
      have nDp : D ≠ p := ne_of_none eD hp0
      refine ⟨p, rfl, ⟨_, SqL.of ep⟩, for_list (xs := nats l) (fun j σ H' => ∃ kvD' a6, Same H H' ∧ H' D = some (.dK kvD') ∧ KvOk K H' kvD' (E2 fun n => if n ∈ l.take j then lvl sg ss i n else bst sg ss i n) ∧ kvD'.length ≤ 300 * i + j ∧
        H' r = some (.dK kvR) ∧ KvOk K H' kvR (E2 (lvl sg ss i)) ∧ H' p = some (.lst (nats l)) ∧ σ = [some (.int (N : Nat)), some (.ref t), some (.int sg), some (.ref D), some (.ref r), some (.int (0 + (i : Nat))), some (.ref p), a6, a7])
        ⟨kvD, a6, z.trans z3, z3 _ _ eD, (okD.tups (same_tups z3)).congr fun n => by simp [E2], by omega, z3 _ _ er, okR.tups (same_tups z3), ep, rfl⟩ (fun _ _ _ _ ⟨_, _, _, _, _, _, _, _, h, _⟩ => SqL.of h) ?_ ?_⟩
      · rintro j y σ H4 hy ⟨kvD', a6, z4, eD4, ok4, l4, er4, okR4, ep4, rfl⟩
        obtain ⟨n, hn, rfl⟩ := nats_at hy
        have jl : j < l.length := (List.getElem?_eq_some_iff.mp hn).1
        have nm := (mem n).mp (List.mem_of_getElem? hn)
        obtain ⟨yv, ey⟩ : ∃ y, lvl sg ss i n = some y := by
          unfold impr at nm
          cases e : lvl sg ss i n with
          | none => rw [e] at nm; cases nm
          | some y => exact ⟨y, rfl⟩
        obtain ⟨p4, ep4', sp4⟩ := (okR4.2 n).2 (ent2 yv) (by unfold E2; rw [ey]; rfl)
        have dg : DGet H4 r (.int (n : Nat)) (valV kvR (.inl (n : Int))) := DGet.k (k := .inl (n : Int)) er4
        rw [ep4'] at dg
        walk_at "go"
        refine ⟨r, _, rfl, dg, ?_⟩
        walk_at "go"
        refine ⟨D, _, rfl, DPut.k (k := .inl (n : Int)) eD4 (Nat.lt_trans (show kvD'.length < 30000 by omega) (by decide)), ?_⟩
        refine ⟨_, _, Same.mut z4 hD, upd_same, ?_, by have := length_putK kvD' (.inl (n : Int)) (V.ref p4); omega, by rw [upd_ne ne]; exact er4, okR4.tups (Tups.dk eD4), by rw [upd_ne nDp.symm]; exact ep4, rfl⟩
        refine ((KvOk.put (n := n) ok4 sp4).tups (Tups.dk eD4)).congr fun n' => ?_
        have m1 : n' ∈ l.take (j + 1) ↔ n' ∈ l.take j ∨ n' = n := by rw [List.take_add_one, hn, List.mem_append]; simp
        unfold E2
        dsimp only
        by_cases c : n' = n
        · rw [if_pos c, if_pos (m1.mpr (.inr c)), c, ey]
          rfl
        · rw [if_neg c]
          by_cases d : n' ∈ l.take j
          · rw [if_pos d, if_pos (m1.mpr (.inl d))]
          · rw [if_neg d, if_neg (fun z => by rcases m1.mp z with z | z; exact d z; exact c z)]
      · rintro σ H4 ⟨kvD', a6, z4, eD4, ok4, l4, er4, okR4, ep4, rfl⟩
        have tl : l.take (nats l).length = l := by unfold nats; rw [List.length_map, List.take_length]
        rw [tl] at ok4
        have ll' : (nats l).length = l.length := by unfold nats; rw [List.length_map]
        walk_at "go"
        refine ⟨t, r, sg, N, ss, _, kvR, rfl, hm.same z4, o, er4, okR4, hsg, fun n y e => by have := (lvl_sok o i n y e).2; omega, fun p' kvs' H5 z5 hp5 ep5 ok5 l5 => ?_⟩
        walk_at "go"
        refine ⟨kvD', kvs', p', _, _, _, _, z4.trans z5, z5 _ _ eD4, (ok4.tups (same_tups z5)).congr fun n => ?_, by omega, ep5, ok5, l5, (ne_of_none eD4 hp5).symm, rfl⟩
        unfold E2
        show Option.map ent2 (if n ∈ l then lvl sg ss i n else bst sg ss i n) = Option.map ent2 (if impr (lvl sg ss i) (bst sg ss i) n = true then lvl sg ss i n else bst sg ss i n)
        by_cases c : n ∈ l
        · rw [if_pos c, if_pos ((mem n).mp c)]
        · rw [if_neg c, if_neg fun q => c ((mem n).mpr q)]
    · clear z2 eD1 er1 ok0 nDr hr1
      rintro σ H2 ⟨kvD, kvR, r, a4, a5, a6, a7, z, eD, okD, lD, er, okR, lR, ne, rfl⟩
      have nn : (((N : Nat) : Int)).toNat = N := rfl
      rw [nn] at okD okR lD
      walk_at "go"
      refine ⟨r, D, _, _, kvR, kvD, rfl, er, okR, eD, okD, ne, by omega, fun p l H3 z3 hp0 ep mem ll => ?_⟩
      walk_at "go"
      have lb : ∀ n ∈ l, n < N := fun n h => by
        have nm := (mem n).mp h
        unfold impr at nm
        cases e : lvl sg ss N n with
        | none => rw [e] at nm; cases nm
        | some y => exact (lvl_sok o _ _ _ e).1
      refine ⟨t, p, N, ss, l, rfl, hm.same (z.trans z3), o, ep, lb, ll, fun q L H4 z4 hq0 eq mL up => ?_⟩
      have nDq : D ≠ q := ne_of_none (z3 _ _ eD) hq0
      have lL : L.length ≤ 64 := by
        have nd : L.Nodup := up.imp fun h => Nat.ne_of_lt h
        have b : ∀ n ∈ L, n < N := fun n h => by
          have hr2 := (mL n).mp h
          clear h
          induction hr2 with
          | base h => exact lb _ h
          | step hs _ _ => exact (o.ok _ hs).e
        have := nodup_small nd b
        omega
      walk_at "go"
      refine ⟨q, rfl, ⟨_, SqL.of eq⟩, for_list (xs := nats L) (fun j σ H' => ∃ kvD' a6, Same H H' ∧ H' D = some (.dK kvD') ∧ KvOk K H' kvD' (fun n => if n ∈ L.take j then some endE else E2 (bst sg ss N) n) ∧ kvD'.length ≤ 20000 + j ∧
        H' q = some (.lst (nats L)) ∧ σ = [some (.int (N : Nat)), some (.ref t), some (.int sg), some (.ref D), some (.ref r), a4, a5, a6, some (.ref q)])
        ⟨kvD, a6, (z.trans z3).trans z4, z4 _ _ (z3 _ _ eD), (okD.tups (same_tups (z3.trans z4))).congr fun n => by simp, by omega, eq, rfl⟩ (fun _ _ _ _ ⟨_, _, _, _, _, _, h, _⟩ => SqL.of h) ?_ ?_⟩
      · rintro j y σ H5 hy ⟨kvD', a6, z5, eD5, ok5, l5, eq5, rfl⟩
        obtain ⟨n, hn, rfl⟩ := nats_at hy
        have jl : j < L.length := (List.getElem?_eq_some_iff.mp hn).1
        walk_at "go"
        refine ⟨(by decide : 2 ≤ sizeLine), fun pn hpn => ?_⟩
        walk_at "go"
        have eD6 : (upd H5 pn (.tup [.str "endless", .non])) D = some (.dK kvD') := by rw [upd_ne (ne_of_none eD5 hpn)]; exact eD5
        have eq6 : (upd H5 pn (.tup [.str "endless", .non])) q = some (.lst (nats L)) := by rw [upd_ne (ne_of_none eq5 hpn)]; exact eq5
        refine ⟨D, _, rfl, DPut.k (k := .inl (n : Int)) eD6 (Nat.lt_trans (show kvD'.length < 30000 by omega) (by decide)), ?_⟩
        refine ⟨_, _, Same.mut (z5.trans (Same.new hpn)) hD, upd_same, ?_, by have := length_putK kvD' (.inl (n : Int)) (V.ref pn); omega, by rw [upd_ne nDq.symm]; exact eq6, rfl⟩
        refine ((KvOk.put (n := n) (ok5.tups (Tups.new hpn)) (l := endE) (SqT.of upd_same)).tups (Tups.dk eD6)).congr fun n' => ?_
        have m1 : n' ∈ L.take (j + 1) ↔ n' ∈ L.take j ∨ n' = n := by rw [List.take_add_one, hn, List.mem_append]; simp
        by_cases c : n' = n
        · rw [if_pos c, if_pos (m1.mpr (.inr c))]
        · rw [if_neg c]
          by_cases d : n' ∈ L.take j
          · rw [if_pos d, if_pos (m1.mpr (.inl d))]
          · rw [if_neg d, if_neg (fun z => by rcases m1.mp z with z | z; exact d z; exact c z)]
      · rintro σ H5 ⟨kvD', a6, z5, eD5, ok5, l5, eq5, rfl⟩
        have tl : L.take (nats L).length = L := by unfold nats; rw [List.length_map, List.take_length]
        rw [tl] at ok5
        walk_at "go"
        exact k D kvD' H5 l L z5 hD eD5 mem mL ok5
end
/-! ### a machine is one -/
def sp_check_machine (C : Addr) : Sp := fun vs H Q _ => ∃ x dx fs, vs = [.ref x] ∧ H x = some (.ins C dx fs) ∧ Q .non H
section
variable {P : Program} {w : World} {K : PySem.W.Frag} {mg : Str → Option Value} {base : Heap}
theorem ty_Machine (T : Txt K mg) {H : Hp} {x dx : Addr} {fs : List (Str × V)} (h : H x = some (.ins T.c_Machine dx fs)) : TyX K H (.ref x) (.ref T.c_Machine) := .base (.ins h T.cl_Machine T.i1_Machine T.i2_Machine T.i3_Machine T.i4_Machine)
theorem kit_self {C : Addr} : PySem.W.kitOne K (.ref C) (.ref C) = some true := by
  unfold PySem.W.kitOne
  rw [if_pos (by simp)]
theorem ok_check_machine (T : Txt K mg) : FnOk P w K mg base (L2.CX P w) 1 T.a_check_machine T.fd_check_machine ["value"] (sp_check_machine T.c_Machine) := by
  refine T.F_check_machine.okX sc_check_machine (fun vs H Q E h => ?_) (fun cdv A outer s H vs Q E hr h => ?_)
  · obtain ⟨x, dx, fs, rfl, _⟩ := h
    rfl
  · obtain ⟨x, dx, fs, rfl, hx, k⟩ := h
    refine ⟨_, (PSs.nox (pss_one (ps_if (pt_not (pt_val (pe_callB call_isi (by rfl) T.z_isinstance (by decide +kernel) (pa_cons (pv 0) (pa_cons (pe_glob (v := .ref T.c_Machine) (by rfl) T.m_Machine rfl) pa_nil)))))
  (pss_one ps_never)
  pss_nil))), ?_⟩
    walk_at "begin"
    walk_at "go"
    refine k_isi (.own _) (ty_Machine T hx) kit_self ?_
    walk_at "go"
    refine iteF ?_
    walk_at "go"
    exact k
end
/-! ### least and greatest tallies and their rows at a stand -/
theorem lvl_small {sg : Int} {m : MD} (o : m.Ok) (hsg : sg = 1 ∨ sg = -1) : ∀ i n y, lvl sg m.ss i n = some y → -(i * 10 ^ 30 : Int) ≤ y.1 ∧ y.1 ≤ i * 10 ^ 30
  | 0, n, y, e => by
    unfold lvl at e
    split at e
    · cases e; exact ⟨by decide, by decide⟩
    · cases e
  | i + 1, n, y, e => longer_ind (P := fun n y => -(((i + 1 : Nat) : Int) * 10 ^ 30) ≤ y.1 ∧ y.1 ≤ ((i + 1 : Nat) : Int) * 10 ^ 30) (fun s hs v ev => by
      have := lvl_small o hsg i _ _ ev
      have := (o.ok s hs).g
      have := (o.ok s hs).g'
      rcases hsg with rfl | rfl
      · constructor <;> dsimp only <;> omega
      · constructor <;> dsimp only <;> omega) n y e
theorem bst_of {sg : Int} {ss : List Stp} : ∀ i n y, bst sg ss i n = some y → ∃ j, j < i ∧ lvl sg ss j n = some y
  | 0, n, y, e => nomatch e
  | i + 1, n, y, e => by
    unfold bst at e
    split at e
    · exact ⟨i, Nat.lt_succ_self _, e⟩
    · obtain ⟨j, h, q⟩ := bst_of i n y e
      exact ⟨j, by omega, q⟩
def impL (sg : Int) (m : MD) : List Nat := (List.range m.n).filter fun n => impr (lvl sg m.ss m.n) (bst sg m.ss m.n) n
theorem mem_impL {sg : Int} {m : MD} (o : m.Ok) (n : Nat) : n ∈ impL sg m ↔ impr (lvl sg m.ss m.n) (bst sg m.ss m.n) n = true := by
  unfold impL
  rw [List.mem_filter, List.mem_range]
  refine ⟨fun h => h.2, fun h => ⟨?_, h⟩⟩
  unfold impr at h
  cases e : lvl sg m.ss m.n n with
  | none => rw [e] at h; cases h
  | some y => exact (lvl_ok o _ _ _ e).1
theorem reach_congr {ss : List Stp} {l l' : List Nat} (h : ∀ n, n ∈ l ↔ n ∈ l') (n : Nat) : Reach ss l n ↔ Reach ss l' n := by
  constructor
  · intro q
    induction q with
    | base q => exact .base ((h _).mp q)
    | step q _ ih => exact .step q ih
  · intro q
    induction q with
    | base q => exact .base ((h _).mpr q)
    | step q _ ih => exact .step q ih
/-- no best tally there -/
def Endl (sg : Int) (m : MD) (n : Nat) : Prop := Reach m.ss (impL sg m) n
open Classical in
noncomputable def bestE (sg : Int) (m : MD) (n : Nat) : Option (List V) := if Endl sg m n then some endE else E2 (bst sg m.ss m.n) n
open Classical in
noncomputable def tallyAt (sg : Int) (m : MD) (n : Nat) : V := if Endl sg m n then .str "endless" else match bst sg m.ss m.n n with
  | none => .non
  | some y => .int (sg * y.1)
open Classical in
noncomputable def rowAt (sg : Int) (m : MD) (n : Nat) : V := if Endl sg m n then .non else match bst sg m.ss m.n n with
  | none => .non
  | some y => .str (sOf y.2)
def sp_check_stand (K : PySem.W.Frag) (C : Addr) : Sp := fun vs H Q _ => ∃ (x : Addr) (n : Nat) (m : MD), vs = [.ref x, .int (n : Nat)] ∧ MAt K C H x m ∧ n < m.n ∧ Q .non H
def sp_at3 (K : PySem.W.Frag) (C : Addr) (f : Int → MD → Nat → V) : Sp := fun vs H Q _ => ∃ (x : Addr) (n : Nat) (sg : Int) (m : MD), vs = [.ref x, .int (n : Nat), .int sg] ∧ MAt K C H x m ∧ m.Ok ∧ n < m.n ∧ (sg = 1 ∨ sg = -1) ∧ ∀ H', Same H H' → Q (f sg m n) H'
def sp_at2 (K : PySem.W.Frag) (C : Addr) (f : MD → Nat → V) : Sp := fun vs H Q _ => ∃ (x : Addr) (n : Nat) (m : MD), vs = [.ref x, .int (n : Nat)] ∧ MAt K C H x m ∧ m.Ok ∧ n < m.n ∧ ∀ H', Same H H' → Q (f m n) H'
section
variable {P : Program} {w : World} {K : PySem.W.Frag} {mg : Str → Option Value} {base : Heap}
theorem bestE_of {sg : Int} {m : MD} {l L : List Nat} (o : m.Ok) (h : ∀ n, n ∈ l ↔ impr (lvl sg m.ss m.n) (bst sg m.ss m.n) n = true) (h2 : ∀ n, n ∈ L ↔ Reach m.ss l n) : (fun n => if n ∈ L then some endE else E2 (bst sg m.ss m.n) n) = bestE sg m := by
  funext n
  unfold bestE Endl
  have e : n ∈ L ↔ Reach m.ss (impL sg m) n := (h2 n).trans (reach_congr (fun k => (h k).trans (mem_impL o k).symm) n)
  by_cases c : n ∈ L
  · rw [if_pos c, if_pos (e.mp c)]
  · rw [if_neg c, if_neg fun z => c (e.mpr z)]
end
/-! ### what the best rows are worth -/
theorem le_of_not {v w : Wd} (h : ¬ w < v) : v ≤ w := h
theorem wd_trans {u v w : Wd} (h : ¬ v < u) (q : ¬ w < v) : ¬ w < u := List.le_trans (le_of_not h) (le_of_not q)
theorem wd_asymm {v w : Wd} (h : v < w) : ¬ w < v := List.lt_asymm h
theorem wd_snoc : ∀ {v w : Wd} {c : Nat}, v.length = w.length → (v ++ [c] < w ++ [c] ↔ v < w)
  | [], [], c, _ => by simp
  | a :: v, b :: w, c, h => by
    have ih := wd_snoc (v := v) (w := w) (c := c) (by simpa using h)
    rw [List.cons_append, List.cons_append, List.cons_lt_cons_iff, List.cons_lt_cons_iff, ih]
  | [], _ :: _, _, h => by simp at h
  | _ :: _, [], _, h => by simp at h
/-- y is at least as good as x -/
def NW (x y : Int × Wd) : Prop := x.1 < y.1 ∨ (x.1 = y.1 ∧ ¬ x.2 < y.2)
theorem NW.refl (x : Int × Wd) : NW x x := .inr ⟨rfl, List.lt_irrefl _⟩
theorem NW.trans {x y z : Int × Wd} (h : NW x y) (q : NW y z) : NW x z := by
  rcases h with h | ⟨h1, h2⟩
  · rcases q with q | ⟨q1, q2⟩
    · exact .inl (by omega)
    · exact .inl (by omega)
  · rcases q with q | ⟨q1, q2⟩
    · exact .inl (by omega)
    · exact .inr ⟨by omega, wd_trans q2 h2⟩
theorem NW.le {x y : Int × Wd} (h : NW x y) : x.1 ≤ y.1 := by
  rcases h with h | ⟨h, _⟩ <;> omega
theorem better_no {x y : Int × Wd} (h : better x (some y) = false) : NW x y := by
  have e : better x (some y) = (decide (y.1 < x.1) || (decide (x.1 = y.1) && decide (x.2 < y.2))) := rfl
  rw [e, Bool.or_eq_false_iff, Bool.and_eq_false_iff] at h
  obtain ⟨h1, h2⟩ := h
  have h1 := of_decide_eq_false h1
  by_cases c : x.1 = y.1
  · rcases h2 with h2 | h2
    · exact absurd c (of_decide_eq_false h2)
    · exact .inr ⟨c, of_decide_eq_false h2⟩
  · exact .inl (by omega)
theorem better_yes {x y : Int × Wd} (h : better x (some y) = true) : NW y x := by
  have e : better x (some y) = (decide (y.1 < x.1) || (decide (x.1 = y.1) && decide (x.2 < y.2))) := rfl
  rw [e, Bool.or_eq_true, Bool.and_eq_true] at h
  rcases h with h | ⟨h1, h2⟩
  · exact .inl (of_decide_eq_true h)
  · exact .inr ⟨(of_decide_eq_true h1).symm, wd_asymm (of_decide_eq_true h2)⟩
theorem turnL_grow {sg : Int} {f acc : RF} {s : Stp} {n : Nat} {y : Int × Wd} (h : acc n = some y) : ∃ z, turnL sg f acc s n = some z ∧ NW y z := by
  unfold turnL
  cases fb : f s.b with
  | none => exact ⟨y, h, .refl y⟩
  | some v =>
    dsimp only
    by_cases c : better (v.1 + sg * s.g, v.2 ++ [s.c]) (acc s.e) = true
    · rw [if_pos c]
      unfold RF.put
      by_cases d : n = s.e
      · rw [if_pos d]
        rw [← d, h] at c
        exact ⟨_, rfl, better_yes c⟩
      · rw [if_neg d]
        exact ⟨y, h, .refl y⟩
    · rw [if_neg c]
      exact ⟨y, h, .refl y⟩
theorem turnL_has {sg : Int} {f acc : RF} {s : Stp} {v : Int × Wd} (h : f s.b = some v) : ∃ z, turnL sg f acc s s.e = some z ∧ NW (v.1 + sg * s.g, v.2 ++ [s.c]) z := by
  unfold turnL
  rw [h]
  dsimp only
  by_cases c : better (v.1 + sg * s.g, v.2 ++ [s.c]) (acc s.e) = true
  · rw [if_pos c]
    unfold RF.put
    rw [if_pos rfl]
    exact ⟨_, rfl, .refl _⟩
  · rw [if_neg c]
    cases e : acc s.e with
    | none => rw [e] at c; exact absurd rfl c
    | some y =>
      rw [e] at c
      exact ⟨y, rfl, better_no (by simpa using c)⟩
theorem fold_grow {sg : Int} {f : RF} {n : Nat} : ∀ (ss : List Stp) (acc : RF) (y : Int × Wd), acc n = some y → ∃ z, ss.foldl (turnL sg f) acc n = some z ∧ NW y z
  | [], _, y, h => ⟨y, h, .refl y⟩
  | s :: r, acc, y, h => by
    obtain ⟨z, e, q⟩ := turnL_grow (sg := sg) (f := f) (s := s) h
    obtain ⟨z', e', q'⟩ := fold_grow r _ z e
    exact ⟨z', e', q.trans q'⟩
theorem longer_has {sg : Int} {f : RF} {s : Stp} {v : Int × Wd} (h : f s.b = some v) : ∀ (ss : List Stp), s ∈ ss → ∀ acc : RF, ∃ z, ss.foldl (turnL sg f) acc s.e = some z ∧ NW (v.1 + sg * s.g, v.2 ++ [s.c]) z
  | a :: r, hs, acc => by
    rcases List.mem_cons.mp hs with rfl | hs
    · obtain ⟨z, e, q⟩ := turnL_has (sg := sg) (f := f) (acc := acc) h
      obtain ⟨z', e', q'⟩ := fold_grow (sg := sg) (f := f) r _ z e
      exact ⟨z', e', q.trans q'⟩
    · exact longer_has h r hs _
/-- the rows -/
def stepOf (m : MD) (b c : Nat) : Option Stp := m.ss.find? fun s => s.b == b && s.c == c
def runW (m : MD) : Nat × Int → Wd → Option (Nat × Int)
  | st, [] => some st
  | st, c :: w => match stepOf m st.1 c with
    | none => none
    | some x => runW m (x.e, st.2 + x.g) w
def run (m : MD) (w : Wd) : Option (Nat × Int) := runW m (0, 0) w
theorem runW_snoc (m : MD) (c : Nat) : ∀ (w : Wd) (st : Nat × Int), runW m st (w ++ [c]) = (runW m st w).bind fun q => (stepOf m q.1 c).map fun x => (x.e, q.2 + x.g)
  | [], st => by
    show (match stepOf m st.1 c with | none => none | some x => some (x.e, st.2 + x.g)) = (stepOf m st.1 c).map _
    cases stepOf m st.1 c <;> rfl
  | a :: w, st => by
    show (match stepOf m st.1 a with | none => none | some x => runW m (x.e, st.2 + x.g) (w ++ [c])) = (match stepOf m st.1 a with | none => none | some x => runW m (x.e, st.2 + x.g) w).bind _
    cases stepOf m st.1 a with
    | none => rfl
    | some x => exact runW_snoc m c w (x.e, st.2 + x.g)
theorem stepOf_mem {m : MD} {b c : Nat} {s : Stp} (h : stepOf m b c = some s) : s ∈ m.ss ∧ s.b = b ∧ s.c = c := by
  have h1 := List.mem_of_find?_eq_some h
  have h2 := List.find?_some h
  rw [Bool.and_eq_true] at h2
  exact ⟨h1, by simpa using h2.1, by simpa using h2.2⟩
theorem stepOf_self {m : MD} (o : m.Ok) {s : Stp} (h : s ∈ m.ss) : stepOf m s.b s.c = some s := by
  cases e : stepOf m s.b s.c with
  | none =>
    have := List.find?_eq_none.mp e s h
    simp at this
  | some t =>
    obtain ⟨h1, h2, h3⟩ := stepOf_mem e
    obtain ⟨i, hi, ei⟩ := List.getElem_of_mem h
    obtain ⟨j, hj, ej⟩ := List.getElem_of_mem h1
    have up := List.pairwise_iff_getElem.mp o.up
    have : i = j := by
      rcases Nat.lt_trichotomy i j with c | c | c
      · have := up i j hi hj c
        rw [ei, ej] at this
        rcases this with z | z <;> omega
      · exact c
      · have := up j i hj hi c
        rw [ei, ej] at this
        rcases this with z | z <;> omega
    subst this
    rw [← ei, ← ej]
theorem run_snoc {m : MD} {w : Wd} {c : Nat} {n : Nat} {t : Int} : run m (w ++ [c]) = some (n, t) ↔ ∃ u t' s, run m w = some (u, t') ∧ stepOf m u c = some s ∧ n = s.e ∧ t = t' + s.g := by
  unfold run
  rw [runW_snoc]
  constructor
  · intro h
    cases e : runW m (0, 0) w with
    | none => rw [e] at h; cases h
    | some q =>
      rw [e] at h
      cases e2 : stepOf m q.1 c with
      | none =>
        have h' : (stepOf m q.1 c).map (fun x => (x.e, q.2 + x.g)) = some (n, t) := h
        rw [e2] at h'
        cases h'
      | some s =>
        have h' : (stepOf m q.1 c).map (fun x => (x.e, q.2 + x.g)) = some (n, t) := h
        rw [e2] at h'
        have h2 : (s.e, q.2 + s.g) = (n, t) := Option.some.inj h'
        injection h2 with h3 h4
        exact ⟨q.1, q.2, s, rfl, e2, h3.symm, h4.symm⟩
  · rintro ⟨u, t', s, e, e2, rfl, rfl⟩
    rw [e]
    show (stepOf m u c).map _ = _
    rw [e2]
    rfl
theorem lvl_run {sg : Int} {m : MD} (o : m.Ok) (hsg : sg = 1 ∨ sg = -1) : ∀ i n y, lvl sg m.ss i n = some y → run m y.2 = some (n, sg * y.1)
  | 0, n, y, e => by
    unfold lvl at e
    split at e
    · rename_i q
      cases e
      rw [q, Int.mul_zero]
      rfl
    · cases e
  | i + 1, n, y, e => longer_ind (P := fun n y => run m y.2 = some (n, sg * y.1)) (fun s hs v ev => by
      refine run_snoc.mpr ⟨s.b, _, s, lvl_run o hsg i _ _ ev, stepOf_self o hs, rfl, ?_⟩
      rcases hsg with rfl | rfl
      · omega
      · omega) n y e
theorem lvl_best {sg : Int} {m : MD} (o : m.Ok) (hsg : sg = 1 ∨ sg = -1) : ∀ i (w : Wd) n t, w.length = i → run m w = some (n, t) → ∃ y, lvl sg m.ss i n = some y ∧ NW (sg * t, w) y := by
  intro i
  induction i with
  | zero =>
    intro w n t hl hr
    have : w = [] := List.eq_nil_of_length_eq_zero hl
    subst this
    cases hr
    exact ⟨(0, []), rfl, .inr ⟨by rw [Int.mul_zero], by simp⟩⟩
  | succ i ih =>
    intro w n t hl hr
    rcases List.eq_nil_or_concat w with rfl | ⟨w', c, e⟩
    · cases hl
    · rw [List.concat_eq_append] at e
      subst e
      obtain ⟨u, t', s, h1, h2, rfl, rfl⟩ := run_snoc.mp hr
      obtain ⟨hs, hb, hc⟩ := stepOf_mem h2
      have hl' : w'.length = i := by simpa using hl
      obtain ⟨v, ev, nv⟩ := ih w' u t' hl' h1
      have lv := (lvl_ok o i _ _ ev).2
      rw [← hb] at ev
      obtain ⟨z, ez, nz⟩ := longer_has (sg := sg) ev m.ss hs fun _ => none
      refine ⟨z, ez, NW.trans ?_ nz⟩
      rw [hc]
      have e1 : sg * (t' + s.g) = sg * t' + sg * s.g := Int.mul_add ..
      rcases nv with nv | ⟨n1, n2⟩
      · exact .inl (by show sg * (t' + s.g) < v.1 + sg * s.g; dsimp only at nv; omega)
      · refine .inr ⟨by show sg * (t' + s.g) = v.1 + sg * s.g; dsimp only at n1; omega, fun q => n2 ((wd_snoc (by rw [hl', lv])).mp q)⟩
/-- the best of the lengths below i, and where it is found first -/
theorem bst_spec {sg : Int} {ss : List Stp} {n : Nat} : ∀ i y, bst sg ss i n = some y → (∃ j, j < i ∧ lvl sg ss j n = some y ∧ ∀ k x, k < j → lvl sg ss k n = some x → x.1 < y.1) ∧ ∀ k x, k < i → lvl sg ss k n = some x → x.1 ≤ y.1
  | 0, _, h => nomatch h
  | i + 1, y, h => by
    unfold bst at h
    split at h
    · rename_i c
      have up : ∀ k x, k < i → lvl sg ss k n = some x → x.1 < y.1 := fun k x hk ex => by
        unfold impr at c
        rw [h] at c
        dsimp only at c
        cases eb : bst sg ss i n with
        | none =>
          exfalso
          have none_of : ∀ i, bst sg ss i n = none → ∀ k, k < i → lvl sg ss k n = none := by
            intro i
            induction i with
            | zero => exact fun _ k hk => absurd hk (Nat.not_lt_zero _)
            | succ i ih =>
              intro hn k hk
              unfold bst at hn
              split at hn
              · rename_i q
                unfold impr at q
                rw [hn] at q
                cases q
              · rename_i q
                by_cases e : k = i
                · cases el : lvl sg ss i n with
                  | none => rw [e]; exact el
                  | some z =>
                    exfalso
                    apply q
                    unfold impr
                    rw [el, hn]
                · exact ih hn k (by omega)
          have := none_of i eb k hk
          rw [ex] at this
          cases this
        | some z =>
          rw [eb] at c
          have c' := of_decide_eq_true c
          have := (bst_spec i z eb).2 k x hk ex
          omega
      refine ⟨⟨i, Nat.lt_succ_self _, h, up⟩, fun k x hk ex => ?_⟩
      by_cases e : k = i
      · rw [e, h] at ex
        cases ex
        exact Int.le_refl _
      · exact Int.le_of_lt (up k x (by omega) ex)
    · rename_i c
      obtain ⟨⟨j, hj, ej, up⟩, all⟩ := bst_spec i y h
      refine ⟨⟨j, by omega, ej, up⟩, fun k x hk ex => ?_⟩
      by_cases e : k = i
      · unfold impr at c
        rw [e] at ex
        rw [ex, h] at c
        have c' : ¬ decide (y.1 < x.1) = true := c
        have : ¬ y.1 < x.1 := fun z => c' (decide_eq_true z)
        omega
      · exact all k x (by omega) ex
theorem bst_has {sg : Int} {ss : List Stp} {n : Nat} : ∀ i k x, k < i → lvl sg ss k n = some x → ∃ y, bst sg ss i n = some y
  | i + 1, k, x, hk, ex => by
    unfold bst
    by_cases c : impr (lvl sg ss i) (bst sg ss i) n = true
    · rw [if_pos c]
      unfold impr at c
      cases e : lvl sg ss i n with
      | none => rw [e] at c; cases c
      | some y => exact ⟨y, rfl⟩
    · rw [if_neg c]
      by_cases e : k = i
      · rw [e] at ex
        unfold impr at c
        rw [ex] at c
        cases eb : bst sg ss i n with
        | none => rw [eb] at c; exact absurd rfl c
        | some y => exact ⟨y, rfl⟩
      · exact bst_has i k x (by omega) ex
/-- no row is better, if there is a best one -/
theorem no_better {sg : Int} {m : MD} (o : m.Ok) (hsg : sg = 1 ∨ sg = -1) : ∀ (k : Nat) (w : Wd) n t, w.length = k → run m w = some (n, t) → ¬ Endl sg m n → ∃ y, bst sg m.ss m.n n = some y ∧ sg * t ≤ y.1 := by
  have up : ∀ j x n, j ≤ m.n → lvl sg m.ss j n = some x → ¬ Endl sg m n → ∃ y, bst sg m.ss m.n n = some y ∧ x.1 ≤ y.1 := fun j x n hj ex hn => by
    by_cases c : j < m.n
    · obtain ⟨y, ey⟩ := bst_has m.n j x c ex
      exact ⟨y, ey, (bst_spec _ _ ey).2 j x c ex⟩
    · have e : j = m.n := by omega
      rw [e] at ex
      have ni : ¬ impr (lvl sg m.ss m.n) (bst sg m.ss m.n) n = true := fun q => hn (.base ((mem_impL o n).mpr q))
      unfold impr at ni
      rw [ex] at ni
      cases eb : bst sg m.ss m.n n with
      | none => rw [eb] at ni; exact absurd rfl ni
      | some y =>
        rw [eb] at ni
        refine ⟨y, rfl, ?_⟩
        have : ¬ y.1 < x.1 := fun z => ni (decide_eq_true z)
        omega
  intro k
  induction k with
  | zero =>
    intro w n t hl hr hn
    have e0 : w = [] := List.eq_nil_of_length_eq_zero hl
    subst e0
    cases hr
    obtain ⟨y, ey, hy⟩ := up 0 (0, []) 0 (Nat.zero_le _) rfl hn
    exact ⟨y, ey, by rw [Int.mul_zero]; exact hy⟩
  | succ k ih =>
    intro w n t hl hr hn
    rcases List.eq_nil_or_concat w with rfl | ⟨w', c, e⟩
    · cases hl
    · rw [List.concat_eq_append] at e
      subst e
      obtain ⟨u, t', s, h1, h2, rfl, rfl⟩ := run_snoc.mp hr
      obtain ⟨hs, hb, hc⟩ := stepOf_mem h2
      have hu : ¬ Endl sg m u := fun q => hn (.step hs (by rw [hb]; exact q))
      obtain ⟨y, ey, hy⟩ := ih w' u t' (by simpa using hl) h1 hu
      obtain ⟨⟨j, hj, ej, _⟩, _⟩ := bst_spec _ _ ey
      have r1 := lvl_run o hsg j _ _ ej
      have l1 := (lvl_ok o j _ _ ej).2
      obtain ⟨x, ex, nx⟩ := lvl_best o hsg (j + 1) (y.2 ++ [c]) s.e (sg * y.1 + s.g) (by rw [List.length_append, l1]; rfl) (run_snoc.mpr ⟨u, _, s, r1, h2, rfl, rfl⟩)
      obtain ⟨z, ez, hz⟩ := up (j + 1) x s.e (by omega) ex hn
      refine ⟨z, ez, ?_⟩
      have := nx.le
      dsimp only at this
      rcases hsg with rfl | rfl
      · omega
      · omega
/-- the best one that is told is the least of the shortest ones -/
theorem first_best {sg : Int} {m : MD} (o : m.Ok) (hsg : sg = 1 ∨ sg = -1) {w : Wd} {n : Nat} {t : Int} {y : Int × Wd} (hr : run m w = some (n, t)) (ey : bst sg m.ss m.n n = some y) (ht : sg * t = y.1) : y.2.length < w.length ∨ (y.2.length = w.length ∧ ¬ w < y.2) := by
  obtain ⟨⟨j, hj, ej, first⟩, all⟩ := bst_spec _ _ ey
  have l1 := (lvl_ok o j _ _ ej).2
  by_cases c : w.length < m.n
  · obtain ⟨x, ex, nx⟩ := lvl_best o hsg w.length w n t rfl hr
    have hx := all _ _ c ex
    rcases nx with nx | ⟨n1, n2⟩
    · dsimp only at nx
      omega
    · dsimp only at n1 n2
      rcases Nat.lt_trichotomy w.length j with d | d | d
      · have := first _ _ d ex
        omega
      · rw [d, ej] at ex
        cases ex
        exact .inr ⟨by omega, n2⟩
      · exact .inl (by omega)
  · exact .inl (by omega)
/-! ### two words one after the other -/
theorem runW_append (m : MD) (v : Wd) : ∀ (u : Wd) (st : Nat × Int), runW m st (u ++ v) = (runW m st u).bind fun q => runW m q v
  | [], st => rfl
  | a :: u, st => by
    show (match stepOf m st.1 a with | none => none | some x => runW m (x.e, st.2 + x.g) (u ++ v)) = (match stepOf m st.1 a with | none => none | some x => runW m (x.e, st.2 + x.g) u).bind _
    cases stepOf m st.1 a with
    | none => rfl
    | some x => exact runW_append m v u (x.e, st.2 + x.g)
/-! ### the steps from a stand -/
def nxV (s : Stp) : List V := [.str ⟨#[s.c]⟩, .int (s.e : Nat), .int s.g]
def NxAt (K : PySem.W.Frag) (H : Hp) (vs : List V) (ns : List Stp) : Prop := vs.length = ns.length ∧ ∀ (i : Nat) (s : Stp), ns[i]? = some s → ∃ p, vs[i]? = some (V.ref p) ∧ SqT K H p (nxV s)
theorem NxAt.tups {K : PySem.W.Frag} {H H' : Hp} {vs : List V} {ns : List Stp} (h : NxAt K H vs ns) (t : Tups H H') : NxAt K H' vs ns := ⟨h.1, fun i s e => let ⟨p, q, z⟩ := h.2 i s e; ⟨p, q, t.sq z⟩⟩
theorem NxAt.snoc {K : PySem.W.Frag} {H : Hp} {vs : List V} {ns : List Stp} {p : Addr} {s : Stp} (h : NxAt K H vs ns) (q : SqT K H p (nxV s)) : NxAt K H (vs ++ [V.ref p]) (ns ++ [s]) := by
  refine ⟨by rw [List.length_append, List.length_append, h.1]; rfl, fun i t e => ?_⟩
  by_cases c : i < ns.length
  · rw [List.getElem?_append_left c] at e
    obtain ⟨r, e1, q1⟩ := h.2 i t e
    exact ⟨r, by rw [List.getElem?_append_left (by rw [h.1]; exact c)]; exact e1, q1⟩
  · rw [List.getElem?_append_right (by omega)] at e
    have z : i - ns.length = 0 := by
      have := (List.getElem?_eq_some_iff.mp e).1
      simp at this
      omega
    rw [z] at e
    cases e
    exact ⟨p, by rw [List.getElem?_append_right (by rw [h.1]; omega), h.1, z]; rfl, q⟩
def fromS (m : MD) (n : Nat) : List Stp := m.ss.filter fun s => s.b == n
def sp_next (K : PySem.W.Frag) : Sp := fun vs H Q _ => ∃ (d : Addr) (n : Nat) (m : MD), vs = [.ref d, .int (n : Nat)] ∧ DAt K H d m ∧ m.Ok ∧
  ∀ p us H', Same H H' → H p = none → H' p = some (.lst us) → NxAt K H' us (fromS m n) → Q (.ref p) H'
section
variable {P : Program} {w : World} {K : PySem.W.Frag} {mg : Str → Option Value} {base : Heap}
theorem ok_law_next (T : Txt K mg) : FnOk P w K mg base (L2.CX P w) 1 T.a_law_next T.fd_law_next ["_law_d", "_law_stand"] (sp_next K) := by
  refine T.F_law_next.okX sc_law_next (fun vs H Q E h => ?_) (fun cdv A outer s H vs Q E hr h => ?_)
  · obtain ⟨d, n, m, rfl, _⟩ := h
    rfl
  · obtain ⟨d, n, m, rfl, ⟨t, u, hd, ⟨us, ht, hs⟩, hu⟩, o, k⟩ := h
    refine ⟨_, (PSs.nox (pss_one (ps_ret (pe_lc (own := [("_law_begun", 2), ("_law_letter", 3), ("_law_end", 4), ("_law_gain", 5)]) (g := (gTup K 4 (gCons (gName 2) (gCons (gName 3) (gCons (gName 4) (gCons (gName 5) gNil)))))) rfl sc_law_next.nd (pi_tup (pe_dget (hu_of hr) (pv 0) pe_str (fun _ _ => rfl))) (blkOk_by (own := [("_law_begun", 2), ("_law_letter", 3), ("_law_end", 4), ("_law_gain", 5)]) (N := ["_law_d", "_law_stand", "_law_begun", "_law_letter", "_law_end", "_law_gain"]) (sc := defScope s_law_next) (by decide +kernel)) (fun _ _ _ _ _ => (pg_tup rfl (pgs_cons (pg_name (i := 2) sc_law_next.nd rfl (Or.inl rfl)) (pgs_cons (pg_name (i := 3) sc_law_next.nd rfl (Or.inl rfl)) (pgs_cons (pg_name (i := 4) sc_law_next.nd rfl (Or.inl rfl)) (pgs_cons (pg_name (i := 5) sc_law_next.nd rfl (Or.inl rfl)) pgs_nil)))))) (fun _ _ _ _ _ => (pts_one (pt_cmpR op_eq (pv 2) (pv 1) (nomark _)))) (fun _ _ _ _ _ => (pe_tup (pa_cons (pv 3) (pa_cons (pv 4) (pa_cons (pv 5) pa_nil))))))))), ?_⟩
    walk_at "begin"
    walk_at "go"
    refine ⟨d, .ref t, rfl, DGet.k (k := .inr "steps") hd, t, rfl, ⟨us, ht⟩, fun D hD => ?_⟩
    refine lc_tup (xs := us) (fun i H' => Same H H' ∧ ∃ ws, H' D = some (.lst ws) ∧ NxAt K H' ws ((m.ss.take i).filter fun s => s.b == n) ∧ ws.length ≤ i) ⟨Same.new hD, [], upd_same, ⟨rfl, fun i s e => by simp at e⟩, Nat.le_refl _⟩
      (fun i H' _ ⟨z, _⟩ => (same_tups z).sq ht) ?_ ?_
    · rintro i y H1 hy ⟨z, ws, eD, nx, lw⟩
      have il : i < m.ss.length := by rw [← hs.1]; exact (List.getElem?_eq_some_iff.mp hy).1
      have ei : m.ss[i]? = some (m.ss[i]'il) := List.getElem?_eq_getElem il
      obtain ⟨q, eq, hq⟩ := hs.2 i _ ei
      rw [hy] at eq
      cases eq
      have l32 := o.len
      have tk : (m.ss.take (i + 1)).filter (fun s => s.b == n) = (m.ss.take i).filter (fun s => s.b == n) ++ (if (m.ss[i]'il).b == n then [m.ss[i]'il] else []) := by
        rw [List.take_add_one, ei, List.filter_append]
        congr 1
        show List.filter _ [m.ss[i]'il] = _
        rw [List.filter_cons]
        rfl
      rw [tk]
      generalize m.ss[i]'il = s0 at hq
      refine k_gt ((same_tups z).sq hq) rfl ?_
      unfold stpV
      walk_at "go"
      refine ⟨rfl, ?_⟩
      walk_at "go"
      refine k_ite (fun c => ?_) (fun c => ?_)
      · have c' : s0.b = n := by
          injection c with c
          omega
        walk_at "go"
        refine ⟨(by decide : 3 ≤ sizeLine), fun pn hpn => ?_⟩
        have eD2 : (upd H1 pn (.tup [.str ⟨#[s0.c]⟩, .int (s0.e : Nat), .int s0.g])) D = some (.lst ws) := by rw [upd_ne (ne_of_none eD hpn)]; exact eD
        refine ⟨ws, eD2, Nat.lt_trans (show ws.length < 100 by omega) (by decide), Same.mut (z.trans (Same.new hpn)) hD, _, upd_same, ?_, by rw [List.length_append, List.length_singleton]; omega⟩
        rw [if_pos (by rw [c']; exact beq_self_eq_true n)]
        exact ((nx.tups (Tups.new hpn)).snoc (SqT.of upd_same)).tups (Tups.lst eD2)
      · have c' : ¬ s0.b = n := fun z => c (by rw [z])
        refine ⟨z, ws, eD, ?_, by omega⟩
        rw [if_neg (by simpa using c'), List.append_nil]
        exact nx
    · rintro H1 ⟨z, ws, eD, nx, lw⟩
      rw [hs.1, List.take_length] at nx
      walk_at "go"
      exact k D ws H1 z hD eD nx
end
/-! ### words; the steps told as data -/
theorem bl_ne (b : Bool) : decide (V.bl (!b) = V.bl b) = false := by cases b <;> rfl
theorem sOf_fits {w : Wd} (h : w.length ≤ 100) : (sOf w).length ≤ sizeLine := by rw [sOf_len]; exact Nat.le_trans h (by decide)
theorem dp2 {K : PySem.W.Frag} {H : Hp} {p : Addr} {i j : Int} (h : SqT K H p [.int i, .int j]) : Dp K H (.ref p) (.tuple [.int i, .int j]) := .tup h (.cons (.int _) (.cons (.int _) .nil))
theorem eqv2 (i j : Int) : PyData.eqv (.tuple [.int i, .int j]) (.tuple [.int i, .int j]) = true := by
  show ((i == i) && ((j == j) && true)) = true
  simp
def nxD (s : Stp) : PyData := .tuple [.str ⟨#[s.c]⟩, .int (s.e : Nat), .int s.g]
theorem dp_nx {K : PySem.W.Frag} {H : Hp} : ∀ {us : List V} {ns : List Stp}, NxAt K H us ns → DpAll K H us (ns.map nxD)
  | [], [], _ => .nil
  | [], _ :: _, h => by have := h.1; simp at this
  | _ :: _, [], h => by have := h.1; simp at this
  | v :: us, s :: ns, h => by
    obtain ⟨p, e, q⟩ := h.2 0 s rfl
    have ev : v = .ref p := Option.some.inj e
    subst ev
    refine .cons (.tup q (.cons (.str _) (.cons (.int _) (.cons (.int _) .nil)))) (dp_nx (ns := ns) ⟨by have := h.1; simpa using this, fun i t et => h.2 (i + 1) t et⟩)
theorem nx_shaped : ∀ {ns : List Stp}, (∀ s ∈ ns, s.c ≤ 100) → PyData.canLayAll0 (ns.map nxD) = true ∧ PyData.depthAll (ns.map nxD) ≤ 3
  | [], _ => ⟨rfl, Nat.zero_le _⟩
  | s :: ns, h => by
    obtain ⟨h1, h2⟩ := nx_shaped (ns := ns) fun t ht => h t (List.mem_cons_of_mem _ ht)
    have hc := h s List.mem_cons_self
    constructor
    · show (PyData.canLay0 (nxD s) && PyData.canLayAll0 (ns.map nxD)) = true
      rw [h1, Bool.and_true]
      show ((#[s.c].all (· < 0x110000)) && (true && (true && true))) = true
      simp
      omega
    · show max (PyData.depth (nxD s)) (PyData.depthAll (ns.map nxD)) ≤ 3
      have : PyData.depth (nxD s) ≤ 3 := by
        show max _ (max _ (max _ _)) + 1 ≤ 3
        simp [PyData.depth, PyData.depthAll]
      omega
theorem nx_sh {ns : List Stp} (h : ∀ s ∈ ns, s.c ≤ 100) : SeqAt.shaped (.list (ns.map nxD)) = true := by
  obtain ⟨h1, h2⟩ := nx_shaped h
  show (PyData.canLayAll0 (ns.map nxD) && decide (PyData.depthAll (ns.map nxD) + 1 ≤ 64)) = true
  rw [h1, Bool.true_and]
  exact decide_eq_true (by omega)
theorem nx_eqv (ns : List Stp) : PyData.eqv (.list (ns.map nxD)) (.list []) = ns.isEmpty := by
  cases ns with
  | nil => rfl
  | cons s ns => rfl
/-! ### the reached stands, round by round -/
theorem addN_len {F : List Nat} {n : Nat} : F.length ≤ (addN F n).length := by
  unfold addN
  split
  · exact Nat.le_refl _
  · rw [List.length_append]
    omega
def ClosedS (m : MD) (F : List Nat) : Prop := ∀ s ∈ m.ss, s.b ∈ F → s.e ∈ F
theorem reach_closed {m : MD} {F : List Nat} (h0 : 0 ∈ F) (c : ClosedS m F) : ∀ n, Reach m.ss [0] n → n ∈ F := fun n q => by
  induction q with
  | base q => rw [List.mem_singleton.mp q]; exact h0
  | step hs _ ih => exact c _ hs ih
theorem mem_fromS' {m : MD} {n : Nat} {s : Stp} : s ∈ fromS m n ↔ s ∈ m.ss ∧ s.b = n := by
  unfold fromS
  rw [List.mem_filter]
  simp
/-- what stands found in a round: of F those before, at least those of G and of what they lead to, but no others than the reached ones -/
structure Fd (m : MD) (F : List Nat) : Prop where
  zero : 0 ∈ F
  nd : F.Nodup
  lt : ∀ k ∈ F, k < m.n
  re : ∀ k ∈ F, Reach m.ss [0] k
theorem Fd.add {m : MD} {F : List Nat} (o : m.Ok) (h : Fd m F) {s : Stp} (hs : s ∈ m.ss) (hb : s.b ∈ F) : Fd m (addN F s.e) :=
  ⟨addN_mem.mpr (.inl h.zero), addN_nodup h.nd, fun k hk => by
    rcases addN_mem.mp hk with hk | rfl
    · exact h.lt k hk
    · exact (o.ok s hs).e, fun k hk => by
    rcases addN_mem.mp hk with hk | rfl
    · exact h.re k hk
    · exact .step hs (h.re _ hb)⟩
theorem asc_eq : ∀ {l l' : List Nat}, l.Pairwise (· < ·) → l'.Pairwise (· < ·) → (∀ n, n ∈ l ↔ n ∈ l') → l = l'
  | [], [], _, _, _ => rfl
  | [], a :: _, _, _, h => absurd ((h a).mpr List.mem_cons_self) (by simp)
  | a :: _, [], _, _, h => absurd ((h a).mp List.mem_cons_self) (by simp)
  | a :: l, b :: l', h1, h2, h => by
    have p1 := List.pairwise_cons.mp h1
    have p2 := List.pairwise_cons.mp h2
    have e : a = b := by
      rcases List.mem_cons.mp ((h a).mp List.mem_cons_self) with e | e
      · exact e
      · rcases List.mem_cons.mp ((h b).mpr List.mem_cons_self) with d | d
        · exact d.symm
        · have := p1.1 b d
          have := p2.1 a e
          omega
    subst e
    rw [asc_eq p1.2 p2.2 fun n => ⟨fun q => by
      rcases List.mem_cons.mp ((h n).mp (List.mem_cons_of_mem _ q)) with e | e
      · have := p1.1 n q; omega
      · exact e, fun q => by
      rcases List.mem_cons.mp ((h n).mpr (List.mem_cons_of_mem _ q)) with e | e
      · have := p2.1 n q; omega
      · exact e⟩]
def Grown (l l' : List Nat) : Prop := (∀ k ∈ l, k ∈ l') ∧ (l' = l ∨ l.length < l'.length)
theorem Grown.add {l l' : List Nat} {n : Nat} (g : Grown l l') : Grown l (addN l' n) := by
  refine ⟨fun k hk => addN_mem.mpr (.inl (g.1 k hk)), ?_⟩
  unfold addN
  split
  · exact g.2
  · right
    rw [List.length_append, List.length_singleton]
    rcases g.2 with e | e
    · rw [e]; omega
    · omega
def sp_lreached (K : PySem.W.Frag) : Sp := fun vs H Q _ => ∃ (d : Addr) (m : MD), vs = [.ref d] ∧ DAt K H d m ∧ m.Ok ∧
  ∀ q (l' : List Nat) H', Same H H' → H q = none → H' q = some (.lst (nats l')) → (∀ n, n ∈ l' ↔ Reach m.ss [0] n) → l'.Pairwise (· < ·) → Q (.ref q) H'
def sp_reached (K : PySem.W.Frag) (C : Addr) : Sp := fun vs H Q _ => ∃ (x : Addr) (m : MD), vs = [.ref x] ∧ MAt K C H x m ∧ m.Ok ∧
  ∀ q (l' : List Nat) H', Same H H' → H q = none → H' q = some (.lst (nats l')) → (∀ n, n ∈ l' ↔ Reach m.ss [0] n) → l'.Pairwise (· < ·) → Q (.ref q) H'
section
variable {P : Program} {w : World} {K : PySem.W.Frag} {mg : Str → Option Value} {base : Heap}
theorem ok_law_reached (T : Txt K mg) : FnOk P w K mg base (L2.CX P w) 2 T.a_law_reached T.fd_law_reached ["_law_d"] (sp_lreached K) := by
  refine T.F_law_reached.okX sc_law_reached (fun vs H Q E h => ?_) (fun cdv A outer s H vs Q E hr h => ?_)
  · obtain ⟨d, m, rfl, _⟩ := h
    rfl
  · obtain ⟨d, m, rfl, hd, o, k⟩ := h
    refine ⟨_, (PSs.nox (pss_cons (ps_set (i := 1) sc_law_reached.nd rfl (Or.inl rfl) (pe_lst (pa_cons pe_int pa_nil)))
  (pss_cons (ps_for PassesOwn.never rfl (pi_range1 (by rfl) T.z_range (pa_cons (pe_dget (hu_of hr) (pv 0) pe_str (fun _ _ => rfl)) pa_nil)) (pg_name (i := 2) sc_law_reached.nd rfl (Or.inl rfl))
  (pss_one (ps_for PassesOwn.never rfl (pi_list (pe_callTy call_list_of (by rfl) T.z_list PySem.Pv.boot_list (pa_cons (pv 1) pa_nil))) (pg_name (i := 3) sc_law_reached.nd rfl (Or.inl rfl))
  (pss_one (ps_for PassesOwn.never rfl (pi_list (pe_call (ok_law_next T) (hr.mono (by decide)) (by rfl) T.m_law_next T.k_law_next T.b_law_next .nil passL (pa_cons (pv 0) (pa_cons (pv 3) pa_nil)))) (pg_tup rfl (pgs_cons (pg_name (i := 4) sc_law_reached.nd rfl (Or.inl rfl)) (pgs_cons (pg_name (i := 5) sc_law_reached.nd rfl (Or.inl rfl)) (pgs_cons (pg_name (i := 6) sc_law_reached.nd rfl (Or.inl rfl)) pgs_nil))))
  (pss_one (ps_if (pt_cmpR op_notIn_seq (pv 5) (pv 1) (by rfl))
  (pss_one (ps_expr (pe_bm PySem.F.plainAttrs_list PySem.F.slot_list_append PySem.F.type_list_append mt_append (pv 1) (pa_cons (pv 5) pa_nil))))
  pss_nil)))))))
  (pss_one (ps_ret (pe_callB cr_sortedI (by rfl) T.z_sorted (by decide +kernel) (pa_cons (pv 1) pa_nil))))))), ?_⟩
    walk_at "begin"
    walk_at "go"
    refine ⟨(by decide : 1 ≤ sizeLine), fun F hF => ?_⟩
    walk_at "go"
    have zF := Same.new (o := .lst [.int 0]) hF
    have eF := upd_same (H := H) (a := F) (o := .lst [.int 0])
    have n8 := o.n8
    generalize upd H F (.lst [.int 0]) = H1 at zF eF ⊢
    obtain ⟨t, u, ed, _⟩ := id hd
    refine ⟨d, .int (m.n : Nat), rfl, DGet.k (k := .inr "stands") (zF _ _ ed), ?_⟩
    walk_at "go"
    refine k_rg (by omega) (by omega) ?_
    refine for_range (lo := 0) (n := (((m.n : Nat) : Int)).toNat) (fun i σ H' => ∃ l a2 a3 a4 a5 a6, Same H H' ∧ H' F = some (.lst (nats l)) ∧ Fd m l ∧ (ClosedS m l ∨ i + 1 ≤ l.length) ∧ σ = [some (.ref d), some (.ref F), a2, a3, a4, a5, a6])
      ⟨[0], _, _, _, _, _, zF, eF, ⟨List.mem_singleton.mpr rfl, by simp, fun k hk => by rw [List.mem_singleton.mp hk]; exact o.n1, fun k hk => .base hk⟩, .inr (Nat.le_refl _), rfl⟩ ?_ ?_
    · rintro i σ H2 hi ⟨l, a2, a3, a4, a5, a6, z2, eF2, fd, hcl, rfl⟩
      walk_at "go"
      refine ⟨F, nats l, rfl, .inl (SqL.of eF2), fun G hG => ?_⟩
      have zG := Same.new (o := .lst (nats l)) hG
      have eG := upd_same (H := H2) (a := G) (o := .lst (nats l))
      have nGF : G ≠ F := by intro e; rw [e, eF2] at hG; cases hG
      have z3 := z2.trans zG
      have eF3 := zG _ _ eF2
      generalize upd H2 G (.lst (nats l)) = H3 at z3 eF3 eG ⊢
      refine ⟨G, rfl, ⟨_, SqL.of eG⟩, for_list (xs := nats l) (fun j σ H' => ∃ l' a3 a4 a5 a6, Same H H' ∧ H' G = some (.lst (nats l)) ∧ H' F = some (.lst (nats l')) ∧ Fd m l' ∧ Grown l l' ∧ (∀ b n, b < j → l[b]? = some n → ∀ s ∈ m.ss, s.b = n → s.e ∈ l') ∧
          σ = [some (.ref d), some (.ref F), some (.int (0 + (i : Nat))), a3, a4, a5, a6])
        ⟨l, _, _, _, _, z3, eG, eF3, fd, ⟨fun _ h => h, .inl rfl⟩, fun b n h => absurd h (Nat.not_lt_zero _), rfl⟩ (fun _ _ _ _ ⟨_, _, _, _, _, _, e, _⟩ => SqL.of e) ?_ ?_⟩
      · rintro j y σ H4 hy ⟨l', b3, b4, b5, b6, z4, eG4, eF4, fd4, g4, al, rfl⟩
        obtain ⟨n, en, rfl⟩ := nats_at hy
        have hn : n ∈ l := List.mem_of_getElem? en
        walk_at "go"
        refine ⟨d, n, m, rfl, hd.same z4, o, fun p us H5 z5 hp ep nx => ?_⟩
        have npF : p ≠ F := by intro e; rw [e, eF4] at hp; cases hp
        refine ⟨p, rfl, ⟨_, SqL.of ep⟩, for_list (xs := us) (fun c σ H' => ∃ l' a4 a5 a6, Same H H' ∧ H' G = some (.lst (nats l)) ∧ H' F = some (.lst (nats l')) ∧ H' p = some (.lst us) ∧ NxAt K H' us (fromS m n) ∧ Fd m l' ∧ Grown l l' ∧ (∀ b n, b < j → l[b]? = some n → ∀ s ∈ m.ss, s.b = n → s.e ∈ l') ∧
            (∀ s ∈ (fromS m n).take c, s.e ∈ l') ∧ σ = [some (.ref d), some (.ref F), some (.int (0 + (i : Nat))), some (.int (n : Nat)), a4, a5, a6])
          ⟨l', _, _, _, z4.trans z5, z5 _ _ eG4, z5 _ _ eF4, ep, nx, fd4, g4, al, fun s hs => by simp at hs, rfl⟩ (fun _ _ _ _ ⟨_, _, _, _, _, _, _, e, _⟩ => SqL.of e) ?_ ?_⟩
        · rintro c y σ H6 hc ⟨l2, c4, c5, c6, z6, eG6, eF6, ep6, nx6, fd6, g6, al6, tk6, rfl⟩
          have cl : c < (fromS m n).length := by rw [← nx6.1]; exact (List.getElem?_eq_some_iff.mp hc).1
          have es : (fromS m n)[c]? = some ((fromS m n)[c]'cl) := List.getElem?_eq_getElem cl
          have hs : (fromS m n)[c]'cl ∈ fromS m n := List.getElem_mem cl
          have tk : (fromS m n).take (c + 1) = (fromS m n).take c ++ [(fromS m n)[c]'cl] := by rw [List.take_add_one, es]; rfl
          rw [tk]
          generalize (fromS m n)[c]'cl = s0 at es hs
          obtain ⟨hs1, hs2⟩ := mem_fromS'.mp hs
          obtain ⟨q, eq, hq⟩ := nx6.2 _ _ es
          rw [hc] at eq
          cases eq
          refine k_gt hq rfl ?_
          unfold nxV
          walk_at "go"
          refine ⟨F, nats l2, rfl, .inl (SqL.of eF6), rfl, flat_nats _, ?_⟩
          rw [inV_nats]
          have nF : H F = none ∨ True := .inr trivial
          have l2l : l2.length ≤ 8 := Nat.le_trans (nodup_small fd6.nd fd6.lt) n8
          have fd7 := fd6.add o hs1 (by rw [hs2]; exact g6.1 n hn)
          have e7 : ∀ k, k ∈ l2 → k ∈ addN l2 s0.e := fun k hk => addN_mem.mpr (.inl hk)
          walk_at "go"
          refine k_iteN (fun c => ?_) (fun c => ?_)
          · walk_at "go"
            have ea : addN l2 s0.e = l2 := by unfold addN; rw [if_pos c]
            refine ⟨l2, _, _, _, z6, eG6, eF6, ep6, nx6, fd6, g6, al6, fun s h => ?_, rfl⟩
            rcases List.mem_append.mp h with h | h
            · exact tk6 s h
            · rw [List.mem_singleton.mp h]; exact c
          · walk_at "go"
            have ea : addN l2 s0.e = l2 ++ [s0.e] := by unfold addN; rw [if_neg c]
            refine ⟨.inl ⟨rfl, _, SqL.of eF6⟩, ?_⟩
            walk_at "go"
            refine k_append eF6 (by unfold nats; rw [List.length_map]; exact Nat.lt_of_le_of_lt l2l (by decide)) ?_
            have ft := Tups.lst (o := .lst (nats l2 ++ [.int (s0.e : Nat)])) eF6
            refine ⟨addN l2 s0.e, _, _, _, Same.mut z6 hF, by rw [upd_ne nGF]; exact eG6, by rw [upd_same, ea, nats_snoc], by rw [upd_ne npF]; exact ep6, nx6.tups ft, fd7, g6.add, fun b k h1 h2 s h3 h4 => e7 _ (al6 b k h1 h2 s h3 h4), fun s h => ?_, rfl⟩
            rcases List.mem_append.mp h with h | h
            · exact e7 _ (tk6 s h)
            · rw [List.mem_singleton.mp h]; exact addN_mem.mpr (.inr rfl)
        · rintro σ H6 ⟨l2, c4, c5, c6, z6, eG6, eF6, ep6, nx6, fd6, g6, al6, tk6, rfl⟩
          rw [nx6.1, List.take_length] at tk6
          refine ⟨l2, _, _, _, _, z6, eG6, eF6, fd6, g6, fun b k h1 h2 s h3 h4 => ?_, rfl⟩
          by_cases e : b = j
          · rw [e, en] at h2
            cases h2
            exact tk6 s (mem_fromS'.mpr ⟨h3, h4⟩)
          · exact al6 b k (by omega) h2 s h3 h4
      · rintro σ H4 ⟨l', b3, b4, b5, b6, z4, eG4, eF4, fd4, g4, al, rfl⟩
        refine ⟨l', _, _, _, _, _, z4, eF4, fd4, ?_, rfl⟩
        have full : ∀ n ∈ l, ∀ s ∈ m.ss, s.b = n → s.e ∈ l' := fun n hn s hs e => by
          obtain ⟨b, hb, eb⟩ := List.getElem_of_mem hn
          exact al b n (by unfold nats; rw [List.length_map]; exact hb) (by rw [List.getElem?_eq_getElem hb, eb]) s hs e
        rcases g4.2 with e | e
        · left
          rw [e] at full ⊢
          exact fun s hs h => full _ h s hs rfl
        · rcases hcl with c | c
          · left
            exact fun s hs h => g4.1 _ (reach_closed fd.zero c _ (.step hs (fd4.re _ h)))
          · right
            omega
    · rintro σ H2 ⟨l, a2, a3, a4, a5, a6, z2, eF2, fd, hcl, rfl⟩
      have cl : ClosedS m l := by
        rcases hcl with c | c
        · exact c
        · have h1 := nodup_small fd.nd fd.lt
          have : m.n + 1 ≤ l.length := c
          omega
      walk_at "go"
      refine ⟨F, l.map Int.ofNat, rfl, SqL.of (by rw [eF2]; unfold nats; rw [List.map_map]; rfl), fun ns' p pm pw hp => ?_⟩
      have nn : ∀ x ∈ ns', 0 ≤ x := fun x hx => by
        obtain ⟨y, _, rfl⟩ := List.mem_map.mp (pm.mem_iff.mp hx)
        exact Int.natCast_nonneg _
      have em : (ns'.map Int.toNat).map (fun e => ((e : Nat) : Int)) = ns' := by
        rw [List.map_map]
        exact (List.map_congr_left fun x hx => Int.toNat_of_nonneg (nn x hx)).trans (List.map_id _)
      have ev : ns'.map V.int = nats (ns'.map Int.toNat) := by
        unfold nats
        have : (ns'.map Int.toNat).map (fun e => V.int ((e : Nat) : Int)) = ((ns'.map Int.toNat).map (fun e => ((e : Nat) : Int))).map V.int := by rw [List.map_map (g := V.int)]; rfl
        rw [this, em]
      have pm2 : (ns'.map Int.toNat).Perm l := by
        have := pm.map Int.toNat
        rw [List.map_map] at this
        exact this.trans (by rw [show (Int.toNat ∘ Int.ofNat) = id from funext fun _ => rfl, List.map_id])
      have le2 : (ns'.map Int.toNat).Pairwise (· ≤ ·) := List.pairwise_map.mpr (pw.imp fun {a b} h => by omega)
      have lt2 : (ns'.map Int.toNat).Pairwise (· < ·) := by
        have nd2 : (ns'.map Int.toNat).Nodup := pm2.symm.nodup fd.nd
        exact (le2.and nd2).imp fun {a b} h => Nat.lt_of_le_of_ne h.1 h.2
      rw [ev]
      refine k p _ _ (z2.trans (Same.new hp)) ?_ upd_same (fun n => (pm2.mem_iff).trans ⟨fd.re n, reach_closed fd.zero cl n⟩) lt2
      cases e : H p with
      | none => rfl
      | some ob => rw [z2 _ _ e] at hp; cases hp
end
/-! ### rows cut short -/
theorem runW_shift (m : MD) (d : Int) : ∀ (w : Wd) (v : Nat) (a : Int) (k : Nat) (t : Int), runW m (v, a) w = some (k, t) → runW m (v, a + d) w = some (k, t + d)
  | [], v, a, k, t, h => by
    cases h
    rfl
  | c :: w, v, a, k, t, h => by
    unfold runW at h ⊢
    dsimp only at h ⊢
    cases e : stepOf m v c with
    | none => rw [e] at h; cases h
    | some x =>
      rw [e] at h
      have q := runW_shift m d w x.e (a + x.g) k t h
      dsimp only
      rw [show a + d + x.g = a + x.g + d by omega]
      exact q
theorem runW_lt {m : MD} (o : m.Ok) : ∀ (w : Wd) (v : Nat) (a : Int) (k : Nat) (t : Int), v < m.n → runW m (v, a) w = some (k, t) → k < m.n
  | [], v, a, k, t, hv, h => by
    cases h
    exact hv
  | c :: w, v, a, k, t, hv, h => by
    unfold runW at h
    dsimp only at h
    cases e : stepOf m v c with
    | none => rw [e] at h; cases h
    | some x =>
      rw [e] at h
      exact runW_lt o w x.e (a + x.g) k t (o.ok x (stepOf_mem e).1).e h
theorem run_cut {m : MD} {w : Wd} {k : Nat} {t : Int} (h : run m w = some (k, t)) (i : Nat) : ∃ v tv, run m (w.take i) = some (v, tv) ∧ runW m (v, tv) (w.drop i) = some (k, t) := by
  have e : run m (w.take i ++ w.drop i) = some (k, t) := by rw [List.take_append_drop]; exact h
  unfold run at e ⊢
  rw [runW_append] at e
  cases q : runW m (0, 0) (w.take i) with
  | none => rw [q] at e; cases e
  | some p =>
    rw [q] at e
    exact ⟨p.1, p.2, rfl, e⟩
theorem run_reach {m : MD} : ∀ (L : Nat) (w : Wd) (k : Nat) (t : Int), w.length = L → run m w = some (k, t) → Reach m.ss [0] k
  | 0, w, k, t, hl, h => by
    have : w = [] := List.eq_nil_of_length_eq_zero hl
    subst this
    cases h
    exact .base (List.mem_singleton.mpr rfl)
  | L + 1, w, k, t, hl, h => by
    rcases List.eq_nil_or_concat w with rfl | ⟨w', c, e⟩
    · cases hl
    · rw [List.concat_eq_append] at e
      subst e
      obtain ⟨u, t', s, h1, h2, rfl, rfl⟩ := run_snoc.mp h
      obtain ⟨hs, hb, _⟩ := stepOf_mem h2
      have ih := run_reach L w' u t' (by simpa using hl) h1
      rw [← hb] at ih
      exact .step hs ih
/-- F rises at least by what a step adds, into the stands of N, that come from N alone -/
def Pot (sg : Int) (m : MD) (N : Nat → Prop) (F : Nat → Int) : Prop := ∀ s ∈ m.ss, Reach m.ss [0] s.b → N s.e → N s.b ∧ F s.b + sg * s.g ≤ F s.e
theorem pot_run {sg : Int} {m : MD} {N : Nat → Prop} {F : Nat → Int} (p : Pot sg m N F) : ∀ (w : Wd) (v : Nat) (a : Int) (k : Nat) (t : Int), Reach m.ss [0] v → runW m (v, a) w = some (k, t) → N k → N v ∧ F v + sg * (t - a) ≤ F k
  | [], v, a, k, t, hv, h, hk => by
    cases h
    refine ⟨hk, ?_⟩
    rw [Int.sub_self, Int.mul_zero]
    omega
  | c :: w, v, a, k, t, hv, h, hk => by
    unfold runW at h
    dsimp only at h
    cases e : stepOf m v c with
    | none => rw [e] at h; cases h
    | some x =>
      rw [e] at h
      obtain ⟨hs, hb, _⟩ := stepOf_mem e
      rw [← hb] at hv
      obtain ⟨h1, h2⟩ := pot_run p w x.e (a + x.g) k t (.step hs hv) h hk
      obtain ⟨h3, h4⟩ := p x hs hv h1
      rw [hb] at h3 h4
      refine ⟨h3, ?_⟩
      have e1 : sg * (t - a) = sg * (t - (a + x.g)) + sg * x.g := by rw [← Int.mul_add]; congr 1; omega
      omega
theorem not_nodup {l : List Nat} {n : Nat} (b : ∀ k ∈ l, k < n) (h : n < l.length) : ∃ i j, ∃ (hi : i < l.length) (hj : j < l.length), i < j ∧ l[i] = l[j] := by
  apply Classical.byContradiction
  intro c
  have nd : l.Nodup := List.pairwise_iff_getElem.mpr fun i j hi hj hij e => c ⟨i, j, hi, hj, hij, e⟩
  have := nodup_small nd b
  omega
theorem cut_row {sg : Int} {m : MD} (o : m.Ok) {N : Nat → Prop} {F : Nat → Int} (p : Pot sg m N F) {w : Wd} {k : Nat} {t : Int} (h : run m w = some (k, t)) (hk : N k) (hl : m.n ≤ w.length) :
    ∃ w' t', w'.length < w.length ∧ run m w' = some (k, t') ∧ sg * t ≤ sg * t' := by
  have st : ∀ i, ∃ v, ∃ tv, run m (w.take i) = some (v, tv) ∧ runW m (v, tv) (w.drop i) = some (k, t) := run_cut h
  let f : Nat → Nat := fun i => (st i).choose
  have hf : ∀ i, ∃ tv, run m (w.take i) = some (f i, tv) ∧ runW m (f i, tv) (w.drop i) = some (k, t) := fun i => (st i).choose_spec
  have n1 := o.n1
  obtain ⟨i, j, hi, hj, hij, e⟩ := not_nodup (l := (List.range (w.length + 1)).map f) (n := m.n) (fun v hv => by
    obtain ⟨i, _, rfl⟩ := List.mem_map.mp hv
    obtain ⟨tv, q, _⟩ := hf i
    exact runW_lt o _ 0 0 _ _ (by omega) q) (by rw [List.length_map, List.length_range]; omega)
  rw [List.length_map, List.length_range] at hi hj
  rw [List.getElem_map, List.getElem_map, List.getElem_range, List.getElem_range] at e
  obtain ⟨ti, a1, a2⟩ := hf i
  obtain ⟨tj, b1, b2⟩ := hf j
  rw [← e] at b1 b2
  have rv := run_reach _ _ _ _ rfl a1
  have hNv := (pot_run p _ _ _ _ _ rv a2 hk).1
  have mid : runW m (f i, ti) ((w.take j).drop i) = some (f i, tj) := by
    have s : run m (w.take i ++ (w.take j).drop i) = some (f i, tj) := by
      have : w.take i = (w.take j).take i := by rw [List.take_take, Nat.min_eq_left (by omega)]
      rw [this, List.take_append_drop]
      exact b1
    unfold run at s a1
    rw [runW_append, a1] at s
    exact s
  have gain := (pot_run p _ _ _ _ _ rv mid hNv).2
  refine ⟨w.take i ++ w.drop j, t + (ti - tj), ?_, ?_, ?_⟩
  · rw [List.length_append, List.length_take, List.length_drop]
    omega
  · unfold run at a1 ⊢
    rw [runW_append, a1]
    have q := runW_shift m (ti - tj) _ _ _ _ _ b2
    rw [show tj + (ti - tj) = ti by omega] at q
    exact q
  · have e1 : sg * (t + (ti - tj)) = sg * t - sg * (tj - ti) := by rw [← Int.mul_sub]; congr 1; omega
    omega
theorem pot_short {sg : Int} {m : MD} (o : m.Ok) {N : Nat → Prop} {F : Nat → Int} (p : Pot sg m N F) {k : Nat} (hk : N k) : ∀ (L : Nat) (w : Wd) (t : Int), w.length ≤ L → run m w = some (k, t) → ∃ w' t', w'.length < m.n ∧ run m w' = some (k, t') ∧ sg * t ≤ sg * t'
  | 0, w, t, hl, h => ⟨w, t, by have := o.n1; omega, h, Int.le_refl _⟩
  | L + 1, w, t, hl, h => by
    by_cases c : w.length < m.n
    · exact ⟨w, t, c, h, Int.le_refl _⟩
    · obtain ⟨w1, t1, h1, h2, h3⟩ := cut_row o p h hk (by omega)
      obtain ⟨w2, t2, q1, q2, q3⟩ := pot_short o p hk L w1 t1 (by omega) h2
      exact ⟨w2, t2, q1, q2, Int.le_trans h3 q3⟩
theorem best_short {sg : Int} {m : MD} (o : m.Ok) (hsg : sg = 1 ∨ sg = -1) {k : Nat} {w : Wd} {t : Int} (hl : w.length < m.n) (h : run m w = some (k, t)) : ∃ y, bst sg m.ss m.n k = some y ∧ sg * t ≤ y.1 := by
  obtain ⟨x, ex, nx⟩ := lvl_best o hsg w.length w k t rfl h
  obtain ⟨y, ey⟩ := bst_has m.n _ _ hl ex
  have h1 := (bst_spec _ _ ey).2 _ _ hl ex
  have h2 := nx.le
  dsimp only at h2
  exact ⟨y, ey, by omega⟩
theorem endl_reach {sg : Int} {m : MD} (o : m.Ok) (hsg : sg = 1 ∨ sg = -1) : ∀ k, Endl sg m k → Reach m.ss [0] k := fun k h => by
  induction h with
  | base h =>
    have q := (mem_impL o _).mp h
    unfold impr at q
    cases ex : lvl sg m.ss m.n _ with
    | none => rw [ex] at q; cases q
    | some x => exact run_reach _ _ _ _ rfl (lvl_run o hsg _ _ _ ex)
  | step hs _ ih => exact .step hs ih
/-- where there is such an F nothing is endless -/
theorem pot_not_endl {sg : Int} {m : MD} (o : m.Ok) (hsg : sg = 1 ∨ sg = -1) {N : Nat → Prop} {F : Nat → Int} (p : Pot sg m N F) : ∀ k, Endl sg m k → ¬ N k := fun k h => by
  induction h with
  | base h =>
    rename_i k
    intro hk
    have q := (mem_impL o k).mp h
    unfold impr at q
    cases ex : lvl sg m.ss m.n k with
    | none => rw [ex] at q; cases q
    | some x =>
      rw [ex] at q
      have hr := lvl_run o hsg _ _ _ ex
      obtain ⟨w', t', h1, h2, h3⟩ := pot_short o p hk x.2.length x.2 _ (Nat.le_refl _) hr
      obtain ⟨y, ey, hy⟩ := best_short o hsg h1 h2
      rw [ey] at q
      have q : y.1 < x.1 := of_decide_eq_true q
      rcases hsg with rfl | rfl <;> omega
  | step hs hb ih => exact fun he => ih (p _ hs (endl_reach o hsg _ hb) he).1
/-! ### the least and greatest tallies of several stands -/
theorem reach_run {m : MD} (o : m.Ok) {k : Nat} (h : Reach m.ss [0] k) : ∃ w t, run m w = some (k, t) := by
  induction h with
  | base h =>
    rw [List.mem_singleton.mp h]
    exact ⟨[], 0, rfl⟩
  | step hs _ ih =>
    obtain ⟨w, t, q⟩ := ih
    exact ⟨_, _, run_snoc.mpr ⟨_, _, _, q, stepOf_self o hs, rfl, rfl⟩⟩
theorem reach_bst {sg : Int} {m : MD} (o : m.Ok) (hsg : sg = 1 ∨ sg = -1) {k : Nat} (h : Reach m.ss [0] k) (ne : ¬ Endl sg m k) : ∃ y, bst sg m.ss m.n k = some y := by
  obtain ⟨w, t, q⟩ := reach_run o h
  obtain ⟨y, e, _⟩ := no_better o hsg w.length w k t rfl q ne
  exact ⟨y, e⟩
/-- what is told of the stands l: none of them may be endless -/
def EdgeOf (sg : Int) (m : MD) (l : List Nat) (r : V) : Prop := (r = .non ∧ ∃ k ∈ l, Endl sg m k) ∨
  ∃ v : Int, r = .int (sg * v) ∧ (∀ k ∈ l, ¬ Endl sg m k) ∧ (∃ k ∈ l, ∃ y, bst sg m.ss m.n k = some y ∧ y.1 = v) ∧ ∀ k ∈ l, ∀ y, bst sg m.ss m.n k = some y → y.1 ≤ v
theorem EdgeOf.uniq {sg : Int} {m : MD} {l : List Nat} {r r' : V} (h : EdgeOf sg m l r) (h' : EdgeOf sg m l r') : r = r' := by
  rcases h with ⟨e, k, hk, q⟩ | ⟨v, e, h1, ⟨k, hk, y, ey, hy⟩, h3⟩
  · rcases h' with ⟨e', _⟩ | ⟨v', e', h1', _⟩
    · rw [e, e']
    · exact absurd q (h1' k hk)
  · rcases h' with ⟨e', k', hk', q'⟩ | ⟨v', e', h1', ⟨k', hk', y', ey', hy'⟩, h3'⟩
    · exact absurd q' (h1 k' hk')
    · have a1 := h3 k' hk' y' ey'
      have a2 := h3' k hk y ey
      have : v = v' := by omega
      rw [e, e', this]
open Classical in
noncomputable def tl0 (sg : Int) (m : MD) (k : Nat) : V := if Endl sg m k then .str "endless" else match bst sg m.ss m.n k with
  | none => .non
  | some y => .int y.1
theorem tl0_flat {sg : Int} {m : MD} (l : List Nat) : (l.map (tl0 sg m)).all flatV = true := by
  rw [List.all_eq_true]
  intro v hv
  obtain ⟨k, _, rfl⟩ := List.mem_map.mp hv
  unfold tl0
  split
  · rfl
  · split <;> rfl
theorem tl0_in {sg : Int} {m : MD} {l : List Nat} (h : ∃ k ∈ l, Endl sg m k) : inV (.str "endless") (l.map (tl0 sg m)) = true := by
  obtain ⟨k, hk, e⟩ := h
  unfold inV
  rw [List.any_eq_true]
  refine ⟨.str "endless", List.mem_map.mpr ⟨k, hk, by unfold tl0; rw [if_pos e]⟩, by decide⟩
theorem tl0_out {sg : Int} {m : MD} {l : List Nat} (h : ¬ ∃ k ∈ l, Endl sg m k) : inV (.str "endless") (l.map (tl0 sg m)) = false := by
  cases q : inV (.str "endless") (l.map (tl0 sg m)) with
  | false => rfl
  | true =>
    exfalso
    unfold inV at q
    rw [List.any_eq_true] at q
    obtain ⟨v, hv, e⟩ := q
    obtain ⟨k, hk, rfl⟩ := List.mem_map.mp hv
    unfold tl0 at e
    rw [if_neg fun z => h ⟨k, hk, z⟩] at e
    split at e <;> cases e
noncomputable def bst1 (sg : Int) (m : MD) (k : Nat) : Int := ((bst sg m.ss m.n k).getD (0, [])).1
theorem reach_lt {m : MD} (o : m.Ok) {k : Nat} (h : Reach m.ss [0] k) : k < m.n := by
  cases h with
  | base h => rw [List.mem_singleton.mp h]; exact o.n1
  | step hs _ => exact (o.ok _ hs).e
/-! ### the program's reached stands -/
section
variable {P : Program} {w : World} {K : PySem.W.Frag} {mg : Str → Option Value} {base : Heap}
theorem ok_reached (T : Txt K mg) : FnOk P w K mg base (L2.CX P w) 4 T.a_reached T.fd_reached ["machine"] (sp_reached K T.c_Machine) := by
  refine T.F_reached.okX sc_reached (fun vs H Q E h => ?_) (fun cdv A outer s H vs Q E hr h => ?_)
  · obtain ⟨x, m, rfl, _⟩ := h
    rfl
  · obtain ⟨x, m, rfl, hm, o, k⟩ := h
    obtain ⟨dx, t, u, hx, hp0⟩ := id hm
    refine ⟨_, (PSs.nox (pss_cons (ps_expr (pe_call (ok_check_machine T) (hr.mono (by decide)) (by rfl) T.m_check_machine T.k_check_machine T.b_check_machine .nil passL (pa_cons (pv 0) pa_nil)))
  (pss_one (ps_ret (pe_call (ok_led_to T) (hr.mono (by decide)) (by rfl) T.m_led_to T.k_led_to T.b_led_to .nil passL (pa_cons (pe_prop (pv 0) T.cl_Machine T.p_steps (ok_Machine_steps T) (hr.mono (by decide)) T.b_Machine_steps .nil passL rfl) (pa_cons (pe_lst (pa_cons pe_int pa_nil)) pa_nil))))))), ?_⟩
    walk_at "begin"
    walk_at "go"
    refine ⟨x, dx, _, rfl, hx, ?_⟩
    walk_at "go"
    refine ⟨x, dx, _, rfl, hx, x, dx, _, .ref t, rfl, hx, rfl, ?_⟩
    walk_at "go"
    refine ⟨(by decide : 1 ≤ sizeLine), fun p hp => ?_⟩
    walk_at "go"
    refine ⟨t, p, m.n, m.ss, [0], rfl, .of ((Tups.new hp).stAt hp0.1), o.sok, upd_same, fun n hn => by rw [List.mem_singleton.mp hn]; exact o.n1, by decide, fun q l' H' z hq eq h1 h2 => k q l' H' ((Same.new hp).trans z) ?_ eq h1 h2⟩
    cases e : H q with
    | none => rfl
    | some ob => rw [Same.new hp _ _ e] at hq; cases hq
end
/-! ### the program's least and greatest of several stands -/
def sp_best_of (K : PySem.W.Frag) : Sp := fun vs H Q _ => ∃ (x p : Addr) (sg : Int) (m : MD) (l : List Nat), vs = [.int (m.n : Nat), .ref x, .int sg, .ref p] ∧ StAt K H x m.ss ∧ m.Ok ∧ (sg = 1 ∨ sg = -1) ∧ H p = some (.lst (nats l)) ∧
  l ≠ [] ∧ l.length ≤ 8 ∧ (∀ k ∈ l, Reach m.ss [0] k) ∧ ∀ r H', Same H H' → EdgeOf sg m l r → Q r H'
def sp_pair (K : PySem.W.Frag) : Sp := fun vs H Q _ => ∃ (x p : Addr) (m : MD) (l : List Nat), vs = [.int (m.n : Nat), .ref x, .ref p] ∧ StAt K H x m.ss ∧ m.Ok ∧ H p = some (.lst (nats l)) ∧
  l ≠ [] ∧ l.length ≤ 8 ∧ (∀ k ∈ l, Reach m.ss [0] k) ∧ ∀ r1 r2 q H', Same H H' → H q = none → H' q = some (.tup [r1, r2]) → EdgeOf (-1) m l r1 → EdgeOf 1 m l r2 → Q (.ref q) H'
section
variable {P : Program} {w : World} {K : PySem.W.Frag} {mg : Str → Option Value} {base : Heap}
theorem ok_best_of (T : Txt K mg) : FnOk P w K mg base (L2.CX P w) 5 T.a_best_of T.fd_best_of ["many", "steps", "sign", "stands"] (sp_best_of K) := by
  refine T.F_best_of.okX sc_best_of (fun vs H Q E h => ?_) (fun cdv A outer s H vs Q E hr h => ?_)
  · obtain ⟨x, p, sg, m, l, rfl, _⟩ := h
    rfl
  · obtain ⟨x, p, sg, m, l, rfl, hm, o, hsg, hp, hne, h8, hre, k⟩ := h
    refine ⟨_, (PSs.nox (pss_cons (ps_set (i := 4) sc_best_of.nd rfl (Or.inr rfl) (pe_call (ok_best_rows T) (hr.mono (by decide)) (by rfl) T.m_best_rows T.k_best_rows T.b_best_rows .nil passL (pa_cons (pv 0) (pa_cons (pv 1) (pa_cons (pv 2) pa_nil)))))
  (pss_cons (ps_setLc (i := 5) (own := [("stand", 6)]) (g := (gName 6)) (tt := tYes) rfl sc_best_of.nd rfl rfl (sw_true rfl rfl rfl (by decide +kernel)) (pi_list (pv 3)) (blkOk_by (own := [("stand", 6)]) (N := ["many", "steps", "sign", "stands", "best", "tallies", "stand"]) (sc := defScope s_best_of) (by decide +kernel)) (fun _ _ _ _ _ => (pg_name (i := 6) sc_best_of.nd rfl (Or.inl rfl))) (fun _ _ _ _ _ => pts_nil) (fun _ _ _ _ _ => (pe_ix (show IxR _ (rIxT K) from ix_tup) (pe_dget (hu_of hr) (pv 4) (pv 6) (fun _ _ => rfl)) pe_int (fun _ _ => rfl))))
  (pss_one (ps_ret (pe_ifExp (pt_cmpR op_in_seq (pe_glob (by rfl) T.m_ENDLESS T.r_ENDLESS) (pv 5) (by rfl)) pe_non (pe_op op_mulW (pv 2) (pe_callB (cr_max rfl) (by rfl) T.z_max (by decide +kernel) (pa_cons (pv 5) pa_nil))))))))), ?_⟩
    walk_at "begin"
    walk_at "go"
    refine ⟨x, sg, m.n, m.ss, rfl, .of hm, o.sok, .of hsg, fun pb kvs H1 li L z1 _ epb hl hL ok => ?_⟩
    rw [bestE_of o hl hL] at ok
    have hp1 := z1 _ _ hp
    walk_at "go"
    refine ⟨p, rfl, ⟨_, SqL.of hp1⟩, fun D hD => ?_⟩
    have npD : pb ≠ D := by intro e; rw [e] at epb; rw [epb] at hD; cases hD
    refine lc_list (xs := nats l) (fun i H' => Same H1 H' ∧ H' D = some (.lst ((l.take i).map (tl0 sg m)))) ⟨Same.new hD, upd_same⟩ (fun _ H' _ ⟨z, _⟩ => SqL.of (z _ _ hp1)) ?_ ?_
    · rintro i y H2 hy ⟨z2, eD⟩
      obtain ⟨n, en, rfl⟩ := nats_at hy
      have hn : n ∈ l := List.mem_of_getElem? en
      have tk : (l.take (i + 1)).map (tl0 sg m) = (l.take i).map (tl0 sg m) ++ [tl0 sg m n] := by rw [List.take_add_one, en, List.map_append]; rfl
      rw [tk]
      have dg : DGet H2 pb (.int (n : Nat)) (valV kvs (.inl (n : Int))) := DGet.k (k := .inl (n : Int)) (z2 _ _ epb)
      have ok2 := ok.tups (same_tups z2)
      have lt : ((l.take i).map (tl0 sg m)).length < sizeLine := by
        rw [List.length_map, List.length_take]
        exact Nat.lt_of_le_of_lt (show _ ≤ 8 by omega) (by decide)
      walk_at "go"
      refine ⟨rfl, ?_⟩
      walk_at "go"
      refine iteT ?_
      walk_at "go"
      by_cases c : Endl sg m n
      · have e1 : bestE sg m n = some endE := by unfold bestE; rw [if_pos c]
        obtain ⟨q, eq, sq⟩ := (ok2.2 n).2 _ e1
        rw [eq] at dg
        refine ⟨pb, _, rfl, dg, ?_⟩
        walk_at "go"
        refine k_ixT sq (v := .str "endless") rfl ?_
        have e2 : tl0 sg m n = .str "endless" := by unfold tl0; rw [if_pos c]
        rw [e2]
        exact ⟨_, eD, lt, Same.mut z2 hD, upd_same⟩
      · obtain ⟨yv, eb⟩ := reach_bst o hsg (hre n hn) c
        have e1 : bestE sg m n = E2 (bst sg m.ss m.n) n := by unfold bestE; rw [if_neg c]
        obtain ⟨q, eq, sq⟩ := (ok2.2 n).2 (ent2 yv) (by rw [e1]; unfold E2; rw [eb]; rfl)
        rw [eq] at dg
        refine ⟨pb, _, rfl, dg, ?_⟩
        walk_at "go"
        refine k_ixT sq (v := .int yv.1) rfl ?_
        have e2 : tl0 sg m n = .int yv.1 := by unfold tl0; rw [if_neg c, eb]
        rw [e2]
        exact ⟨_, eD, lt, Same.mut z2 hD, upd_same⟩
    · rintro H2 ⟨z2, eD⟩
      have eD : H2 D = some (.lst (l.map (tl0 sg m))) := by
        rw [eD]
        unfold nats
        rw [List.length_map, List.take_length]
      walk_at "go"
      refine ⟨D, _, rfl, .inl (SqL.of eD), rfl, tl0_flat l, ?_⟩
      by_cases c : ∃ k ∈ l, Endl sg m k
      · walk_at "go"
        refine k_yes (tl0_in c) ?_
        walk_at "go"
        exact k _ _ (z1.trans z2) (.inl ⟨rfl, c⟩)
      · walk_at "go"
        refine k_no (tl0_out c) ?_
        walk_at "go"
        have nk : ∀ k ∈ l, ¬ Endl sg m k := fun k hk e => c ⟨k, hk, e⟩
        have em : l.map (tl0 sg m) = (l.map (bst1 sg m)).map V.int := by
          rw [List.map_map]
          refine List.map_congr_left fun k hk => ?_
          obtain ⟨yv, eb⟩ := reach_bst o hsg (hre k hk) (nk k hk)
          show tl0 sg m k = .int (bst1 sg m k)
          unfold tl0 bst1
          rw [if_neg (nk k hk), eb]
          rfl
        rw [em] at eD
        refine ⟨D, _, rfl, SqL.of eD, ?_, fun v hv hmax => ?_⟩
        · rw [List.length_map]
          exact List.length_pos_iff.mpr hne
        · obtain ⟨kb, hkb, rfl⟩ := List.mem_map.mp hv
          obtain ⟨yv, eb⟩ := reach_bst o hsg (hre kb hkb) (nk kb hkb)
          have ev : bst1 sg m kb = yv.1 := by unfold bst1; rw [eb]; rfl
          obtain ⟨j, hj, ej⟩ := bst_of _ _ _ eb
          have sm := lvl_small o hsg j _ _ ej
          have n8 := o.n8
          rw [ev] at hmax ⊢
          refine k_I (wide_mul (a := 1) (b := 110) (by rcases hsg with rfl | rfl <;> decide) ?_ (by decide) (by decide) (by decide)) ?_
          · have : (j : Int) * 10 ^ 30 ≤ 8 * 10 ^ 30 := by omega
            omega
          · refine k _ _ (z1.trans z2) (.inr ⟨yv.1, rfl, nk, ⟨kb, hkb, yv, eb, rfl⟩, fun k2 hk2 y2 ey2 => ?_⟩)
            have := hmax (bst1 sg m k2) (List.mem_map.mpr ⟨k2, hk2, rfl⟩)
            unfold bst1 at this
            rw [ey2] at this
            exact this
theorem ok_least_and_greatest (T : Txt K mg) : FnOk P w K mg base (L2.CX P w) 6 T.a_least_and_greatest T.fd_least_and_greatest ["many", "steps", "stands"] (sp_pair K) := by
  refine T.F_least_and_greatest.okX sc_least_and_greatest (fun vs H Q E h => ?_) (fun cdv A outer s H vs Q E hr h => ?_)
  · obtain ⟨x, p, m, l, rfl, _⟩ := h
    rfl
  · obtain ⟨x, p, m, l, rfl, hm, o, hp, hne, h8, hre, k⟩ := h
    refine ⟨_, (PSs.nox (pss_one (ps_ret (pe_tup (pa_cons (pe_call (ok_best_of T) (hr.mono (by decide)) (by rfl) T.m_best_of T.k_best_of T.b_best_of .nil passL (pa_cons (pv 0) (pa_cons (pv 1) (pa_cons (pe_un un_neg pe_int) (pa_cons (pv 2) pa_nil))))) (pa_cons (pe_call (ok_best_of T) (hr.mono (by decide)) (by rfl) T.m_best_of T.k_best_of T.b_best_of .nil passL (pa_cons (pv 0) (pa_cons (pv 1) (pa_cons pe_int (pa_cons (pv 2) pa_nil))))) pa_nil)))))), ?_⟩
    walk_at "begin"
    walk_at "go"
    refine ⟨x, p, -1, m, l, rfl, hm, o, .inr rfl, hp, hne, h8, hre, fun r1 H1 z1 e1 => ?_⟩
    walk_at "go"
    refine ⟨x, p, 1, m, l, rfl, (same_tups z1).stAt hm, o, .inl rfl, z1 _ _ hp, hne, h8, hre, fun r2 H2 z2 e2 => ?_⟩
    walk_at "go"
    refine ⟨(by show 2 ≤ sizeLine; decide), fun q hq => ?_⟩
    have hq0 : H q = none := by
      cases e : H q with
      | none => rfl
      | some ob => rw [(z1.trans z2) _ _ e] at hq; cases hq
    exact k r1 r2 q _ ((z1.trans z2).trans (Same.new hq)) hq0 upd_same e1 e2
end
/-! ### bounds, end_bounds -/
def sp_bounds (K : PySem.W.Frag) (C : Addr) : Sp := fun vs H Q _ => ∃ (x : Addr) (m : MD), vs = [.ref x] ∧ MAt K C H x m ∧ m.Ok ∧
  ∀ (l : List Nat) r1 r2 q H', (∀ n, n ∈ l ↔ Reach m.ss [0] n) → Same H H' → H q = none → H' q = some (.tup [r1, r2]) → EdgeOf (-1) m l r1 → EdgeOf 1 m l r2 → Q (.ref q) H'
def sp_ebounds (K : PySem.W.Frag) (C : Addr) : Sp := fun vs H Q _ => ∃ (x : Addr) (m : MD), vs = [.ref x] ∧ MAt K C H x m ∧ m.Ok ∧
  ∀ (l : List Nat), (∀ n, n ∈ l ↔ Reach m.ss [0] n ∧ n ∈ m.es) → (l = [] → ∀ H', Same H H' → Q .non H') ∧
    (l ≠ [] → ∀ r1 r2 q H', Same H H' → H q = none → H' q = some (.tup [r1, r2]) → EdgeOf (-1) m l r1 → EdgeOf 1 m l r2 → Q (.ref q) H')
section
variable {P : Program} {w : World} {K : PySem.W.Frag} {mg : Str → Option Value} {base : Heap}
theorem ok_bounds (T : Txt K mg) : FnOk P w K mg base (L2.CX P w) 7 T.a_bounds T.fd_bounds ["machine"] (sp_bounds K T.c_Machine) := by
  refine T.F_bounds.okX sc_bounds (fun vs H Q E h => ?_) (fun cdv A outer s H vs Q E hr h => ?_)
  · obtain ⟨x, m, rfl, _⟩ := h
    rfl
  · obtain ⟨x, m, rfl, hm, o, k⟩ := h
    obtain ⟨dx, t, u, hx, hpp⟩ := id hm
    refine ⟨_, (PSs.nox (pss_cons (ps_expr (pe_call (ok_check_machine T) (hr.mono (by decide)) (by rfl) T.m_check_machine T.k_check_machine T.b_check_machine .nil passL (pa_cons (pv 0) pa_nil)))
  (pss_one (ps_ret (pe_call (ok_least_and_greatest T) (hr.mono (by decide)) (by rfl) T.m_least_and_greatest T.k_least_and_greatest T.b_least_and_greatest .nil passL (pa_cons (pe_prop (pv 0) T.cl_Machine T.p_stands (ok_Machine_stands T) (hr.mono (by decide)) T.b_Machine_stands .nil passL rfl) (pa_cons (pe_prop (pv 0) T.cl_Machine T.p_steps (ok_Machine_steps T) (hr.mono (by decide)) T.b_Machine_steps .nil passL rfl) (pa_cons (pe_call (ok_reached T) (hr.mono (by decide)) (by rfl) T.m_reached T.k_reached T.b_reached .nil passL (pa_cons (pv 0) pa_nil)) pa_nil)))))))), ?_⟩
    walk_at "begin"
    walk_at "go"
    refine ⟨x, dx, _, rfl, hx, ?_⟩
    walk_at "go"
    refine ⟨x, dx, _, rfl, hx, x, dx, _, .int (m.n : Nat), rfl, hx, rfl, ?_⟩
    walk_at "go"
    refine ⟨x, dx, _, rfl, hx, x, dx, _, .ref t, rfl, hx, rfl, ?_⟩
    walk_at "go"
    refine ⟨x, m, rfl, hm, o, fun q l H1 z1 hq eq mem asc => ?_⟩
    have l8 : l.length ≤ 8 := Nat.le_trans (nodup_small (asc.imp fun {a b} h => Nat.ne_of_lt h) fun n hn => reach_lt o ((mem n).mp hn)) o.n8
    walk_at "go"
    refine ⟨t, q, m, l, rfl, (same_tups z1).stAt hpp.1, o, eq, fun e => ?_, l8, fun n hn => (mem n).mp hn, fun r1 r2 q2 H2 z2 hq2 eq2 e1 e2 => k l r1 r2 q2 H2 mem (z1.trans z2) (free_of z1 hq2) eq2 e1 e2⟩
    have := (mem 0).mpr (.base (List.mem_singleton.mpr rfl))
    rw [e] at this
    cases this
end
/-! ### dicts from stands to integers -/
abbrev LF := Nat → Option Int
def KvI (kvs : List (Key × V)) (f : LF) : Prop := (∀ p ∈ kvs, ∃ n : Nat, p.1 = .inl (n : Int)) ∧ ∀ n : Nat, valV kvs (.inl (n : Int)) = (f n).map V.int
theorem KvI.put {kvs : List (Key × V)} {f : LF} (h : KvI kvs f) (n : Nat) (v : Int) : KvI (putK kvs (.inl (n : Int)) (.int v)) (fun j => if j = n then some v else f j) := by
  refine ⟨fun q hq => ?_, fun j => ?_⟩
  · unfold putK at hq
    split at hq
    · obtain ⟨r, hr, rfl⟩ := List.mem_map.mp hq
      split
      · rename_i z; exact ⟨n, z⟩
      · exact h.1 r hr
    · rcases List.mem_append.mp hq with hq | hq
      · exact h.1 q hq
      · have : q = (.inl (n : Int), .int v) := by simpa using hq
        exact ⟨n, by rw [this]⟩
  · rw [valV_put]
    by_cases c : j = n
    · have c' : (Sum.inl (j : Int) : Key) = .inl (n : Int) := by rw [c]
      simp only [if_pos c, if_pos c']
      rfl
    · have c' : ¬ (Sum.inl (j : Int) : Key) = .inl (n : Int) := fun z => c (by injection z with z; omega)
      simp only [if_neg c, if_neg c']
      exact h.2 j
theorem KvI.key {kvs : List (Key × V)} {f : LF} (h : KvI kvs f) {k : Key} {v : V} (hk : (k, v) ∈ kvs) : ∃ (n : Nat) (u : Int), k = .inl (n : Int) ∧ f n = some u := by
  obtain ⟨n, rfl⟩ : ∃ n : Nat, k = .inl (n : Int) := h.1 _ hk
  cases e : f n with
  | some u => exact ⟨n, u, rfl, e⟩
  | none =>
    have q := h.2 n
    rw [e] at q
    have a := valV_any (.inl (n : Int) : Key) kvs
    rw [q] at a
    have : kvs.any (fun kv => decide (kv.1 = (.inl (n : Int) : Key))) = true := List.any_eq_true.mpr ⟨_, hk, decide_eq_true rfl⟩
    rw [this] at a
    cases a
theorem KvI.has {kvs : List (Key × V)} {f : LF} (h : KvI kvs f) {n : Nat} {u : Int} (e : f n = some u) : ∃ (i : Nat) (v : V), kvs[i]? = some ((Sum.inl (n : Int) : Key), v) := by
  have q := h.2 n
  rw [e] at q
  have a := valV_any (.inl (n : Int) : Key) kvs
  rw [q] at a
  obtain ⟨kv, hm, hd⟩ := List.any_eq_true.mp (a.trans rfl)
  obtain ⟨j, hj, ej⟩ := List.getElem_of_mem hm
  have hd' : kv.1 = .inl (n : Int) := of_decide_eq_true hd
  refine ⟨j, kv.2, ?_⟩
  rw [List.getElem?_eq_getElem hj, ej, ← hd']
theorem putK_nodup {kvs : List (Key × V)} (k : Key) (v : V) (h : (kvs.map (·.1)).Nodup) : ((putK kvs k v).map (·.1)).Nodup := by
  unfold putK
  split
  · rename_i c
    have : (kvs.map fun kv => if kv.1 = k then (kv.1, v) else kv).map (·.1) = kvs.map (·.1) := by
      rw [List.map_map]
      refine List.map_congr_left fun a _ => ?_
      show (if a.1 = k then (a.1, v) else a).1 = a.1
      split
      · rfl
      · rfl
    first
      | rw [this]; exact h
      | (show ((kvs.map _).map _).Nodup; rw [this]; exact h)
  · rename_i c
    rw [List.map_append]
    refine List.nodup_append.mpr ⟨h, by simp, fun a ha b hb e => ?_⟩
    have hb' : b = k := by simpa using hb
    obtain ⟨kv, hm, rfl⟩ := List.mem_map.mp ha
    exact c (List.any_eq_true.mpr ⟨kv, hm, decide_eq_true (by rw [e, hb'])⟩)
theorem KvI.len {kvs : List (Key × V)} {f : LF} {N : Nat} (h : KvI kvs f) (nd : (kvs.map (·.1)).Nodup) (hb : ∀ n u, f n = some u → n < N) : kvs.length ≤ N := by
  have all : ∀ p ∈ kvs, ∃ n : Nat, p.1 = .inl (n : Int) ∧ n < N := fun p hp => by
    obtain ⟨n, u, e, fe⟩ := h.key (k := p.1) (v := p.2) hp
    exact ⟨n, e, hb _ _ fe⟩
  obtain ⟨l, el, hl⟩ : ∃ l : List Nat, kvs.map (·.1) = l.map (fun n : Nat => (.inl (n : Int) : Key)) ∧ ∀ n ∈ l, n < N := by
    clear nd h
    induction kvs with
    | nil => exact ⟨[], rfl, fun n hn => absurd hn (by simp)⟩
    | cons a r ih =>
      obtain ⟨n, en, hn⟩ := all a List.mem_cons_self
      obtain ⟨l, el, hl⟩ := ih fun p hp => all p (List.mem_cons_of_mem _ hp)
      exact ⟨n :: l, by rw [List.map_cons, List.map_cons, el, en], fun k hk => by
        rcases List.mem_cons.mp hk with rfl | hk
        · exact hn
        · exact hl k hk⟩
  have e1 : kvs.length = l.length := by
    have := congrArg List.length el
    rwa [List.length_map, List.length_map] at this
  rw [e1]
  rw [el] at nd
  refine nodup_small ?_ hl
  have : ∀ l : List Nat, (l.map (fun n : Nat => (.inl (n : Int) : Key))).Nodup → l.Nodup := fun l => by
    induction l with
    | nil => exact fun _ => .nil
    | cons a r ih =>
      intro q
      rw [List.map_cons, List.nodup_cons] at q
      rw [List.nodup_cons]
      exact ⟨fun z => q.1 (List.mem_map.mpr ⟨a, z, rfl⟩), ih q.2⟩
  exact this l nd
/-! ### enumerate over a tuple in a comprehension: L2.lc_it takes it by this Walk -/
theorem walk_enumT {K : PySem.W.Frag} {a : Addr} {xs : List V} : Walk (Iet K a) xs.length (fun H => SqT K H a xs) (fun i H v H' => ∃ p x, v = .ref p ∧ H p = none ∧ H' = upd H p (.tup [.int (i : Nat), x]) ∧ xs[i]? = some x) where
  goes := fun i H c sq => ⟨xs, xs[i], sq, List.getElem?_eq_getElem c⟩
  stops := fun H sq => ⟨xs, sq, by simp⟩
  yields := fun i H v H' c sq y => by
    obtain ⟨p, x, rfl, hp, rfl, hx⟩ := y
    exact ⟨p, x, rfl, hp, rfl, hx xs sq⟩
/-! ### d.setdefault -/
theorem k_dsetd {td ty tx : TE} {σ : L2.St} {H : Hp} {Q : VK} (h : td σ H fun x H1 => ∃ a, x = .ref a ∧ IsD H1 a ∧ ty σ H1 fun y H2 => tx σ H2 fun z H3 => ∃ (kvs : List (Key × V)) (k : Key), H3 a = some (.dK kvs) ∧ y = kV k ∧ kvs.length < sizeLine ∧
  (∀ v, valV kvs k = some v → Q v H3) ∧ (valV kvs k = none → Q z (upd H3 a (.dK (putK kvs k z))))) : tDSetd td ty tx σ H Q := h
/-! ### the places of steps on loops -/
def OnLoop (m : MD) (s : Stp) : Prop := Reach m.ss [0] s.b ∧ Reach m.ss [s.e] s.b
structure PlacesOf (m : MD) (ps : List Nat) : Prop where
  mem : ∀ p, p ∈ ps ↔ ∃ s, m.ss[p]? = some s ∧ OnLoop m s
  up : ps.Pairwise (· < ·)
theorem PlacesOf.lt {m : MD} {ps : List Nat} (h : PlacesOf m ps) : ∀ p ∈ ps, p < m.ss.length := fun p hp => let ⟨_, e, _⟩ := (h.mem p).mp hp; (List.getElem?_eq_some_iff.mp e).1
theorem PlacesOf.len {m : MD} {ps : List Nat} (h : PlacesOf m ps) : ps.length ≤ m.ss.length := nodup_small (h.up.imp fun {a b} q => Nat.ne_of_lt q) h.lt
def sp_places (K : PySem.W.Frag) (C : Addr) : Sp := fun vs H Q _ => ∃ (x : Addr) (m : MD), vs = [.ref x] ∧ MAt K C H x m ∧ m.Ok ∧
  ∀ q (ps : List Nat) H', Same H H' → H q = none → H' q = some (.lst (nats ps)) → PlacesOf m ps → Q (.ref q) H'
section
variable {P : Program} {w : World} {K : PySem.W.Frag} {mg : Str → Option Value} {base : Heap}
theorem ok_places_on_loops (T : Txt K mg) : FnOk P w K mg base (L2.CX P w) 6 T.a_places_on_loops T.fd_places_on_loops ["machine"] (sp_places K T.c_Machine) := by
  refine T.F_places_on_loops.okX sc_places_on_loops (fun vs H Q E h => ?_) (fun cdv A outer s H vs Q E hr h => ?_)
  · obtain ⟨x, m, rfl, _⟩ := h
    rfl
  · obtain ⟨x, m, rfl, hm, o, k⟩ := h
    obtain ⟨dx, t, u, hx, hp0⟩ := id hm
    refine ⟨_, (PSs.nox (pss_cons (ps_set (i := 1) sc_places_on_loops.nd rfl (Or.inr rfl) (pe_call (ok_reached T) (hr.mono (by decide)) (by rfl) T.m_reached T.k_reached T.b_reached .nil passL (pa_cons (pv 0) pa_nil)))
  (pss_one (ps_ret (pe_lc (own := [("place", 2), ("begun", 3), ("_", 4), ("end", 5), ("_", 4)]) (g := (gTup K 2 (gCons (gName 2) (gCons (gTup K 4 (gCons (gName 3) (gCons (gName 4) (gCons (gName 5) (gCons (gName 4) gNil))))) gNil)))) rfl sc_places_on_loops.nd (pi_enumT (by rfl) T.z_enumerate (pa_cons (pe_prop (pv 0) T.cl_Machine T.p_steps (ok_Machine_steps T) (hr.mono (by decide)) T.b_Machine_steps .nil passL rfl) pa_nil)) (blkOk_by (own := [("place", 2), ("begun", 3), ("_", 4), ("end", 5), ("_", 4)]) (N := ["machine", "stands", "place", "begun", "_", "end"]) (sc := defScope s_places_on_loops) (by decide +kernel)) (fun _ _ _ _ _ => (pg_tup rfl (pgs_cons (pg_name (i := 2) sc_places_on_loops.nd rfl (Or.inl rfl)) (pgs_cons (pg_tup rfl (pgs_cons (pg_name (i := 3) sc_places_on_loops.nd rfl (Or.inl rfl)) (pgs_cons (pg_name (i := 4) sc_places_on_loops.nd rfl (Or.inl rfl)) (pgs_cons (pg_name (i := 5) sc_places_on_loops.nd rfl (Or.inl rfl)) (pgs_cons (pg_name (i := 4) sc_places_on_loops.nd rfl (Or.inl rfl)) pgs_nil))))) pgs_nil)))) (fun _ _ _ _ _ => (pts_one (PW.pt (pw_and (pt_cmpR (show OpR _ _ (rIn K false) from op_in_seq) (pv 3) (pv 1) (by rfl)) (pw_and1 (pt_cmpR (show OpR _ _ (rIn K false) from op_in_seq) (pv 3) (pe_call (ok_led_to T) (hr.mono (by decide)) (by rfl) T.m_led_to T.k_led_to T.b_led_to .nil passL (pa_cons (pe_prop (pv 0) T.cl_Machine T.p_steps (ok_Machine_steps T) (hr.mono (by decide)) T.b_Machine_steps .nil passL rfl) (pa_cons (pe_lst (pa_cons (pv 5) pa_nil)) pa_nil))) (by rfl))))))) (fun _ _ _ _ _ => (pv 2))))))), ?_⟩
    walk_at "begin"
    walk_at "go"
    refine ⟨x, m, rfl, hm, o, fun S l H1 z1 hS eS reach asc => ?_⟩
    walk_at "go"
    unfold iEnumT
    walk_at "go"
    refine ⟨x, dx, _, rfl, z1 _ _ hx, x, dx, _, .ref t, rfl, z1 _ _ hx, rfl, ?_⟩
    walk_at "go"
    obtain ⟨us, hs, hu⟩ := id ((same_tups z1).parts hp0).1
    refine ⟨t, us, rfl, hs, fun D hD => ?_⟩
    refine lc_it walk_enumT (fun i H' => Same H1 H' ∧ ∃ ps : List Nat, H' D = some (.lst (nats ps)) ∧ ps.length ≤ i ∧ (∀ p, p ∈ ps ↔ p < i ∧ ∃ s, m.ss[p]? = some s ∧ OnLoop m s) ∧ ps.Pairwise (· < ·)) ⟨Same.new hD, [], upd_same, Nat.le_refl _, fun p => ⟨fun hp => absurd hp (by simp), fun hp => absurd hp.1 (Nat.not_lt_zero _)⟩, .nil⟩ (fun i H' _ ⟨z, _⟩ => (same_tups z).sq hs) ?_ ?_
    · rintro i y H2 H3 hi ⟨z, ps, eD, lp, bp, up⟩ ⟨p, w', rfl, hp, rfl, hw⟩
      have il : i < m.ss.length := by rw [← hu.1]; exact hi
      have ei : m.ss[i]? = some (m.ss[i]'il) := List.getElem?_eq_getElem il
      obtain ⟨pw, eq, hq⟩ := hu.2 i _ ei
      rw [hw] at eq
      cases eq
      have o0 := o.ok _ (List.getElem_mem il)
      generalize m.ss[i]'il = s0 at hq o0 ei
      have z2 : Same H1 (upd H2 p (.tup [.int (i : Nat), .ref pw])) := z.trans (Same.new hp)
      refine k_gt (SqT.of upd_same) rfl ?_
      walk_at "go"
      refine k_gt ((same_tups z2).sq hq) rfl ?_
      unfold stpV
      walk_at "go"
      refine ⟨rfl, ?_⟩
      walk_at "go"
      have skip : ∀ H3, ¬ OnLoop m s0 → Same (upd H2 p (.tup [.int (i : Nat), .ref pw])) H3 → H3 D = some (.lst (nats ps)) → Same H1 H3 ∧ ∃ ps, H3 D = some (.lst (nats ps)) ∧ ps.length ≤ i + 1 ∧ (∀ p, p ∈ ps ↔ p < i + 1 ∧ ∃ s, m.ss[p]? = some s ∧ OnLoop m s) ∧ ps.Pairwise (· < ·) := fun H3 no z3 e3 => ⟨z2.trans z3, ps, e3, by omega, fun p => by
        rw [bp p]
        refine ⟨fun ⟨h1, h2⟩ => ⟨Nat.lt_succ_of_lt h1, h2⟩, fun ⟨h1, s, es, hs⟩ => ⟨?_, s, es, hs⟩⟩
        rcases Nat.lt_succ_iff_lt_or_eq.mp h1 with h1 | rfl
        · exact h1
        · rw [ei] at es; cases es; exact absurd hs no, up⟩
      have eD2 : (upd H2 p (.tup [.int (i : Nat), .ref pw])) D = some (.lst (nats ps)) := by rw [upd_ne (ne_of_none eD hp)]; exact eD
      refine ⟨S, nats l, rfl, .inl (SqL.of (z2 _ _ eS)), rfl, flat_nats _, ?_⟩
      rw [inV_nats]
      walk_at "go"
      refine k_ite (fun c0 => ?_) (fun c => ?_)
      · walk_at "go"
        refine ⟨x, dx, _, rfl, z2 _ _ (z1 _ _ hx), x, dx, _, .ref t, rfl, z2 _ _ (z1 _ _ hx), rfl, ?_⟩
        walk_at "go"
        refine ⟨(by decide : 1 ≤ sizeLine), fun B hB => ?_⟩
        walk_at "go"
        refine ⟨t, B, m.n, m.ss, [s0.e], rfl, .of (((same_tups z2).trans (Tups.new hB)).stAt ⟨us, hs, hu⟩), o.sok, upd_same, fun n hn => by rw [List.mem_singleton.mp hn]; exact o0.e, (by show 1 ≤ 300; decide), fun q l2 H4 z4 hq eq2 mem2 _ => ?_⟩
        walk_at "go"
        have z5 := (Same.new hB).trans z4
        refine ⟨q, nats l2, rfl, .inl (SqL.of eq2), rfl, flat_nats _, ?_⟩
        rw [inV_nats]
        walk_at "go"
        refine k_ite (fun c => ?_) (fun c => ?_)
        · walk_at "go"
          have on : OnLoop m s0 := ⟨(reach _).mp c0, (mem2 _).mp c⟩
          refine ⟨nats ps, z5 _ _ eD2, ?_, Same.mut (z2.trans z5) hD, ps ++ [i], by rw [upd_same, nats_snoc], by rw [List.length_append, List.length_singleton]; omega, fun p => ?_, ?_⟩
          · have := o.sok.len
            unfold nats
            rw [List.length_map]
            exact Nat.lt_of_le_of_lt (show ps.length ≤ 300 by omega) (by decide)
          · rw [List.mem_append, List.mem_singleton, bp p]
            refine ⟨fun h => ?_, fun ⟨h1, h2⟩ => ?_⟩
            · rcases h with ⟨h1, h2⟩ | rfl
              · exact ⟨Nat.lt_succ_of_lt h1, h2⟩
              · exact ⟨Nat.lt_succ_self _, s0, ei, on⟩
            · rcases Nat.lt_succ_iff_lt_or_eq.mp h1 with h1 | h1
              · exact .inl ⟨h1, h2⟩
              · exact .inr h1
          · refine List.pairwise_append.mpr ⟨up, List.pairwise_singleton _ _, fun a ha b hb => ?_⟩
            rw [List.mem_singleton.mp hb]
            exact ((bp a).mp ha).1
        · walk_at "go"
          exact skip _ (fun z => c ((mem2 _).mpr z.2)) z5 (z5 _ _ eD2)
      · walk_at "go"
        exact skip _ (fun z => c ((reach _).mpr z.1)) (Same.refl _) eD2
    · rintro H2 ⟨z, ps, eD, lp, bp, up⟩
      refine k D ps H2 (z1.trans z) ?_ eD ⟨fun p => by
        rw [bp p]
        exact ⟨fun h => h.2, fun h => ⟨let ⟨_, e, _⟩ := h; by rw [hu.1]; exact (List.getElem?_eq_some_iff.mp e).1, h⟩⟩, up⟩
      cases e : H D with
      | none => rfl
      | some ob => rw [z1 _ _ e] at hD; cases hD
end
/-! ### numbers on the stands, spread over steps: what _spread leaves, exactly -/
def putL (f : LF) (n : Nat) (v : Int) : LF := fun j => if j = n then some v else f j
def spT (f : LF) (s : Stp) : LF := match f s.b with
  | some x => (match f s.e with | some _ => f | none => putL f s.e (x + s.g))
  | none => (match f s.e with | some y => putL f s.b (y - s.g) | none => f)
def spR (ss : List Stp) (f : LF) : LF := ss.foldl spT f
def spI (ss : List Stp) : Nat → LF → LF
  | 0, f => f
  | n + 1, f => spR ss (spI ss n f)
/-- a dict of stands below N with integers -/
structure NumD (N : Nat) (kvs : List (Key × V)) (f : LF) : Prop where
  kv : KvI kvs f
  nd : (kvs.map (·.1)).Nodup
  bd : ∀ n u, f n = some u → n < N
theorem NumD.put {N : Nat} {kvs : List (Key × V)} {f : LF} (h : NumD N kvs f) {n : Nat} (hn : n < N) (v : Int) : NumD N (putK kvs (.inl (n : Int)) (.int v)) (putL f n v) :=
  ⟨h.kv.put n v, putK_nodup _ _ h.nd, fun k u e => by
    unfold putL at e
    split at e
    · rename_i c; rw [c]; exact hn
    · exact h.bd k u e⟩
theorem NumD.len {N : Nat} {kvs : List (Key × V)} {f : LF} (h : NumD N kvs f) : kvs.length ≤ N := h.kv.len h.nd h.bd
theorem NumD.small {N : Nat} {kvs : List (Key × V)} {f : LF} (h : NumD N kvs f) (n : N ≤ 63) : kvs.length < sizeLine := Nat.lt_of_le_of_lt (Nat.le_trans h.len n) (by decide)
theorem Keep.tupsD {a : Addr} {H H' : Hp} {kvs : List (Key × V)} (k : Keep a H H') (ha : H a = some (.dK kvs)) : Tups H H' := ⟨fun b _ e => k _ _ (fun z => by rw [z, ha] at e; cases e) e, fun b _ _ e => k _ _ (fun z => by rw [z, ha] at e; cases e) e⟩
def sp_spread (K : PySem.W.Frag) : Sp := fun vs H Q _ => ∃ (D p : Addr) (us : List V) (ss : List Stp) (N : Nat) (kvs : List (Key × V)) (f : LF), vs = [.ref D, .ref p] ∧ H p = some (.lst us) ∧ StpsAt K H us ss ∧ SsOk N ss ∧ H D = some (.dK kvs) ∧ NumD N kvs f ∧
  ∀ kvs' H', Keep D H H' → H' D = some (.dK kvs') → NumD N kvs' (spI ss ss.length f) → Q .non H'
section
variable {P : Program} {w : World} {K : PySem.W.Frag} {mg : Str → Option Value} {base : Heap}
theorem ok_spread (T : Txt K mg) : FnOk P w K mg base (L2.CX P w) 1 T.a_spread T.fd_spread ["numbers", "steps"] (sp_spread K) := by
  refine T.F_spread.okX sc_spread (fun vs H Q E h => ?_) (fun cdv A outer s H vs Q E hr h => ?_)
  · obtain ⟨D, p, us, ss, N, kvs, f, rfl, _⟩ := h
    rfl
  · obtain ⟨D, p, us, ss, N, kvs, f, rfl, hp, hs, o, hD, nd, k⟩ := h
    have npD : p ≠ D := fun e => by rw [e, hD] at hp; cases hp
    have lu := hs.1
    have l300 := o.len
    refine ⟨_, (PSs.nox (pss_one (ps_for PassesOwn.never rfl (pi_range1 (by rfl) T.z_range (pa_cons (pe_callB call_len_seq (by rfl) T.z_len PySem.boot_len (pa_cons (pv 1) pa_nil)) pa_nil)) (pg_name (i := 2) sc_spread.nd rfl (Or.inl rfl))
  (pss_one (ps_for PassesOwn.never rfl (pi_list (pv 1)) (pg_tup rfl (pgs_cons (pg_name (i := 3) sc_spread.nd rfl (Or.inl rfl)) (pgs_cons (pg_name (i := 2) sc_spread.nd rfl (Or.inl rfl)) (pgs_cons (pg_name (i := 4) sc_spread.nd rfl (Or.inl rfl)) (pgs_cons (pg_name (i := 5) sc_spread.nd rfl (Or.inl rfl)) pgs_nil)))))
  (pss_one (ps_if (pt_cmp (pc_din (hu_of hr) (pv 3) (pv 0)) (by rfl))
  (pss_one (ps_expr (pe_dsetd (pv 0) (pv 4) (pe_op op_add (pe_dget (hu_of hr) (pv 0) (pv 3) (fun _ _ => rfl)) (pv 5)) ⟨by rfl, by rfl, by rfl, by rfl⟩)))
  (pss_one (ps_if (pt_cmp (pc_din (hu_of hr) (pv 4) (pv 0)) (by rfl))
  (pss_one (ps_dput (hu_of hr) (pv 0) (pv 3) (pe_op op_sub (pe_dget (hu_of hr) (pv 0) (pv 4) (fun _ _ => rfl)) (pv 5)) rfl))
  pss_nil))))))))), ?_⟩
    walk_at "begin"
    walk_at "go"
    refine ⟨p, us, rfl, .inl (SqL.of hp), ?_⟩
    walk_at "go"
    refine k_rg (by omega) (by omega) ?_
    refine for_range (lo := 0) (n := ((us.length : Nat) : Int).toNat) (fun i σ H' => ∃ kvs' a2 a3 a4 a5, Keep D H H' ∧ H' D = some (.dK kvs') ∧ NumD N kvs' (spI ss i f) ∧ σ = [some (.ref D), some (.ref p), a2, a3, a4, a5]) ⟨kvs, _, _, _, _, Keep.refl _ _, hD, nd, rfl⟩ ?_ ?_
    · rintro i σ H1 hi ⟨kvs1, a2, a3, a4, a5, K1, eD1, nd1, rfl⟩
      walk_at "go"
      refine ⟨p, rfl, ⟨_, SqL.of (K1 _ _ npD hp)⟩, for_list (xs := us) (fun j σ H' => ∃ kvs' a2 a3 a4 a5, Keep D H H' ∧ H' D = some (.dK kvs') ∧ NumD N kvs' ((ss.take j).foldl spT (spI ss i f)) ∧ σ = [some (.ref D), some (.ref p), a2, a3, a4, a5])
        ⟨kvs1, _, _, _, _, K1, eD1, nd1, rfl⟩ (fun j σ H' _ ⟨_, _, _, _, _, K2, _⟩ => SqL.of (K2 _ _ npD hp)) ?_ ?_⟩
      · rintro j y σ H2 hy ⟨kvs2, a2, a3, a4, a5, K2, eD2, nd2, rfl⟩
        have il : j < ss.length := by rw [← hs.1]; exact (List.getElem?_eq_some_iff.mp hy).1
        have ei : ss[j]? = some (ss[j]'il) := List.getElem?_eq_getElem il
        obtain ⟨q, eq, hq⟩ := hs.2 j _ ei
        rw [hy] at eq
        cases eq
        have ok1 := o.ok _ (List.getElem_mem il)
        rw [take_fold _ _ ei]
        generalize ss[j]'il = s0 at hq ok1 ⊢
        generalize (ss.take j).foldl spT (spI ss i f) = g at nd2 ⊢
        refine k_gt ((K2.tupsD hD).sq hq) rfl ?_
        unfold stpV
        have small := nd2.small o.n64
        have dg : ∀ n : Nat, DGet H2 D (.int (n : Nat)) (valV kvs2 (.inl (n : Int))) := fun n => DGet.k (k := .inl (n : Int)) eD2
        walk_at "go"
        refine ⟨D, _, rfl, dg s0.b, ?_⟩
        walk_at "go"
        rw [nd2.kv.2 s0.b]
        cases eb : g s0.b with
        | some x =>
          have et : spT g s0 = (match g s0.e with | some _ => g | none => putL g s0.e (x + s0.g)) := by unfold spT; rw [eb]
          rw [et]
          refine iteT ?_
          walk_at "go"
          refine k_drop (k_dsetd ?_)
          walk_at "go"
          refine ⟨D, rfl, .inl ⟨_, .inl eD2⟩, ?_⟩
          walk_at "go"
          have dgb := dg s0.b
          rw [nd2.kv.2 s0.b, eb] at dgb
          refine ⟨D, _, rfl, dgb, ?_⟩
          walk_at "go"
          refine ⟨kvs2, .inl (s0.e : Int), eD2, rfl, small, fun v hv => ?_, fun hn => ?_⟩
          · rw [nd2.kv.2 s0.e] at hv
            cases ee : g s0.e with
            | none => rw [ee] at hv; cases hv
            | some y => exact ⟨kvs2, _, _, _, _, K2, eD2, nd2, rfl⟩
          · rw [nd2.kv.2 s0.e] at hn
            cases ee : g s0.e with
            | some y => rw [ee] at hn; cases hn
            | none => exact ⟨_, _, _, _, _, K2.trans Keep.at_, upd_same, nd2.put ok1.e _, rfl⟩
        | none =>
          have et : spT g s0 = (match g s0.e with | some y => putL g s0.b (y - s0.g) | none => g) := by unfold spT; rw [eb]
          rw [et]
          refine iteF ?_
          walk_at "go"
          refine ⟨D, _, rfl, dg s0.e, ?_⟩
          walk_at "go"
          rw [nd2.kv.2 s0.e]
          have dge := dg s0.e
          rw [nd2.kv.2 s0.e] at dge
          cases ee : g s0.e with
          | some y =>
            rw [ee] at dge
            refine iteT ?_
            walk_at "go"
            refine ⟨D, _, rfl, dge, ?_⟩
            walk_at "go"
            refine ⟨D, _, rfl, DPut.k (k := .inl (s0.b : Int)) eD2 small, ?_⟩
            exact ⟨_, _, _, _, _, K2.trans Keep.at_, upd_same, nd2.put ok1.b _, rfl⟩
          | none =>
            refine iteF ?_
            walk_at "go"
            exact ⟨kvs2, _, _, _, _, K2, eD2, nd2, rfl⟩
      · rintro σ H2 ⟨kvs2, a2, a3, a4, a5, K2, eD2, nd2, rfl⟩
        rw [hs.1, List.take_length] at nd2
        exact ⟨kvs2, _, _, _, _, K2, eD2, nd2, rfl⟩
    · rintro σ H2 ⟨kvs2, a2, a3, a4, a5, K2, eD2, nd2, rfl⟩
      rw [show (((us.length : Nat) : Int)).toNat = ss.length from hs.1] at nd2
      exact k kvs2 H2 K2 eD2 nd2
end
/-! ### what _numbers tells, exactly -/
def numG (ss : List Stp) : Nat → LF
  | 0 => fun _ => none
  | i + 1 => match numG ss i i with
    | some _ => numG ss i
    | none => spI ss ss.length (putL (numG ss i) i 0)
def fitB (f : LF) (s : Stp) : Bool := decide ((f s.e).getD 0 - (f s.b).getD 0 = s.g)
theorem spT_ext {f : LF} {s : Stp} {n : Nat} {x : Int} (h : f n = some x) : spT f s n = some x := by
  unfold spT
  cases eb : f s.b with
  | some y =>
    cases ee : f s.e with
    | some z => exact h
    | none =>
      show putL f s.e (y + s.g) n = some x
      unfold putL
      rw [if_neg (fun z => by rw [z, ee] at h; cases h)]
      exact h
  | none =>
    cases ee : f s.e with
    | none => exact h
    | some z =>
      show putL f s.b (z - s.g) n = some x
      unfold putL
      rw [if_neg (fun z => by rw [z, eb] at h; cases h)]
      exact h
theorem spR_ext {ss : List Stp} {f : LF} {n : Nat} {x : Int} (h : f n = some x) : spR ss f n = some x := by
  unfold spR
  induction ss generalizing f with
  | nil => exact h
  | cons s ss ih => exact ih (spT_ext h)
theorem spI_ext {ss : List Stp} {f : LF} {n : Nat} {x : Int} (h : f n = some x) : ∀ k, spI ss k f n = some x
  | 0 => h
  | k + 1 => spR_ext (spI_ext h k)
theorem numG_has {ss : List Stp} : ∀ {i n : Nat}, n < i → ∃ x, numG ss i n = some x
  | 0, n, h => absurd h (Nat.not_lt_zero _)
  | i + 1, n, h => by
    unfold numG
    cases e : numG ss i i with
    | some x =>
      by_cases c : n = i
      · rw [c]; exact ⟨x, e⟩
      · exact numG_has (by omega)
    | none =>
      by_cases c : n = i
      · exact ⟨0, spI_ext (by unfold putL; rw [if_pos c]) _⟩
      · obtain ⟨x, ex⟩ := numG_has (ss := ss) (show n < i by omega)
        exact ⟨x, spI_ext (by unfold putL; rw [if_neg c]; exact ex) _⟩
theorem Keep.same0 {a : Addr} {H H' : Hp} (x : Keep a H H') (h : H a = none) : Same H H' := fun b o e => x b o (ne_of_none e h) e
def sp_numbers (K : PySem.W.Frag) : Sp := fun vs H Q _ => ∃ (p : Addr) (us : List V) (ss : List Stp) (N : Nat), vs = [.int (N : Nat), .ref p] ∧ H p = some (.lst us) ∧ StpsAt K H us ss ∧ SsOk N ss ∧
  (ss.all (fitB (numG ss N)) = true → ∀ D kvs H', Same H H' → H D = none → H' D = some (.dK kvs) → NumD N kvs (numG ss N) → Q (.ref D) H') ∧ (ss.all (fitB (numG ss N)) = false → ∀ H', Same H H' → Q .non H')
section
variable {P : Program} {w : World} {K : PySem.W.Frag} {mg : Str → Option Value} {base : Heap}
theorem ok_numbers (T : Txt K mg) : FnOk P w K mg base (L2.CX P w) 2 T.a_numbers T.fd_numbers ["many", "steps"] (sp_numbers K) := by
  refine T.F_numbers.okX sc_numbers (fun vs H Q E h => ?_) (fun cdv A outer s H vs Q E hr h => ?_)
  · obtain ⟨p, us, ss, N, rfl, _⟩ := h
    rfl
  · obtain ⟨p, us, ss, N, rfl, hp, hs, o, k1, k2⟩ := h
    have lu := hs.1
    have l300 := o.len
    have n64 := o.n64
    refine ⟨_, (PSs.nox (pss_cons (ps_set (i := 2) sc_numbers.nd rfl (Or.inr rfl) pe_dnewK)
  (pss_cons (ps_for PassesOwn.never rfl (pi_range1 (by rfl) T.z_range (pa_cons (pv 0) pa_nil)) (pg_name (i := 3) sc_numbers.nd rfl (Or.inl rfl))
  (pss_one (ps_if (pt_cmp (pc_dnotin (hu_of hr) (pv 3) (pv 2)) (by rfl))
  (pss_cons (ps_dput (hu_of hr) (pv 2) (pv 3) pe_int rfl)
  (pss_one (ps_expr (pe_call (ok_spread T) (hr.mono (by decide)) (by rfl) T.m_spread T.k_spread T.b_spread .nil passL (pa_cons (pv 2) (pa_cons (pv 1) pa_nil))))))
  pss_nil)))
  (pss_one (ps_ret (pe_ifExp (pt_val (pe_callB (cr_all rfl) (by rfl) T.z_all (by decide +kernel) (pa_cons (pe_lc (own := [("begun", 4), ("_", 5), ("end", 6), ("gain", 7)]) (g := (gTup K 4 (gCons (gName 4) (gCons (gName 5) (gCons (gName 6) (gCons (gName 7) gNil)))))) (tt := tYes) rfl sc_numbers.nd (pi_list (pv 1)) (blkOk_by (own := [("begun", 4), ("_", 5), ("end", 6), ("gain", 7)]) (N := ["many", "steps", "numbers", "stand", "begun", "_", "end", "gain"]) (sc := defScope s_numbers) (by decide +kernel)) (fun _ _ _ _ _ => (pg_tup rfl (pgs_cons (pg_name (i := 4) sc_numbers.nd rfl (Or.inl rfl)) (pgs_cons (pg_name (i := 5) sc_numbers.nd rfl (Or.inl rfl)) (pgs_cons (pg_name (i := 6) sc_numbers.nd rfl (Or.inl rfl)) (pgs_cons (pg_name (i := 7) sc_numbers.nd rfl (Or.inl rfl)) pgs_nil)))))) (fun _ _ _ _ _ => pts_nil) (fun _ _ _ _ _ => (pe_cmpR op_eq (pe_op op_sub (pe_dget (hu_of hr) (pv 2) (pv 6) (fun _ _ => rfl)) (pe_dget (hu_of hr) (pv 2) (pv 4) (fun _ _ => rfl))) (pv 7) (nomark _)))) pa_nil))) (pv 2) pe_non)))))), ?_⟩
    walk_at "begin"
    walk_at "go"
    intro D hD
    have npD : p ≠ D := ne_of_none hp hD
    walk_at "go"
    refine k_rg (by omega) (by omega) ?_
    refine for_range (lo := 0) (n := ((N : Nat) : Int).toNat) (fun i σ H' => ∃ kvs a3, Same H H' ∧ H' D = some (.dK kvs) ∧ NumD N kvs (numG ss i) ∧ σ = [some (.int (N : Nat)), some (.ref p), some (.ref D), a3, none, none, none, none])
      ⟨[], _, Same.new hD, upd_same, ⟨⟨fun q hq => absurd hq (by simp), fun n => rfl⟩, by simp, fun n u e => by cases e⟩, rfl⟩ ?_ ?_
    · rintro i σ H1 hi ⟨kvs, a3, z1, eD, nd, rfl⟩
      have iN : i < N := hi
      have z0 : (0 + (i : Nat) : Int) = ((i : Nat) : Int) := by omega
      rw [z0]
      have small := nd.small n64
      walk_at "go"
      refine ⟨D, _, rfl, DGet.k (k := .inl (i : Int)) eD, ?_⟩
      walk_at "go"
      rw [nd.kv.2 i]
      cases e : numG ss i i with
      | some x =>
        refine iteF ?_
        walk_at "go"
        refine ⟨kvs, _, z1, eD, ?_, rfl⟩
        have : numG ss (i + 1) = numG ss i := by
          show (match numG ss i i with | some _ => numG ss i | none => _) = _
          rw [e]
        rw [this]
        exact nd
      | none =>
        refine iteT ?_
        walk_at "go"
        refine ⟨D, _, rfl, DPut.k (k := .inl (i : Int)) eD small, ?_⟩
        walk_at "go"
        have K1 : Keep D H (upd H1 D (.dK (putK kvs (.inl (i : Int)) (.int 0)))) := (Keep.of_same z1).trans Keep.at_
        have zz := K1.same0 hD
        refine ⟨D, p, us, ss, N, _, _, rfl, zz _ _ hp, (same_tups zz).steps hs, o, upd_same, nd.put iN 0, fun kvs' H' K2 e2 nd2 => ?_⟩
        walk_at "go"
        refine ⟨kvs', _, (K1.trans K2).same0 hD, e2, ?_, rfl⟩
        have : numG ss (i + 1) = spI ss ss.length (putL (numG ss i) i 0) := by
          show (match numG ss i i with | some _ => numG ss i | none => _) = _
          rw [e]
        rw [this]
        exact nd2
    · rintro σ H1 ⟨kvs, a3, z1, eD, nd, rfl⟩
      rw [show (((N : Nat) : Int)).toNat = N from rfl] at nd
      walk_at "go"
      refine ⟨p, rfl, ⟨_, SqL.of (z1 _ _ hp)⟩, fun L hL => ?_⟩
      have hL0 := free_of z1 hL
      refine lc_list (xs := us) (fun i H' => Same H1 H' ∧ H' L = some (.lst ((ss.take i).map fun s => V.bl (fitB (numG ss N) s)))) ⟨Same.new hL, upd_same⟩ (fun _ H' _ ⟨z, _⟩ => SqL.of (z _ _ (z1 _ _ hp))) ?_ ?_
      · rintro j y H2 hy ⟨z2, eL⟩
        have il : j < ss.length := by rw [← hs.1]; exact (List.getElem?_eq_some_iff.mp hy).1
        have ei : ss[j]? = some (ss[j]'il) := List.getElem?_eq_getElem il
        obtain ⟨q, eq, hq⟩ := hs.2 j _ ei
        rw [hy] at eq
        cases eq
        have ok1 := o.ok _ (List.getElem_mem il)
        have tk : (ss.take (j + 1)).map (fun s => V.bl (fitB (numG ss N) s)) = (ss.take j).map (fun s => V.bl (fitB (numG ss N) s)) ++ [V.bl (fitB (numG ss N) (ss[j]'il))] := by rw [List.take_add_one, ei, List.map_append]; rfl
        rw [tk]
        generalize ss[j]'il = s0 at hq ok1 ⊢
        have lt : ((ss.take j).map (fun s => V.bl (fitB (numG ss N) s))).length < sizeLine := by
          rw [List.length_map, List.length_take]
          exact Nat.lt_of_le_of_lt (show _ ≤ 300 by omega) (by decide)
        generalize (ss.take j).map (fun s => V.bl (fitB (numG ss N) s)) = bs at eL lt ⊢
        obtain ⟨x, ex⟩ := numG_has (ss := ss) ok1.b
        obtain ⟨y, ey⟩ := numG_has (ss := ss) ok1.e
        have dgb : DGet H2 D (.int (s0.b : Nat)) (valV kvs (.inl (s0.b : Int))) := DGet.k (k := .inl (s0.b : Int)) (z2 _ _ eD)
        have dge : DGet H2 D (.int (s0.e : Nat)) (valV kvs (.inl (s0.e : Int))) := DGet.k (k := .inl (s0.e : Int)) (z2 _ _ eD)
        rw [nd.kv.2, ex] at dgb
        rw [nd.kv.2, ey] at dge
        refine k_gt ((same_tups (z1.trans z2)).sq hq) rfl ?_
        unfold stpV
        walk_at "go"
        refine ⟨rfl, ?_⟩
        walk_at "go"
        refine iteT ?_
        walk_at "go"
        refine ⟨D, _, rfl, dge, ?_⟩
        walk_at "go"
        refine ⟨D, _, rfl, dgb, ?_⟩
        walk_at "go"
        refine ⟨bs, eL, lt, Same.mut z2 hL, ?_⟩
        rw [upd_same, dec_int]
        have : fitB (numG ss N) s0 = decide (y - x = s0.g) := by unfold fitB; rw [ex, ey]; rfl
        rw [this]
      · rintro H2 ⟨z2, eL⟩
        rw [hs.1, List.take_length] at eL
        have em : (ss.map fun s => V.bl (fitB (numG ss N) s)) = (ss.map (fitB (numG ss N))).map V.bl := by rw [List.map_map]; rfl
        rw [em] at eL
        walk_at "go"
        refine ⟨L, _, rfl, SqL.of eL, ?_⟩
        walk_at "go"
        have ea : (ss.map (fitB (numG ss N))).all id = ss.all (fitB (numG ss N)) := by rw [List.all_map]; rfl
        rw [ea]
        refine k_bool (fun c => ?_) (fun c => ?_)
        · walk_at "go"
          exact k1 c D kvs H2 (z1.trans z2) hD (z2 _ _ eD) nd
        · walk_at "go"
          exact k2 c H2 (z1.trans z2)
end
/-! ### the steps at some places, but for those of a set -/
def subS (ss : List Stp) (ps qs : List Nat) : List Stp := (ps.filter fun p => decide (p ∉ qs)).filterMap fun p => ss[p]?
theorem subS_take {ss : List Stp} {ps qs : List Nat} {i p : Nat} (h : ps[i]? = some p) : subS ss (ps.take (i + 1)) qs = subS ss (ps.take i) qs ++ (if p ∈ qs then [] else (ss[p]?).toList) := by
  unfold subS
  rw [List.take_add_one, h, List.filter_append, List.filterMap_append]
  congr 1
  by_cases c : p ∈ qs
  · rw [if_pos c]
    simp [c]
  · rw [if_neg c]
    cases e : ss[p]? with
    | none => simp [c, e]
    | some s => simp [c, e]
theorem subS_mem {ss : List Stp} {ps qs : List Nat} {s : Stp} : s ∈ subS ss ps qs ↔ ∃ p ∈ ps, p ∉ qs ∧ ss[p]? = some s := by
  unfold subS
  rw [List.mem_filterMap]
  constructor
  · rintro ⟨p, hp, e⟩
    rw [List.mem_filter] at hp
    exact ⟨p, hp.1, of_decide_eq_true hp.2, e⟩
  · rintro ⟨p, h1, h2, e⟩
    exact ⟨p, List.mem_filter.mpr ⟨h1, decide_eq_true h2⟩, e⟩
theorem subS_len {ss : List Stp} {ps qs : List Nat} : (subS ss ps qs).length ≤ ps.length := Nat.le_trans (List.length_filterMap_le ..) (List.length_filter_le ..)
theorem subS_ok {m : MD} (o : m.Ok) {ps qs : List Nat} (l : ps.length ≤ 300) : SsOk m.n (subS m.ss ps qs) := ⟨o.n1, by have := o.n8; omega, fun s h => by
  obtain ⟨p, _, _, e⟩ := subS_mem.mp h
  exact o.sok.ok s (List.mem_of_getElem? e), Nat.le_trans subS_len l⟩
def sp_without (K : PySem.W.Frag) (C : Addr) : Sp := fun vs H Q _ => ∃ (x pp t : Addr) (m : MD) (ps qs : List Nat), vs = [.ref x, .ref pp, .ref t] ∧ MAt K C H x m ∧ m.Ok ∧ H pp = some (.lst (nats ps)) ∧ SqT K H t (nats qs) ∧ (∀ p ∈ ps, p < m.ss.length) ∧ ps.length ≤ 300 ∧
  ((subS m.ss ps qs).all (fitB (numG (subS m.ss ps qs) m.n)) = true → ∀ D kvs H', Same H H' → H D = none → H' D = some (.dK kvs) → NumD m.n kvs (numG (subS m.ss ps qs) m.n) → Q (.ref D) H') ∧
  ((subS m.ss ps qs).all (fitB (numG (subS m.ss ps qs) m.n)) = false → ∀ H', Same H H' → Q .non H')
section
variable {P : Program} {w : World} {K : PySem.W.Frag} {mg : Str → Option Value} {base : Heap}
theorem ok_numbers_without (T : Txt K mg) : FnOk P w K mg base (L2.CX P w) 3 T.a_numbers_without T.fd_numbers_without ["machine", "places", "some"] (sp_without K T.c_Machine) := by
  refine T.F_numbers_without.okX sc_numbers_without (fun vs H Q E h => ?_) (fun cdv A outer s H vs Q E hr h => ?_)
  · obtain ⟨x, pp, t, m, ps, qs, rfl, _⟩ := h
    rfl
  · obtain ⟨x, pp, t, m, ps, qs, rfl, hm, o, hpp, ht, bp, lp, k1, k2⟩ := h
    obtain ⟨dx, tt, u, hx, hp0⟩ := id hm
    refine ⟨_, (PSs.nox (pss_one (ps_ret (pe_call (ok_numbers T) (hr.mono (by decide)) (by rfl) T.m_numbers T.k_numbers T.b_numbers .nil passL (pa_cons (pe_prop (pv 0) T.cl_Machine T.p_stands (ok_Machine_stands T) (hr.mono (by decide)) T.b_Machine_stands .nil passL rfl) (pa_cons (pe_lc (own := [("place", 3)]) (g := (gName 3)) rfl sc_numbers_without.nd (pi_list (pv 1)) (blkOk_by (own := [("place", 3)]) (N := ["machine", "places", "some", "place"]) (sc := defScope s_numbers_without) (by decide +kernel)) (fun _ _ _ _ _ => (pg_name (i := 3) sc_numbers_without.nd rfl (Or.inl rfl))) (fun _ _ _ _ _ => (pts_one (pt_cmpR (show OpR _ _ (rIn K true) from op_notIn_seq) (pv 3) (pv 2) (by rfl)))) (fun _ _ _ _ _ => (pe_ix (show IxR _ (rIxT K) from ix_tup) (pe_prop (pv 0) T.cl_Machine T.p_steps (ok_Machine_steps T) (hr.mono (by decide)) T.b_Machine_steps .nil passL rfl) (pv 3) (fun _ _ => rfl)))) pa_nil)))))), ?_⟩
    walk_at "begin"
    walk_at "go"
    refine ⟨x, dx, _, rfl, hx, x, dx, _, .int (m.n : Nat), rfl, hx, rfl, ?_⟩
    walk_at "go"
    refine ⟨pp, rfl, ⟨_, SqL.of hpp⟩, fun L hL => ?_⟩
    obtain ⟨us, hs, hu⟩ := id hp0.1
    refine lc_list (xs := nats ps) (fun i H' => Same H H' ∧ ∃ vs, H' L = some (.lst vs) ∧ StpsAt K H vs (subS m.ss (ps.take i) qs)) ⟨Same.new hL, [], upd_same, rfl, fun i s e => by simp [subS] at e⟩ (fun _ H' _ ⟨z, _⟩ => SqL.of (z _ _ hpp)) ?_ ?_
    · rintro j y H2 hy ⟨z2, vs, eL, hv⟩
      obtain ⟨n, en, rfl⟩ := nats_at hy
      have hn : n ∈ ps := List.mem_of_getElem? en
      have il := bp n hn
      rw [subS_take en]
      walk_at "go"
      refine ⟨rfl, ?_⟩
      walk_at "go"
      refine k_in (.inr ((same_tups z2).sq ht)) rfl (flat_nats _) ?_
      rw [inV_nats]
      walk_at "go"
      refine k_iteN (fun c => ?_) (fun c => ?_)
      · rw [if_pos c, List.append_nil]
        exact ⟨z2, vs, eL, hv⟩
      · rw [if_neg c]
        have ei : m.ss[n]? = some (m.ss[n]'il) := List.getElem?_eq_getElem il
        obtain ⟨q, eq, hq⟩ := hu.2 n _ ei
        walk_at "go"
        refine ⟨x, dx, _, rfl, z2 _ _ hx, x, dx, _, .ref tt, rfl, z2 _ _ hx, rfl, ?_⟩
        walk_at "go"
        refine k_ixT ((same_tups z2).sq hs) (v := .ref q) (at_of (j := n) (by omega) eq) ?_
        refine ⟨vs, eL, ?_, Same.mut z2 hL, vs ++ [.ref q], upd_same, ?_⟩
        · rw [hv.1]
          have := subS_len (ss := m.ss) (ps := ps.take j) (qs := qs)
          rw [List.length_take] at this
          exact Nat.lt_of_le_of_lt (show _ ≤ 300 by omega) (by decide)
        · rw [ei]
          exact hv.snoc hq
    · rintro H2 ⟨z2, vs, eL, hv⟩
      have : (nats ps).length = ps.length := by unfold nats; rw [List.length_map]
      rw [this, List.take_length] at hv
      walk_at "go"
      refine ⟨L, vs, _, m.n, rfl, eL, (same_tups z2).steps hv, subS_ok o lp, fun c D kvs H' z3 hD eD nd => k1 c D kvs H' (z2.trans z3) (free_of z2 hD) eD nd, fun c H' z3 => k2 c H' (z2.trans z3)⟩
end
/-! ### mended, where it comes through -/
theorem FnOk.imp {P : Program} {w : World} {K : PySem.W.Frag} {mg : Str → Option Value} {base : Heap} {CX : CXT} {k : Nat} {f : Addr} {fd : FuncData} {ps : List Str} {sp sp' : Sp} (F : FnOk P w K mg base CX k f fd ps sp) (i : ∀ vs H Q E, sp' vs H Q E → sp vs H Q E) :
    FnOk P w K mg base CX k f fd ps sp' :=
  ⟨fun vs H Q E q => F.len vs H Q E (i _ _ _ _ q), fun A outer s H args us vs Q E hr he hb hv hs => F.run A outer s H args us vs Q E hr he hb hv (i _ _ _ _ hs)⟩
def mendS (ss : List Stp) (f : LF) (qs : List Nat) : List Stp := ss.mapIdx fun i s => if i ∈ qs then { s with g := (f s.e).getD 0 - (f s.b).getD 0 } else s
theorem mendS_at {ss : List Stp} {f : LF} {qs : List Nat} {i : Nat} {s : Stp} (h : ss[i]? = some s) : (mendS ss f qs)[i]? = some (if i ∈ qs then { s with g := (f s.e).getD 0 - (f s.b).getD 0 } else s) := by
  unfold mendS
  rw [List.getElem?_mapIdx, h]
  rfl
theorem mendS_len {ss : List Stp} {f : LF} {qs : List Nat} : (mendS ss f qs).length = ss.length := by unfold mendS; exact List.length_mapIdx
def sp_mended_ok (K : PySem.W.Frag) (C : Addr) : Sp := fun vs H Q _ => ∃ (x t : Addr) (m : MD) (qs : List Nat), vs = [.ref x, .ref t] ∧ MAt K C H x m ∧ m.Ok ∧ m.ss.length ≤ 12 ∧ SqT K H t (nats qs) ∧ (∀ q ∈ qs, q < m.ss.length) ∧ qs.Pairwise (· < ·) ∧
  ∀ ps, PlacesOf m ps →
    ((subS m.ss ps qs).all (fitB (numG (subS m.ss ps qs) m.n)) = true → ∀ r H', Same H H' → H r = none → StAt K H' r (mendS m.ss (numG (subS m.ss ps qs) m.n) qs) → Q (.ref r) H') ∧
    ((subS m.ss ps qs).all (fitB (numG (subS m.ss ps qs) m.n)) = false → ∀ H', Same H H' → Q .non H')
section
variable {P : Program} {w : World} {K : PySem.W.Frag} {mg : Str → Option Value} {base : Heap}
theorem ok_check_steps_mends (T : Txt K mg) : FnOk P w K mg base (L2.CX P w) 4 T.a_check_steps_mends T.fd_check_steps_mends ["machine"] (fun vs H Q _ => ∃ (x : Addr) (m : MD), vs = [.ref x] ∧ MAt K T.c_Machine H x m ∧ m.Ok ∧ m.ss.length ≤ 12 ∧ Q .non H) := by
  refine T.F_check_steps_mends.okX sc_check_steps_mends (fun vs H Q E h => ?_) (fun cdv A outer s H vs Q E hr h => ?_)
  · obtain ⟨x, m, rfl, _⟩ := h
    rfl
  · obtain ⟨x, m, rfl, hm, o, hl, k⟩ := h
    obtain ⟨dx, t, u, hx, hp0⟩ := id hm
    refine ⟨_, (PSs.nox (pss_one (ps_if (pt_cmpR op_gt (pe_callB call_len_seq (by rfl) T.z_len PySem.boot_len (pa_cons (pe_prop (pv 0) T.cl_Machine T.p_steps (ok_Machine_steps T) (hr.mono (by decide)) T.b_Machine_steps .nil passL rfl) pa_nil)) (pe_glob (by rfl) T.m_MOST_STEPS T.r_MOST_STEPS) (nomark _))
  (pss_one ps_never)
  pss_nil))), ?_⟩
    walk_at "begin"
    walk_at "go"
    refine ⟨x, dx, _, rfl, hx, x, dx, _, .ref t, rfl, hx, rfl, ?_⟩
    walk_at "go"
    obtain ⟨us, hs, hu⟩ := id hp0.1
    have e : us.length = m.ss.length := hu.1
    refine ⟨t, us, rfl, .inr hs, ?_⟩
    walk_at "go"
    rw [decide_eq_false (show ¬ ((12 : Int) < (us.length : Int)) by omega)]
    refine iteF ?_
    walk_at "go"
    exact k
theorem ok_mended (T : Txt K mg) : FnOk P w K mg base (L2.CX P w) 9 T.a_mended T.fd_mended ["machine", "some"] (sp_mended_ok K T.c_Machine) := by
  refine T.F_mended.okX sc_mended (fun vs H Q E h => ?_) (fun cdv A outer s H vs Q E hr h => ?_)
  · obtain ⟨x, t, m, qs, rfl, _⟩ := h
    rfl
  · obtain ⟨x, t, m, qs, rfl, hm, o, l12, ht, bq, uq, k⟩ := h
    obtain ⟨dx, tt, u, hx, hp0⟩ := id hm
    obtain ⟨us, hs, hu⟩ := id hp0.1
    have elen : us.length = m.ss.length := hu.1
    refine ⟨_, (PSs.nox (pss_cons (ps_expr (pe_call (ok_check_machine T) (hr.mono (by decide)) (by rfl) T.m_check_machine T.k_check_machine T.b_check_machine .nil passL (pa_cons (pv 0) pa_nil)))
  (pss_cons (ps_expr (pe_call (ok_check_steps_mends T) (hr.mono (by decide)) (by rfl) T.m_check_steps_mends T.k_check_steps_mends T.b_check_steps_mends .nil passL (pa_cons (pv 0) pa_nil)))
  (pss_cons (ps_if (pt_not (pt_val (pe_call (ok_is_ascending T) (hr.mono (by decide)) (by rfl) T.m_is_ascending T.k_is_ascending T.b_is_ascending .nil passL (pa_cons (pv 1) (pa_cons (pe_callB call_len_seq (by rfl) T.z_len PySem.boot_len (pa_cons (pe_prop (pv 0) T.cl_Machine T.p_steps (ok_Machine_steps T) (hr.mono (by decide)) T.b_Machine_steps .nil passL rfl) pa_nil)) pa_nil)))))
  (pss_one ps_never)
  pss_nil)
  (pss_cons (ps_set (i := 2) sc_mended.nd rfl (Or.inr rfl) (pe_call (ok_numbers_without T) (hr.mono (by decide)) (by rfl) T.m_numbers_without T.k_numbers_without T.b_numbers_without .nil passL (pa_cons (pv 0) (pa_cons (pe_call (ok_places_on_loops T) (hr.mono (by decide)) (by rfl) T.m_places_on_loops T.k_places_on_loops T.b_places_on_loops .nil passL (pa_cons (pv 0) pa_nil)) (pa_cons (pv 1) pa_nil)))))
  (pss_cons (ps_if (pt_cmp (pc_isN (pv 2)))
  (pss_one (ps_ret pe_non))
  pss_nil)
  (pss_one (ps_ret (pe_callTy call_tuple_of (by rfl) T.z_tuple PySem.Pv.boot_tuple (pa_cons (pe_lc (own := [("place", 3), ("begun", 4), ("letter", 5), ("end", 6), ("gain", 7)]) (g := (gTup K 2 (gCons (gName 3) (gCons (gTup K 4 (gCons (gName 4) (gCons (gName 5) (gCons (gName 6) (gCons (gName 7) gNil))))) gNil)))) (tt := tYes) rfl sc_mended.nd (pi_enumT (by rfl) T.z_enumerate (pa_cons (pe_prop (pv 0) T.cl_Machine T.p_steps (ok_Machine_steps T) (hr.mono (by decide)) T.b_Machine_steps .nil passL rfl) pa_nil)) (blkOk_by (own := [("place", 3), ("begun", 4), ("letter", 5), ("end", 6), ("gain", 7)]) (N := ["machine", "some", "numbers", "place", "begun", "letter", "end", "gain"]) (sc := defScope s_mended) (by decide +kernel)) (fun _ _ _ _ _ => (pg_tup rfl (pgs_cons (pg_name (i := 3) sc_mended.nd rfl (Or.inl rfl)) (pgs_cons (pg_tup rfl (pgs_cons (pg_name (i := 4) sc_mended.nd rfl (Or.inl rfl)) (pgs_cons (pg_name (i := 5) sc_mended.nd rfl (Or.inl rfl)) (pgs_cons (pg_name (i := 6) sc_mended.nd rfl (Or.inl rfl)) (pgs_cons (pg_name (i := 7) sc_mended.nd rfl (Or.inl rfl)) pgs_nil))))) pgs_nil)))) (fun _ _ _ _ _ => pts_nil) (fun _ _ _ _ _ => (pe_tup (pa_cons (pv 4) (pa_cons (pv 5) (pa_cons (pv 6) (pa_cons (pe_ifExp (pt_cmpR (show OpR _ _ (rIn K false) from op_in_seq) (pv 3) (pv 1) (by rfl)) (pe_op op_sub (pe_dget (hu_of hr) (pv 2) (pv 6) (fun _ _ => rfl)) (pe_dget (hu_of hr) (pv 2) (pv 4) (fun _ _ => rfl))) (pv 7)) pa_nil))))))) pa_nil)))))))))), ?_⟩
    walk_at "begin"
    walk_at "go"
    refine ⟨x, dx, _, rfl, hx, ?_⟩
    walk_at "go"
    refine ⟨x, m, rfl, hm, o, l12, ?_⟩
    walk_at "go"
    refine ⟨x, dx, _, rfl, hx, x, dx, _, .ref tt, rfl, hx, rfl, ?_⟩
    walk_at "go"
    refine ⟨tt, us, rfl, .inr hs, ?_⟩
    walk_at "go"
    refine ⟨_, _, rfl, .inr ⟨t, _, rfl, ht, fun x h => ?_, ?_⟩⟩
    · obtain ⟨e, _, rfl⟩ := List.mem_map.mp h
      exact .inl ⟨_, rfl⟩
    rw [elen, show ascV (m.ss.length : Nat) 0 (nats qs) = true from ascV_nats (l := 0) bq uq (fun _ _ => Nat.zero_le _)]
    walk_at "go"
    refine iteF ?_
    walk_at "go"
    refine ⟨x, m, rfl, hm, o, fun pp ps H1 z1 hpp epp pl => ?_⟩
    obtain ⟨ka, kb⟩ := k ps pl
    have hm1 := hm.same z1
    walk_at "go"
    refine ⟨x, pp, t, m, ps, qs, rfl, hm1, o, epp, (same_tups z1).sq ht, pl.lt, Nat.le_trans pl.len (by have := o.len; omega), fun c D kvs H2 z2 hD eD nd => ?_, fun c H2 z2 => ?_⟩
    · walk_at "go"
      refine k_no (decide_eq_false (fun z => by cases z)) ?_
      walk_at "go"
      unfold iEnumT
      walk_at "go"
      have z12 := z1.trans z2
      have hx2 := z12 _ _ hx
      have hs2 := (same_tups z12).sq hs
      refine ⟨x, dx, _, rfl, hx2, x, dx, _, .ref tt, rfl, hx2, rfl, ?_⟩
      walk_at "go"
      refine ⟨tt, us, rfl, hs2, fun L hL => ?_⟩
      obtain ⟨f, ef⟩ : ∃ f, f = numG (subS m.ss ps qs) m.n := ⟨_, rfl⟩
      rw [← ef] at nd ka c
      refine lc_it walk_enumT (fun i H' => Same H2 H' ∧ ∃ vs, H' L = some (.lst vs) ∧ StpsAt K H' vs ((mendS m.ss f qs).take i)) ⟨Same.new hL, [], upd_same, by simp, fun i s e => by simp at e⟩ (fun i H' _ ⟨z, _⟩ => (same_tups z).sq hs2) ?_ ?_
      · rintro i y H3 H4 hi ⟨z, vs, eL, hv⟩ ⟨p, w', rfl, hp, rfl, hw⟩
        have il : i < m.ss.length := by rw [← elen]; exact hi
        have ei : m.ss[i]? = some (m.ss[i]'il) := List.getElem?_eq_getElem il
        obtain ⟨pw, eq, hq⟩ := hu.2 i _ ei
        rw [hw] at eq
        cases eq
        have o0 := o.ok _ (List.getElem_mem il)
        have em := mendS_at (f := f) (qs := qs) ei
        have tk : (mendS m.ss f qs).take (i + 1) = (mendS m.ss f qs).take i ++ [if i ∈ qs then { (m.ss[i]'il) with g := (f (m.ss[i]'il).e).getD 0 - (f (m.ss[i]'il).b).getD 0 } else m.ss[i]'il] := by rw [List.take_add_one, em]; rfl
        rw [tk]
        generalize m.ss[i]'il = s0 at hq o0 ⊢
        have z3 : Same H2 (upd H3 p (.tup [.int (i : Nat), .ref pw])) := z.trans (Same.new hp)
        have eL3 : (upd H3 p (.tup [.int (i : Nat), .ref pw])) L = some (.lst vs) := by rw [upd_ne (ne_of_none eL hp)]; exact eL
        have hv3 := (Tups.new (o := .tup [.int (i : Nat), .ref pw]) hp).steps hv
        have lt : vs.length < sizeLine := by
          rw [hv.1, List.length_take]
          exact Nat.lt_of_le_of_lt (show _ ≤ 12 by rw [mendS_len]; omega) (by decide)
        refine k_gt (SqT.of upd_same) rfl ?_
        walk_at "go"
        refine k_gt ((same_tups (z12.trans z3)).sq hq) rfl ?_
        unfold stpV
        walk_at "go"
        refine ⟨rfl, ?_⟩
        walk_at "go"
        refine iteT ?_
        generalize upd H3 p (.tup [.int (i : Nat), .ref pw]) = H4 at z3 eL3 hv3 ⊢
        walk_at "go"
        have fin : ∀ g : Int, (if i ∈ qs then { s0 with g := (f s0.e).getD 0 - (f s0.b).getD 0 } else s0) = { s0 with g := g } → 4 ≤ sizeLine ∧ ∀ q, H4 q = none → ∃ acc, (upd H4 q (.tup [.int (s0.b : Nat), .str ⟨#[s0.c]⟩, .int (s0.e : Nat), .int g])) L = some (.lst acc) ∧ acc.length < sizeLine ∧
            Same H2 (upd (upd H4 q (.tup [.int (s0.b : Nat), .str ⟨#[s0.c]⟩, .int (s0.e : Nat), .int g])) L (.lst (acc ++ [.ref q]))) ∧ ∃ vs', (upd (upd H4 q (.tup [.int (s0.b : Nat), .str ⟨#[s0.c]⟩, .int (s0.e : Nat), .int g])) L (.lst (acc ++ [.ref q]))) L = some (.lst vs') ∧
              StpsAt K (upd (upd H4 q (.tup [.int (s0.b : Nat), .str ⟨#[s0.c]⟩, .int (s0.e : Nat), .int g])) L (.lst (acc ++ [.ref q]))) vs' ((mendS m.ss f qs).take i ++ [if i ∈ qs then { s0 with g := (f s0.e).getD 0 - (f s0.b).getD 0 } else s0]) := fun g eg => by
          refine ⟨by decide, fun q hq4 => ?_⟩
          have eL5 : (upd H4 q (.tup [.int (s0.b : Nat), .str ⟨#[s0.c]⟩, .int (s0.e : Nat), .int g])) L = some (.lst vs) := by rw [upd_ne (ne_of_none eL3 hq4)]; exact eL3
          refine ⟨vs, eL5, lt, Same.mut (z3.trans (Same.new hq4)) hL, vs ++ [.ref q], upd_same, ?_⟩
          rw [eg]
          exact (Tups.lst eL5).steps (((Tups.new hq4).steps hv3).snoc (SqT.of upd_same))
        refine k_in (.inr ((same_tups (z12.trans z3)).sq ht)) rfl (flat_nats _) ?_
        rw [inV_nats]
        walk_at "go"
        refine k_ite (fun c => ?_) (fun c => ?_)
        · have nh : ∀ n, n < m.n → ∃ v, f n = some v := fun n hn => by rw [ef]; exact numG_has hn
          obtain ⟨xb, exb⟩ := nh _ o0.b
          obtain ⟨xe, exe⟩ := nh _ o0.e
          have dgb : DGet H4 D (.int (s0.b : Nat)) (valV kvs (.inl (s0.b : Int))) := DGet.k (k := .inl (s0.b : Int)) (z3 _ _ eD)
          have dge : DGet H4 D (.int (s0.e : Nat)) (valV kvs (.inl (s0.e : Int))) := DGet.k (k := .inl (s0.e : Int)) (z3 _ _ eD)
          rw [nd.kv.2, exb] at dgb
          rw [nd.kv.2, exe] at dge
          walk_at "go"
          refine ⟨D, _, rfl, dge, ?_⟩
          walk_at "go"
          refine ⟨D, _, rfl, dgb, ?_⟩
          walk_at "go"
          exact fin (xe - xb) (by rw [if_pos c, exb, exe]; rfl)
        · walk_at "go"
          exact fin s0.g (by rw [if_neg c])
      · rintro H3 ⟨z, vs, eL, hv⟩
        rw [elen, ← mendS_len (f := f) (qs := qs), List.take_length] at hv
        walk_at "go"
        refine ⟨L, vs, rfl, .inl ⟨SqL.of eL, fun r hr => ?_⟩⟩
        walk_at "go"
        have zz := z12.trans z
        exact ka c r _ (zz.trans (Same.new hr)) (free_of zz hr) ⟨vs, SqT.of upd_same, (Tups.new hr).steps hv⟩
    · walk_at "go"
      refine k_yes (decide_eq_true rfl) ?_
      walk_at "go"
      exact kb c H2 (z1.trans z2)
end
/-! ### all combinations, in order -/
/-- the ascending lists of k of the things, ascending -/
def subL (xs : List Nat) : Nat → List (List Nat)
  | 0 => [[]]
  | k + 1 => (subL xs k).flatMap fun s => (xs.filter fun x => match s.getLast? with
    | none => true
    | some y => decide (y < x)).map fun x => s ++ [x]
def runC (n : Nat) : Nat → Option (List Nat) → List (List Nat)
  | 0, _ => []
  | _ + 1, none => []
  | f + 1, some ix => ix :: runC n f (nextC n ix)
/-- from the i-th on -/
def itC (n : Nat) (o : Option (List Nat)) : Nat → Option (List Nat)
  | 0 => o
  | i + 1 => (itC n o i).bind (nextC n)
theorem itC_succ (n : Nat) (o : Option (List Nat)) : ∀ i, itC n o (i + 1) = itC n (o.bind (nextC n)) i
  | 0 => rfl
  | i + 1 => by
    show (itC n o (i + 1)).bind (nextC n) = (itC n (o.bind (nextC n)) i).bind (nextC n)
    rw [itC_succ n o i]
theorem itC_none (n : Nat) : ∀ i, itC n none i = none
  | 0 => rfl
  | i + 1 => by
    show (itC n none i).bind (nextC n) = none
    rw [itC_none n i]
    rfl
theorem runC_at (n : Nat) : ∀ (f : Nat) (o : Option (List Nat)), (runC n f o).length < f → ∀ i, itC n o i = (runC n f o)[i]?
  | 0, _, h, _ => nomatch h
  | f + 1, none, _, i => by
    rw [itC_none]
    rfl
  | f + 1, some ix, h, i => by
    have h2 : (runC n f (nextC n ix)).length < f := by
      have h : (runC n f (nextC n ix)).length + 1 < f + 1 := h
      omega
    cases i with
    | zero => rfl
    | succ i =>
      rw [itC_succ]
      show itC n (nextC n ix) i = (runC n f (nextC n ix))[i]?
      exact runC_at n f _ h2 i
theorem cseq_itC (n r : Nat) : ∀ i, cseq n r i = itC n (if r > n then none else some (List.range r)) i
  | 0 => rfl
  | i + 1 => by
    show (cseq n r i).bind (nextC n) = (itC n _ i).bind (nextC n)
    rw [cseq_itC n r i]
def runOk (n r : Nat) : Prop := runC n 1000 (if r > n then none else some (List.range r)) = subL (List.range n) r ∧ (subL (List.range n) r).length < 1000
instance (n r : Nat) : Decidable (runOk n r) := by unfold runOk; infer_instance
theorem runC_le : ∀ n, n < 11 → ∀ r, r < 13 → runOk n r := by decide +kernel
theorem runC_11 : ∀ r, r < 13 → runOk 11 r := by decide +kernel
theorem runC_12_0 : ∀ r, r < 5 → runOk 12 (0 + r) := by decide +kernel
theorem runC_12_5 : ∀ r, r < 1 → runOk 12 (5 + r) := by decide +kernel
theorem runC_12_6 : ∀ r, r < 1 → runOk 12 (6 + r) := by decide +kernel
theorem runC_12_7 : ∀ r, r < 6 → runOk 12 (7 + r) := by decide +kernel
theorem runC_all (n : Nat) (hn : n < 13) (r : Nat) (hr : r < 13) : runOk n r := by
  by_cases h : n < 11
  · exact runC_le n h r hr
  · have : n = 11 ∨ n = 12 := by omega
    rcases this with rfl | rfl
    · exact runC_11 r hr
    · by_cases h1 : r < 5
      · rw [show r = 0 + r by omega]; exact runC_12_0 r h1
      · by_cases h2 : r < 6
        · rw [show r = 5 + (r - 5) by omega]; exact runC_12_5 _ (by omega)
        · by_cases h3 : r < 7
          · rw [show r = 6 + (r - 6) by omega]; exact runC_12_6 _ (by omega)
          · rw [show r = 7 + (r - 7) by omega]; exact runC_12_7 _ (by omega)
theorem cseq_sub {n r : Nat} (hn : n ≤ 12) (hr : r ≤ 12) (i : Nat) : cseq n r i = (subL (List.range n) r)[i]? := by
  obtain ⟨h1, h2⟩ := runC_all n (by omega) r (by omega)
  rw [cseq_itC, runC_at n 1000 _ (by rw [h1]; exact h2), h1]
/-! ### the combinations of ascending numbers -/
theorem flatMap_same {A B : Type} {f g : A → List B} : ∀ {l : List A}, (∀ a ∈ l, f a = g a) → l.flatMap f = l.flatMap g
  | [], _ => rfl
  | a :: l, h => by
    rw [List.flatMap_cons, List.flatMap_cons, h a (List.mem_cons_self ..), flatMap_same fun b hb => h b (List.mem_cons_of_mem _ hb)]
theorem nats_getD (ps : List Nat) (ix : List Nat) (h : ∀ i ∈ ix, i < ps.length) : pickV (nats ps) ix = nats (ix.map fun i => ps.getD i 0) := by
  unfold pickV nats
  rw [List.map_map]
  refine List.map_congr_left fun i hi => ?_
  have := h i hi
  show (ps.map fun n : Nat => V.int (n : Int)).getD i V.non = V.int ((ps.getD i 0 : Nat) : Int)
  rw [List.getD_eq_getElem?_getD, List.getD_eq_getElem?_getD, List.getElem?_map, List.getElem?_eq_getElem this]
  rfl
theorem filter_of {A B : Type} {ps : List A} {xs : List B} {g : B → A} (h : ps = xs.map g) (p : A → Bool) : ps.filter p = (xs.filter (p ∘ g)).map g := by rw [h, List.filter_map]
theorem mf_congr {A B : Type} {l : List A} {p q : A → Bool} {f g : A → B} (h : ∀ x ∈ l, p x = q x) (e : ∀ x, f x = g x) : (l.filter p).map f = (l.filter q).map g := by
  rw [List.filter_congr h, show f = g from funext e]
theorem subL_in {xs : List Nat} : ∀ {k : Nat} {s : List Nat}, s ∈ subL xs k → ∀ x ∈ s, x ∈ xs
  | 0, s, h => by
    rw [List.mem_singleton.mp h]
    exact fun x hx => absurd hx (by simp)
  | k + 1, s, h => by
    unfold subL at h
    obtain ⟨s0, h0, h⟩ := List.mem_flatMap.mp h
    obtain ⟨y, hy, rfl⟩ := List.mem_map.mp h
    intro x hx
    rcases List.mem_append.mp hx with hx | hx
    · exact subL_in h0 x hx
    · rw [List.mem_singleton.mp hx]
      exact (List.mem_filter.mp hy).1
theorem subL_map {ps : List Nat} (up : ps.Pairwise (· < ·)) : ∀ k, subL ps k = (subL (List.range ps.length) k).map fun ix => ix.map fun i => ps.getD i 0
  | 0 => rfl
  | k + 1 => by
    show (subL ps k).flatMap _ = ((subL (List.range ps.length) k).flatMap _).map _
    rw [subL_map up k, List.flatMap_map, List.map_flatMap]
    refine flatMap_same fun ix hix => ?_
    have hps : ps = (List.range ps.length).map fun i => ps.getD i 0 := by
      refine List.ext_getElem? fun i => ?_
      rw [List.getElem?_map]
      by_cases c : i < ps.length
      · rw [List.getElem?_range c, List.getElem?_eq_getElem c]
        show _ = some (ps.getD i 0)
        rw [List.getD_eq_getElem?_getD, List.getElem?_eq_getElem c]
        rfl
      · rw [List.getElem?_eq_none (by omega), List.getElem?_eq_none (by rw [List.length_range]; omega)]
        rfl
    have lt : ∀ x y, x < ps.length → y < ps.length → (ps.getD y 0 < ps.getD x 0 ↔ y < x) := fun x y hx hy => by
      rw [List.getD_eq_getElem?_getD, List.getD_eq_getElem?_getD, List.getElem?_eq_getElem hx, List.getElem?_eq_getElem hy]
      show ps[y] < ps[x] ↔ y < x
      rw [List.pairwise_iff_getElem] at up
      constructor
      · intro h
        rcases Nat.lt_trichotomy y x with c | c | c
        · exact c
        · subst c; omega
        · have := up x y hx hy c; omega
      · exact fun h => up y x hy hx h
    rw [filter_of hps, List.map_map, List.map_map]
    refine mf_congr (fun x hx => ?_) fun x => ?_
    · show (match (ix.map fun i => ps.getD i 0).getLast? with | none => true | some y => decide (y < ps.getD x 0)) = _
      rw [List.getLast?_map]
      cases e : ix.getLast? with
      | none => rfl
      | some y =>
        show decide (ps.getD y 0 < ps.getD x 0) = decide (y < x)
        have hy := List.mem_range.mp (subL_in hix y (List.mem_of_getLast? e))
        exact decide_eq_decide.mpr (lt x y (List.mem_range.mp hx) hy)
    · show (ix.map fun i => ps.getD i 0) ++ [ps.getD x 0] = (ix ++ [x]).map fun i => ps.getD i 0
      rw [List.map_append]
      rfl
theorem subL_full {ps : List Nat} (up : ps.Pairwise (· < ·)) (l : ps.length ≤ 12) : subL ps ps.length = [ps] := by
  rw [subL_map up]
  have : ∀ n, n < 13 → subL (List.range n) n = [List.range n] := by decide +kernel
  rw [this _ (by omega)]
  show [(List.range ps.length).map fun i => ps.getD i 0] = [ps]
  congr 1
  refine List.ext_getElem? fun i => ?_
  rw [List.getElem?_map]
  by_cases c : i < ps.length
  · rw [List.getElem?_range c, List.getElem?_eq_getElem c]
    show some (ps.getD i 0) = _
    rw [List.getD_eq_getElem?_getD, List.getElem?_eq_getElem c]
    rfl
  · rw [List.getElem?_eq_none (l := List.range ps.length) (by rw [List.length_range]; omega), List.getElem?_eq_none (l := ps) (by omega)]
    rfl
theorem subL_small {ps : List Nat} (up : ps.Pairwise (· < ·)) (l : ps.length ≤ 12) {r : Nat} (hr : r ≤ 12) : (subL ps r).length < 1000 := by
  rw [subL_map up, List.length_map]
  exact (runC_all _ (by omega) _ (by omega)).2
theorem walk_comb {ps : List Nat} (up : ps.Pairwise (· < ·)) (l : ps.length ≤ 12) {r : Nat} (hr : r ≤ 12) : Walk (Itcb (nats ps) r) (subL ps r).length (fun _ => True) (fun i H v H' => ∃ T qs, (subL ps r)[i]? = some qs ∧ v = .ref T ∧ H T = none ∧ H' = upd H T (.tup (nats qs))) := by
  have el : (nats ps).length = ps.length := List.length_map _
  have em := subL_map up r
  refine ⟨fun i H c _ => ?_, fun H _ => ?_, fun i H v H' c _ y => ?_⟩
  · show ∃ ix, cseq (nats ps).length r i = some ix
    rw [el, cseq_sub l hr]
    rw [em, List.length_map] at c
    exact ⟨_, List.getElem?_eq_getElem c⟩
  · show cseq (nats ps).length r _ = none
    rw [el, cseq_sub l hr]
    exact List.getElem?_eq_none (by rw [em, List.length_map]; exact Nat.le_refl _)
  · obtain ⟨T, ix, h1, h2, h3, h4⟩ := y
    rw [el, cseq_sub l hr] at h1
    have hin := subL_in (List.mem_of_getElem? h1)
    rw [nats_getD ps ix fun i hi => List.mem_range.mp (hin i hi)] at h4
    exact ⟨T, _, by rw [em, List.getElem?_map, h1]; rfl, h2, h3, h4⟩
/-! ### tuples of numbers, in a list -/
def NsAt (K : PySem.W.Frag) (H : Hp) (us : List V) (qss : List (List Nat)) : Prop := us.length = qss.length ∧ ∀ (i : Nat) (qs : List Nat), qss[i]? = some qs → ∃ q : Addr, us[i]? = some (V.ref q) ∧ SqT K H q (nats qs)
theorem NsAt.tups {K : PySem.W.Frag} {H H' : Hp} {us : List V} {qss : List (List Nat)} (h : NsAt K H us qss) (z : Tups H H') : NsAt K H' us qss := ⟨h.1, fun i qs e => Exists.elim (h.2 i qs e) fun q ab => ⟨q, ab.1, z.sq ab.2⟩⟩
theorem NsAt.snoc {K : PySem.W.Frag} {H : Hp} {us : List V} {qss : List (List Nat)} (h : NsAt K H us qss) {q : Addr} {qs : List Nat} (e : SqT K H q (nats qs)) : NsAt K H (us ++ [V.ref q]) (qss ++ [qs]) :=
  ⟨by rw [List.length_append, List.length_append, h.1]; rfl, fun i ys hy => by
    by_cases c : i < qss.length
    · rw [List.getElem?_append_left c] at hy
      obtain ⟨p, hp, eq⟩ := h.2 i ys hy
      exact ⟨p, by rw [List.getElem?_append_left (by rw [h.1]; exact c)]; exact hp, eq⟩
    · rw [List.getElem?_append_right (by omega)] at hy
      have : i - qss.length = 0 := by
        cases hz : i - qss.length with
        | zero => rfl
        | succ k => rw [hz] at hy; cases hy
      rw [this] at hy
      cases hy
      exact ⟨q, by rw [List.getElem?_append_right (by rw [h.1]; omega), show i - us.length = 0 by rw [h.1]; omega]; rfl, e⟩⟩
theorem NsAt.nil {K : PySem.W.Frag} {H : Hp} : NsAt K H [] [] := ⟨rfl, fun i qs e => by cases i <;> cases e⟩
/-! ### _sets_that_mend, mends -/
def goodB (m : MD) (ps qs : List Nat) : Bool := (subS m.ss ps qs).all (fitB (numG (subS m.ss ps qs) m.n))
def setsL (m : MD) (ps : List Nat) (r : Nat) : List (List Nat) := (subL ps r).filter (goodB m ps)
def sp_sets (K : PySem.W.Frag) (C : Addr) : Sp := fun vs H Q _ => ∃ (x pp : Addr) (m : MD) (ps : List Nat) (r : Nat), vs = [.ref x, .ref pp, .int (r : Nat)] ∧ MAt K C H x m ∧ m.Ok ∧ H pp = some (.lst (nats ps)) ∧ (∀ p ∈ ps, p < m.ss.length) ∧ ps.Pairwise (· < ·) ∧ ps.length ≤ 12 ∧ r ≤ 12 ∧
  ∀ L us H', Same H H' → H L = none → H' L = some (.lst us) → NsAt K H' us (setsL m ps r) → Q (.ref L) H'
/-- the smallest sets that mend -/
def IsMends (m : MD) (ps : List Nat) (qss : List (List Nat)) : Prop := ∃ r, r ≤ ps.length ∧ (∀ k, k < r → setsL m ps k = []) ∧ setsL m ps r ≠ [] ∧ qss = setsL m ps r
theorem setsL_full {m : MD} {ps : List Nat} (up : ps.Pairwise (· < ·)) (l : ps.length ≤ 12) : setsL m ps ps.length = [ps] := by
  unfold setsL
  rw [subL_full up l]
  have : goodB m ps ps = true := by
    unfold goodB
    have : subS m.ss ps ps = [] := by
      cases e : subS m.ss ps ps with
      | nil => rfl
      | cons s t =>
        obtain ⟨p, h1, h2, _⟩ := subS_mem.mp (show s ∈ subS m.ss ps ps by rw [e]; exact List.mem_cons_self ..)
        exact absurd h1 h2
    rw [this]
    rfl
  rw [List.filter_cons, if_pos this]
  rfl
def sp_mends (K : PySem.W.Frag) (C : Addr) : Sp := fun vs H Q _ => ∃ (x : Addr) (m : MD), vs = [.ref x] ∧ MAt K C H x m ∧ m.Ok ∧ m.ss.length ≤ 12 ∧
  ∀ L us H' ps qss, Same H H' → H L = none → H' L = some (.lst us) → PlacesOf m ps → IsMends m ps qss → NsAt K H' us qss → Q (.ref L) H'
section
variable {P : Program} {w : World} {K : PySem.W.Frag} {mg : Str → Option Value} {base : Heap}
theorem ok_sets_that_mend (T : Txt K mg) : FnOk P w K mg base (L2.CX P w) 4 T.a_sets_that_mend T.fd_sets_that_mend ["machine", "places", "many"] (sp_sets K T.c_Machine) := by
  refine T.F_sets_that_mend.okX sc_sets_that_mend (fun vs H Q E h => ?_) (fun cdv A outer s H vs Q E hr h => ?_)
  · obtain ⟨x, pp, m, ps, r, rfl, _⟩ := h
    rfl
  · obtain ⟨x, pp, m, ps, r, rfl, hm, o, hpp, lt, up, l12, r12, k⟩ := h
    refine ⟨_, (PSs.nox (pss_one (ps_ret (pe_lc (own := [("some", 3)]) (g := (gName 3)) rfl sc_sets_that_mend.nd (pi_comb (by rfl) T.m_combinations (pa_cons (pv 1) (pa_cons (pv 2) pa_nil))) (blkOk_by (own := [("some", 3)]) (N := ["machine", "places", "many", "some"]) (sc := defScope s_sets_that_mend) (by decide +kernel)) (fun _ _ _ _ _ => (pg_name (i := 3) sc_sets_that_mend.nd rfl (Or.inl rfl))) (fun _ _ _ _ _ => (pts_one (pt_cmp (pc_notN (pe_call (ok_numbers_without T) (hr.mono (by decide)) (by rfl) T.m_numbers_without T.k_numbers_without T.b_numbers_without .nil passL (pa_cons (pv 0) (pa_cons (pv 1) (pa_cons (pv 3) pa_nil)))))))) (fun _ _ _ _ _ => (pv 3)))))), ?_⟩
    walk_at "begin"
    walk_at "go"
    have el : (nats ps).length = ps.length := List.length_map _
    unfold iComb
    walk_at "go"
    refine ⟨pp, nats ps, r, rfl, SqL.of hpp, by rw [el]; omega, by omega, fun L hL => ?_⟩
    have small := subL_small up l12 r12
    refine lc_it (walk_comb up l12 r12) (fun i H' => Same H H' ∧ ∃ vs, H' L = some (.lst vs) ∧ NsAt K H' vs (((subL ps r).take i).filter (goodB m ps))) ⟨Same.new hL, [], upd_same, .nil⟩ (fun i H' _ _ => trivial) ?_ ?_
    · rintro i y H3 H4 hi ⟨z, vs, eL, hv⟩ ⟨p, qs, eqs, rfl, hp, rfl⟩
      have hq := subL_in (List.mem_of_getElem? eqs)
      rw [List.take_add_one, eqs, List.filter_append]
      have z3 : Same H (upd H3 p (.tup (nats qs))) := z.trans (Same.new hp)
      have eL3 : (upd H3 p (.tup (nats qs))) L = some (.lst vs) := by rw [upd_ne (ne_of_none eL hp)]; exact eL
      have hv3 := hv.tups (Tups.new (o := .tup (nats qs)) hp)
      have sq3 : SqT K (upd H3 p (.tup (nats qs))) p (nats qs) := SqT.of upd_same
      have lv : vs.length < sizeLine := by
        rw [hv.1]
        refine Nat.lt_of_le_of_lt (Nat.le_trans (List.length_filter_le ..) (Nat.le_trans (List.length_take_le ..) (Nat.le_of_lt (Nat.lt_of_le_of_lt (Nat.le_of_lt hi) small)))) (by decide)
      generalize upd H3 p (.tup (nats qs)) = H4 at z3 eL3 hv3 sq3 ⊢
      walk_at "go"
      refine ⟨rfl, ?_⟩
      walk_at "go"
      refine ⟨x, pp, p, m, ps, qs, rfl, hm.same z3, o, z3 _ _ hpp, sq3, lt, by omega, fun c D kvs H2 z2 hD eD nd => ?_, fun c H2 z2 => ?_⟩
      · walk_at "go"
        refine k_yes (show (!decide (V.ref D = V.non)) = true from rfl) ?_
        walk_at "go"
        have g : goodB m ps qs = true := c
        rw [show (some qs).toList.filter (goodB m ps) = [qs] by show [qs].filter _ = _; rw [List.filter_cons, if_pos g]; rfl]
        refine ⟨vs, z2 _ _ eL3, lv, Same.mut (z3.trans z2) hL, vs ++ [.ref p], upd_same, ?_⟩
        exact NsAt.tups ((hv3.tups (same_tups z2)).snoc ((same_tups z2).sq sq3)) (Tups.lst (z2 _ _ eL3))
      · walk_at "go"
        refine k_no (show (!decide (V.non = V.non)) = false by decide) ?_
        have g : ¬ goodB m ps qs = true := by rw [show goodB m ps qs = false from c]; decide
        rw [show (some qs).toList.filter (goodB m ps) = [] by show [qs].filter _ = _; rw [List.filter_cons, if_neg g]; rfl, List.append_nil]
        exact ⟨z3.trans z2, vs, z2 _ _ eL3, hv3.tups (same_tups z2)⟩
    · rintro H3 ⟨z, vs, eL, hv⟩
      rw [List.take_length] at hv
      walk_at "go"
      exact k L vs H3 z hL eL hv
theorem ok_mends (T : Txt K mg) : FnOk P w K mg base (L2.CX P w) 9 T.a_mends T.fd_mends ["machine"] (sp_mends K T.c_Machine) := by
  refine T.F_mends.okX sc_mends (fun vs H Q E h => ?_) (fun cdv A outer s H vs Q E hr h => ?_)
  · obtain ⟨x, m, rfl, _⟩ := h
    rfl
  · obtain ⟨x, m, rfl, hm, o, l12, k⟩ := h
    obtain ⟨dx, t, u, hx, hp0⟩ := id hm
    refine ⟨_, (PSs.nox (pss_cons (ps_expr (pe_call (ok_check_machine T) (hr.mono (by decide)) (by rfl) T.m_check_machine T.k_check_machine T.b_check_machine .nil passL (pa_cons (pv 0) pa_nil)))
  (pss_cons (ps_expr (pe_call (ok_check_steps_mends T) (hr.mono (by decide)) (by rfl) T.m_check_steps_mends T.k_check_steps_mends T.b_check_steps_mends .nil passL (pa_cons (pv 0) pa_nil)))
  (pss_cons (ps_set (i := 1) sc_mends.nd rfl (Or.inl rfl) (pe_call (ok_places_on_loops T) (hr.mono (by decide)) (by rfl) T.m_places_on_loops T.k_places_on_loops T.b_places_on_loops .nil passL (pa_cons (pv 0) pa_nil)))
  (pss_cons (ps_for PassesOwn.never rfl (pi_range1 (by rfl) T.z_range (pa_cons (pe_callB call_len_seq (by rfl) T.z_len PySem.boot_len (pa_cons (pv 1) pa_nil)) pa_nil)) (pg_name (i := 2) sc_mends.nd rfl (Or.inl rfl))
  (pss_cons (ps_set (i := 3) sc_mends.nd rfl (Or.inl rfl) (pe_call (ok_sets_that_mend T) (hr.mono (by decide)) (by rfl) T.m_sets_that_mend T.k_sets_that_mend T.b_sets_that_mend .nil passL (pa_cons (pv 0) (pa_cons (pv 1) (pa_cons (pv 2) pa_nil)))))
  (pss_one (ps_if (pt_truth (pv 3) (fun _ => rfl))
  (pss_one (ps_ret (pv 3)))
  pss_nil))))
  (pss_one (ps_ret (pe_lst (pa_cons (pe_callTy call_tuple_of (by rfl) T.z_tuple PySem.Pv.boot_tuple (pa_cons (pv 1) pa_nil)) pa_nil))))))))), ?_⟩
    walk_at "begin"
    walk_at "go"
    refine ⟨x, dx, _, rfl, hx, ?_⟩
    walk_at "go"
    refine ⟨x, m, rfl, hm, o, l12, ?_⟩
    walk_at "go"
    refine ⟨x, m, rfl, hm, o, fun pp ps H1 z1 hpp epp pl => ?_⟩
    have lps : ps.length ≤ 12 := Nat.le_trans pl.len l12
    have el : (nats ps).length = ps.length := List.length_map _
    walk_at "go"
    refine ⟨pp, nats ps, rfl, .inl (SqL.of epp), ?_⟩
    walk_at "go"
    refine k_rg (by omega) (by omega) ?_
    rw [el]
    refine for_range (lo := 0) (n := ((ps.length : Nat) : Int).toNat) (fun i σ H' => ∃ a2 a3, Same H1 H' ∧ (∀ k, k < i → setsL m ps k = []) ∧ σ = [some (.ref x), some (.ref pp), a2, a3]) ⟨_, _, Same.refl _, fun k h => absurd h (Nat.not_lt_zero _), rfl⟩ ?_ ?_
    · rintro i σ H2 hi ⟨a2, a3, z2, no, rfl⟩
      have il : i < ps.length := hi
      walk_at "go"
      have z0 : (0 + (i : Nat) : Int) = ((i : Nat) : Int) := by omega
      rw [z0]
      refine ⟨x, pp, m, ps, i, rfl, hm.same (z1.trans z2), o, z2 _ _ epp, pl.lt, pl.up, lps, by omega, fun L us H3 z3 hL eL hn => ?_⟩
      walk_at "go"
      refine ⟨_, .inl ⟨us, SqL.of eL, rfl⟩, ?_⟩
      cases eu : us with
      | nil =>
        refine k_no rfl ?_
        walk_at "go"
        refine ⟨_, _, z2.trans z3, fun k hk => ?_, rfl⟩
        rcases Nat.lt_succ_iff_lt_or_eq.mp hk with c | c
        · exact no k c
        · rw [c]
          exact List.eq_nil_of_length_eq_zero (by rw [← hn.1, eu]; rfl)
      | cons v vs =>
        refine k_yes rfl ?_
        walk_at "go"
        refine k L us H3 ps _ (z1.trans (z2.trans z3)) (free_of (z1.trans z2) hL) eL pl ⟨i, Nat.le_of_lt il, no, fun e => ?_, rfl⟩ hn
        have := hn.1
        rw [e, eu] at this
        cases this
    · rintro σ H2 ⟨a2, a3, z2, no, rfl⟩
      walk_at "go"
      refine ⟨pp, nats ps, rfl, .inl ⟨SqL.of (z2 _ _ epp), fun r hr => ?_⟩⟩
      walk_at "go"
      refine ⟨show 1 ≤ sizeLine by decide, fun q hq => ?_⟩
      have zz := z1.trans z2
      have zr : Same H2 (upd H2 r (.tup (nats ps))) := Same.new hr
      refine k q _ _ ps [ps] ((zz.trans zr).trans (Same.new hq)) (free_of (zz.trans zr) hq) upd_same pl ⟨ps.length, Nat.le_refl _, fun k hk => no k hk, ?_, (setsL_full pl.up lps).symm⟩ ?_
      · rw [setsL_full pl.up lps]
        exact fun e => by cases e
      · exact NsAt.tups (NsAt.nil.snoc (SqT.of upd_same)) (Tups.new hq)
end
/-! ### steps that numbers on the stands fit -/
def Lev (ss : List Stp) : Prop := ∃ h : Nat → Int, ∀ s ∈ ss, h s.b + s.g = h s.e
/-- the numbers that R rounds a stand leave -/
def numR (ss : List Stp) (R : Nat) : Nat → LF
  | 0 => fun _ => none
  | i + 1 => match numR ss R i i with
    | some _ => numR ss R i
    | none => spI ss R (putL (numR ss R i) i 0)
theorem numG_numR (ss : List Stp) : ∀ i, numG ss i = numR ss ss.length i
  | 0 => rfl
  | i + 1 => by
    unfold numG numR
    rw [numG_numR ss i]
    try (cases numR ss ss.length i i <;> rfl)
def ClosedF (ss : List Stp) (f : LF) : Prop := ∀ s ∈ ss, (f s.b).isSome = (f s.e).isSome
theorem spT_closed {f : LF} {s : Stp} (h : (f s.b).isSome = (f s.e).isSome) : spT f s = f := by
  unfold spT
  cases eb : f s.b <;> cases ee : f s.e <;> rw [eb, ee] at h <;> first | rfl | cases h
theorem spR_closed {ss : List Stp} {f : LF} (h : ClosedF ss f) : spR ss f = f := by
  unfold spR
  induction ss with
  | nil => rfl
  | cons s ss ih =>
    rw [List.foldl_cons, spT_closed (h s (List.mem_cons_self ..))]
    exact ih fun t ht => h t (List.mem_cons_of_mem _ ht)
def someF (f : LF) (n : Nat) : Bool := (f n).isSome
theorem someF_spT {f : LF} {s : Stp} {n : Nat} (h : someF f n = true) : someF (spT f s) n = true := by
  unfold someF at h ⊢
  obtain ⟨x, e⟩ := Option.isSome_iff_exists.mp h
  rw [spT_ext e]
  rfl
theorem someF_spR {ss : List Stp} {f : LF} {n : Nat} (h : someF f n = true) : someF (spR ss f) n = true := by
  unfold someF at h ⊢
  obtain ⟨x, e⟩ := Option.isSome_iff_exists.mp h
  rw [spR_ext e]
  rfl
theorem spT_fills {f : LF} {s : Stp} (h : someF f s.b = true ∨ someF f s.e = true) : someF (spT f s) s.b = true ∧ someF (spT f s) s.e = true := by
  unfold someF at h ⊢
  unfold spT
  cases eb : f s.b with
  | some x =>
    cases ee : f s.e with
    | some y => exact ⟨by show (f s.b).isSome = true; rw [eb]; rfl, by show (f s.e).isSome = true; rw [ee]; rfl⟩
    | none =>
      show (putL f s.e (x + s.g) s.b).isSome = true ∧ (putL f s.e (x + s.g) s.e).isSome = true
      unfold putL
      refine ⟨?_, by rw [if_pos rfl]; rfl⟩
      split
      · rfl
      · rw [eb]; rfl
  | none =>
    cases ee : f s.e with
    | none => rw [eb, ee] at h; rcases h with h | h <;> cases h
    | some y =>
      show (putL f s.b (y - s.g) s.b).isSome = true ∧ (putL f s.b (y - s.g) s.e).isSome = true
      unfold putL
      refine ⟨by rw [if_pos rfl]; rfl, ?_⟩
      split
      · rfl
      · rw [ee]; rfl
theorem spR_fills : ∀ {ss : List Stp} {f : LF} {s : Stp}, s ∈ ss → someF f s.b = true ∨ someF f s.e = true → someF (spR ss f) s.b = true ∧ someF (spR ss f) s.e = true
  | t :: ss, f, s, hs, h => by
    show someF (spR ss (spT f t)) s.b = true ∧ someF (spR ss (spT f t)) s.e = true
    rcases List.mem_cons.mp hs with e | hs
    · subst e
      exact ⟨someF_spR (spT_fills h).1, someF_spR (spT_fills h).2⟩
    · exact spR_fills hs (h.imp someF_spT someF_spT)
/-- a measure that grows while it is not closed -/
theorem closes_of {ss : List Stp} {μ : LF → Nat} {M : Nat} (hb : ∀ f, μ f ≤ M) (hi : ∀ f, ¬ ClosedF ss f → μ f < μ (spR ss f)) (f : LF) : ClosedF ss (spI ss M f) := by
  have q : ∀ k, ClosedF ss (spI ss k f) ∨ k ≤ μ (spI ss k f) := fun k => by
    induction k with
    | zero => exact .inr (Nat.zero_le _)
    | succ k ih =>
      show ClosedF ss (spR ss (spI ss k f)) ∨ k + 1 ≤ μ (spR ss (spI ss k f))
      by_cases c : ClosedF ss (spI ss k f)
      · left
        rw [spR_closed c]
        exact c
      · right
        have := hi _ c
        rcases ih with h | h
        · exact absurd h c
        · omega
  rcases q M with h | h
  · exact h
  · apply Classical.byContradiction
    intro c
    have := hi _ c
    have := hb (spR ss (spI ss M f))
    omega
theorem countP_grow {α : Type} {p q : α → Bool} : ∀ {l : List α}, (∀ x ∈ l, p x = true → q x = true) → (∃ x ∈ l, p x = false ∧ q x = true) → l.countP p < l.countP q
  | [], _, ⟨x, hx, _⟩ => absurd hx (by simp)
  | a :: l, h, ⟨x, hx, h1, h2⟩ => by
    have hl : ∀ x ∈ l, p x = true → q x = true := fun x hx => h x (List.mem_cons_of_mem _ hx)
    have le : l.countP p ≤ l.countP q := List.countP_mono_left hl
    rw [List.countP_cons, List.countP_cons]
    rcases List.mem_cons.mp hx with e | hx
    · rw [← e, h1, h2]
      show l.countP p + 0 < l.countP q + 1
      omega
    · have := countP_grow hl ⟨x, hx, h1, h2⟩
      have ha := h a (List.mem_cons_self ..)
      cases ep : p a with
      | false =>
        show l.countP p + 0 < _
        omega
      | true =>
        rw [ha ep]
        show l.countP p + 1 < l.countP q + 1
        omega
theorem open_step {ss : List Stp} {f : LF} (h : ¬ ClosedF ss f) : ∃ s ∈ ss, (someF f s.b = true ∧ someF f s.e = false) ∨ (someF f s.b = false ∧ someF f s.e = true) := by
  apply Classical.byContradiction
  intro c
  refine h fun s hs => ?_
  show someF f s.b = someF f s.e
  cases eb : someF f s.b <;> cases ee : someF f s.e
  · rfl
  · exact absurd ⟨s, hs, .inr ⟨eb, ee⟩⟩ c
  · exact absurd ⟨s, hs, .inl ⟨eb, ee⟩⟩ c
  · rfl
theorem closes_steps (ss : List Stp) (f : LF) : ClosedF ss (spI ss ss.length f) :=
  closes_of (μ := fun f => ss.countP fun s => someF f s.b && someF f s.e) (fun f => List.countP_le_length) (fun f h => by
    obtain ⟨s, hs, c⟩ := open_step h
    refine countP_grow (fun x hx e => ?_) ⟨s, hs, ?_, ?_⟩
    · rw [Bool.and_eq_true] at e ⊢
      exact ⟨someF_spR e.1, someF_spR e.2⟩
    · rcases c with ⟨a, b⟩ | ⟨a, b⟩ <;> rw [a, b] <;> rfl
    · have := spR_fills hs (c.imp (fun c => c.1) fun c => c.2)
      rw [this.1, this.2]
      rfl) f
theorem closes_stands {ss : List Stp} {N : Nat} (hN : ∀ s ∈ ss, s.b < N ∧ s.e < N) (f : LF) : ClosedF ss (spI ss N f) :=
  closes_of (μ := fun f => (List.range N).countP (someF f)) (fun f => Nat.le_trans List.countP_le_length (by rw [List.length_range]; exact Nat.le_refl _)) (fun f h => by
    obtain ⟨s, hs, c⟩ := open_step h
    have fl := spR_fills hs (c.imp (fun c => c.1) fun c => c.2)
    refine countP_grow (fun x hx e => someF_spR e) ?_
    rcases c with ⟨a, b⟩ | ⟨a, b⟩
    · exact ⟨s.e, List.mem_range.mpr (hN s hs).2, b, fl.2⟩
    · exact ⟨s.b, List.mem_range.mpr (hN s hs).1, a, fl.1⟩) f
/-- what is new follows the heights, from c on -/
def NewH (h : Nat → Int) (c : Int) (f0 f : LF) : Prop := ∀ n x, f0 n = none → f n = some x → x = h n - c
theorem NewH.spT {h : Nat → Int} {c : Int} {f0 f : LF} {s : Stp} (q : NewH h c f0 f) (hc : (f0 s.b).isSome = (f0 s.e).isSome) (he : h s.b + s.g = h s.e) (k : ∀ n x, f0 n = some x → f n = some x) : NewH h c f0 (Sv.spT f s) := by
  intro n x hn hx
  unfold Sv.spT at hx
  cases eb : f s.b with
  | some y =>
    cases ee : f s.e with
    | some z => rw [eb, ee] at hx; exact q n x hn hx
    | none =>
      rw [eb, ee] at hx
      have hx : putL f s.e (y + s.g) n = some x := hx
      unfold putL at hx
      split at hx
      · rename_i e
        injection hx with hx
        have ne : f0 s.e = none := by rw [← e]; exact hn
        have nb : f0 s.b = none := by
          rw [ne] at hc
          exact Option.not_isSome_iff_eq_none.mp (by rw [hc]; decide)
        have := q s.b y nb eb
        rw [e]
        omega
      · exact q n x hn hx
  | none =>
    cases ee : f s.e with
    | none => rw [eb, ee] at hx; exact q n x hn hx
    | some z =>
      rw [eb, ee] at hx
      have hx : putL f s.b (z - s.g) n = some x := hx
      unfold putL at hx
      split at hx
      · rename_i e
        injection hx with hx
        have nb : f0 s.b = none := by rw [← e]; exact hn
        have ne : f0 s.e = none := by
          rw [nb] at hc
          exact Option.not_isSome_iff_eq_none.mp (by rw [← hc]; decide)
        have := q s.e z ne ee
        rw [e]
        omega
      · exact q n x hn hx
theorem NewH.spR {h : Nat → Int} {c : Int} {f0 : LF} : ∀ {ss : List Stp} {f : LF}, NewH h c f0 f → ClosedF ss f0 → (∀ s ∈ ss, h s.b + s.g = h s.e) → (∀ n x, f0 n = some x → f n = some x) → NewH h c f0 (Sv.spR ss f)
  | [], f, q, _, _, _ => q
  | s :: ss, f, q, hc, he, k =>
    NewH.spR (ss := ss) (f := Sv.spT f s) (q.spT (hc s (List.mem_cons_self ..)) (he s (List.mem_cons_self ..)) k) (fun t ht => hc t (List.mem_cons_of_mem _ ht)) (fun t ht => he t (List.mem_cons_of_mem _ ht)) fun n x e => spT_ext (k n x e)
theorem NewH.spI {h : Nat → Int} {c : Int} {f0 f : LF} {ss : List Stp} (q : NewH h c f0 f) (hc : ClosedF ss f0) (he : ∀ s ∈ ss, h s.b + s.g = h s.e) (k : ∀ n x, f0 n = some x → f n = some x) : ∀ R, NewH h c f0 (Sv.spI ss R f)
  | 0 => q
  | R + 1 => (NewH.spI q hc he k R).spR hc he fun n x e => spI_ext (k n x e) R
theorem numR_has {ss : List Stp} {R : Nat} : ∀ {i n : Nat}, n < i → ∃ x, numR ss R i n = some x
  | 0, n, h => absurd h (Nat.not_lt_zero _)
  | i + 1, n, h => by
    unfold numR
    cases e : numR ss R i i with
    | some x =>
      by_cases c : n = i
      · rw [c]; exact ⟨x, e⟩
      · exact numR_has (by omega)
    | none =>
      by_cases c : n = i
      · exact ⟨0, spI_ext (by unfold putL; rw [if_pos c]) _⟩
      · obtain ⟨x, ex⟩ := numR_has (ss := ss) (R := R) (show n < i by omega)
        exact ⟨x, spI_ext (by unfold putL; rw [if_neg c]; exact ex) _⟩
theorem numR_fits {ss : List Stp} {R : Nat} {h : Nat → Int} (hR : ∀ f, ClosedF ss (spI ss R f)) (he : ∀ s ∈ ss, h s.b + s.g = h s.e) : ∀ i, ClosedF ss (numR ss R i) ∧ ∀ s ∈ ss, ∀ x y, numR ss R i s.b = some x → numR ss R i s.e = some y → x + s.g = y
  | 0 => ⟨fun s _ => rfl, fun s _ x y e => by cases e⟩
  | i + 1 => by
    obtain ⟨c, q⟩ := numR_fits hR he i
    unfold numR
    cases e : numR ss R i i with
    | some x => exact ⟨c, q⟩
    | none =>
      have kp : ∀ n x, numR ss R i n = some x → putL (numR ss R i) i 0 n = some x := fun n x hx => by
        unfold putL
        rw [if_neg (fun z => by rw [z, e] at hx; cases hx)]
        exact hx
      have nw : NewH h (h i) (numR ss R i) (putL (numR ss R i) i 0) := fun n x h0 hx => by
        unfold putL at hx
        split at hx
        · rename_i z
          cases hx
          rw [z]
          omega
        · rw [h0] at hx
          cases hx
      have n2 := nw.spI c he kp R
      refine ⟨hR _, fun s hs x y ex ey => ?_⟩
      have ex : spI ss R (putL (numR ss R i) i 0) s.b = some x := ex
      have ey : spI ss R (putL (numR ss R i) i 0) s.e = some y := ey
      cases eb : numR ss R i s.b with
      | some x0 =>
        have ce := c s hs
        rw [eb] at ce
        obtain ⟨y0, ee⟩ := Option.isSome_iff_exists.mp ce.symm
        have h1 := spI_ext (ss := ss) (kp _ _ eb) R
        have h2 := spI_ext (ss := ss) (kp _ _ ee) R
        rw [ex] at h1
        rw [ey] at h2
        cases h1
        cases h2
        exact q s hs _ _ eb ee
      | none =>
        have ce := c s hs
        rw [eb] at ce
        have ee : numR ss R i s.e = none := Option.not_isSome_iff_eq_none.mp (by rw [← ce]; decide)
        have h1 := n2 s.b x eb ex
        have h2 := n2 s.e y ee ey
        have := he s hs
        omega
theorem lev_numR {ss : List Stp} {R N : Nat} (hR : ∀ f, ClosedF ss (spI ss R f)) (hN : ∀ s ∈ ss, s.b < N ∧ s.e < N) : ss.all (fitB (numR ss R N)) = true ↔ Lev ss := by
  rw [List.all_eq_true]
  constructor
  · intro h
    refine ⟨fun n => (numR ss R N n).getD 0, fun s hs => ?_⟩
    have := of_decide_eq_true (h s hs)
    show (numR ss R N s.b).getD 0 + s.g = (numR ss R N s.e).getD 0
    omega
  · rintro ⟨h, he⟩ s hs
    obtain ⟨x, ex⟩ := numR_has (ss := ss) (R := R) (hN s hs).1
    obtain ⟨y, ey⟩ := numR_has (ss := ss) (R := R) (hN s hs).2
    have := (numR_fits hR he N).2 s hs x y ex ey
    unfold fitB
    rw [ex, ey]
    exact decide_eq_true (show y - x = s.g by omega)
theorem lev_numG {ss : List Stp} {N : Nat} (hN : ∀ s ∈ ss, s.b < N ∧ s.e < N) : ss.all (fitB (numG ss N)) = true ↔ Lev ss := by
  rw [numG_numR]
  exact lev_numR (closes_steps ss) hN
theorem lev_law {ss : List Stp} {N : Nat} (hN : ∀ s ∈ ss, s.b < N ∧ s.e < N) : ss.all (fitB (numR ss N N)) = true ↔ Lev ss := lev_numR (closes_stands hN) hN
/-! ### both bounds are there just when the steps on loops fit -/
theorem reach_trans {ss : List Stp} {a b c : Nat} (h : Reach ss [a] b) (q : Reach ss [b] c) : Reach ss [a] c := by
  induction q with
  | base e => rw [List.mem_singleton.mp e]; exact h
  | step hs _ ih => exact .step hs ih
theorem reach_from {ss : List Stp} {l : List Nat} {b c : Nat} (h : Reach ss l b) (q : Reach ss [b] c) : Reach ss l c := by
  induction q with
  | base e => rw [List.mem_singleton.mp e]; exact h
  | step hs _ ih => exact .step hs ih
open Classical in
/-- the steps on loops -/
noncomputable def loopS (m : MD) : List Stp := m.ss.filter fun s => decide (OnLoop m s)
open Classical in
theorem mem_loopS {m : MD} {s : Stp} : s ∈ loopS m ↔ s ∈ m.ss ∧ OnLoop m s := by
  unfold loopS
  rw [List.mem_filter, decide_eq_true_iff]
open Classical in
noncomputable def aheadN (m : MD) (n : Nat) : Nat := (List.range m.n).countP fun k => decide (Reach m.ss [n] k)
def costS (h : Nat → Int) (ss : List Stp) : Int := (ss.map fun s => ((h s.e - h s.b).natAbs + s.g.natAbs : Nat)).sum
theorem costS_ge {h : Nat → Int} : ∀ {ss : List Stp} {s : Stp}, s ∈ ss → ((h s.e - h s.b).natAbs : Int) + (s.g.natAbs : Int) ≤ costS h ss
  | t :: ss, s, hs => by
    unfold costS
    rw [List.map_cons, List.sum_cons]
    rcases List.mem_cons.mp hs with e | hs
    · rw [e]; omega
    · have := costS_ge (h := h) hs
      unfold costS at this
      omega
theorem costS_nn {h : Nat → Int} {ss : List Stp} : 0 ≤ costS h ss := by unfold costS; omega
open Classical in
theorem lev_ends {m : MD} (o : m.Ok) (l : Lev (loopS m)) {sg : Int} (hsg : sg = 1 ∨ sg = -1) (k : Nat) : ¬ Endl sg m k := fun e => by
  obtain ⟨h, hh⟩ := l
  refine pot_not_endl o hsg (N := fun _ => True) (F := fun n => sg * h n - costS h m.ss * (aheadN m n : Int)) (fun s hs hb _ => ⟨trivial, ?_⟩) k e trivial
  show sg * h s.b - costS h m.ss * (aheadN m s.b : Int) + sg * s.g ≤ sg * h s.e - costS h m.ss * (aheadN m s.e : Int)
  have os := o.ok s hs
  have sub : ∀ x, Reach m.ss [s.e] x → Reach m.ss [s.b] x := fun x q => reach_from (.step hs (.base (List.mem_singleton.mpr rfl))) q
  by_cases c : Reach m.ss [s.e] s.b
  · have e1 := hh s (mem_loopS.mpr ⟨hs, hb, c⟩)
    have e2 : aheadN m s.b = aheadN m s.e := by
      unfold aheadN
      congr 1
      funext x
      exact decide_eq_decide.mpr ⟨fun q => reach_trans c q, sub x⟩
    rw [e2]
    rcases hsg with rfl | rfl <;> omega
  · have lt : aheadN m s.e < aheadN m s.b := by
      unfold aheadN
      refine countP_grow (fun x _ q => decide_eq_true (sub x (of_decide_eq_true q))) ⟨s.b, List.mem_range.mpr os.b, decide_eq_false c, decide_eq_true (.base (List.mem_singleton.mpr rfl))⟩
    have g := costS_ge (h := h) hs
    have mul : costS h m.ss * ((aheadN m s.e : Int) + 1) ≤ costS h m.ss * (aheadN m s.b : Int) := Int.mul_le_mul_of_nonneg_left (by omega) costS_nn
    rw [Int.mul_add, Int.mul_one] at mul
    generalize costS h m.ss * (aheadN m s.b : Int) = A at mul ⊢
    generalize costS h m.ss * (aheadN m s.e : Int) = B at mul ⊢
    rcases hsg with rfl | rfl <;> omega
theorem bst1_step {m : MD} (o : m.Ok) {sg : Int} (hsg : sg = 1 ∨ sg = -1) (ne : ∀ k, Reach m.ss [0] k → ¬ Endl sg m k) {s : Stp} (hs : s ∈ m.ss) (hb : Reach m.ss [0] s.b) : bst1 sg m s.b + sg * s.g ≤ bst1 sg m s.e := by
  obtain ⟨y, ey⟩ := reach_bst o hsg hb (ne _ hb)
  obtain ⟨i, li, el⟩ : ∃ i, i < m.n ∧ lvl sg m.ss i s.b = some y := let ⟨i, li, el⟩ := (bst_spec _ _ ey).1; ⟨i, li, el.1⟩
  have hr := lvl_run o hsg _ _ _ el
  have he : Reach m.ss [0] s.e := .step hs hb
  have r2 := run_snoc.mpr ⟨_, _, _, hr, stepOf_self o hs, rfl, rfl⟩
  obtain ⟨z, ez, hz⟩ := no_better o hsg _ _ _ _ rfl r2 (ne _ he)
  unfold bst1
  rw [ey, ez]
  show y.1 + sg * s.g ≤ z.1
  rcases hsg with rfl | rfl <;> omega
theorem ends_lev {m : MD} (o : m.Ok) (ne : ∀ sg : Int, sg = 1 ∨ sg = -1 → ∀ k, Reach m.ss [0] k → ¬ Endl sg m k) : Lev (loopS m) := by
  refine ⟨bst1 1 m, fun s h => ?_⟩
  obtain ⟨hs, hb, hl⟩ := mem_loopS.mp h
  have st := fun (sg : Int) (hsg : sg = 1 ∨ sg = -1) {s : Stp} (hs : s ∈ m.ss) (hb : Reach m.ss [0] s.b) => bst1_step o hsg (ne sg hsg) hs hb
  have he : Reach m.ss [0] s.e := .step hs hb
  have path : ∀ x, Reach m.ss [s.e] x → ∃ p : Int, bst1 1 m s.e + p ≤ bst1 1 m x ∧ bst1 (-1) m s.e - p ≤ bst1 (-1) m x := fun x q => by
    induction q with
    | base e => rw [List.mem_singleton.mp e]; exact ⟨0, by omega, by omega⟩
    | step ht hq ih =>
      obtain ⟨p, h1, h2⟩ := ih
      rename_i t
      have hr := reach_from he hq
      have a := st 1 (.inl rfl) ht hr
      have b := st (-1) (.inr rfl) ht hr
      exact ⟨p + t.g, by omega, by omega⟩
  obtain ⟨p, h1, h2⟩ := path _ hl
  have a := st 1 (.inl rfl) hs hb
  have b := st (-1) (.inr rfl) hs hb
  omega
/-- None is not among the bounds just when the steps on loops fit -/
theorem bounds_lev {m : MD} (o : m.Ok) {l : List Nat} (hl : ∀ n, n ∈ l ↔ Reach m.ss [0] n) {r1 r2 : V} (e1 : EdgeOf (-1) m l r1) (e2 : EdgeOf 1 m l r2) : (r1 ≠ .non ∧ r2 ≠ .non) ↔ Lev (loopS m) := by
  constructor
  · rintro ⟨n1, n2⟩
    refine ends_lev o fun sg hsg k hk => ?_
    rcases hsg with rfl | rfl
    · rcases e2 with ⟨e, _⟩ | ⟨v, e, h1, _⟩
      · exact absurd e n2
      · exact h1 k ((hl k).mpr hk)
    · rcases e1 with ⟨e, _⟩ | ⟨v, e, h1, _⟩
      · exact absurd e n1
      · exact h1 k ((hl k).mpr hk)
  · intro lv
    refine ⟨fun e => ?_, fun e => ?_⟩
    · rcases e1 with ⟨_, k, _, h⟩ | ⟨v, e', _⟩
      · exact lev_ends o lv (.inr rfl) k h
      · rw [e'] at e; cases e
    · rcases e2 with ⟨_, k, _, h⟩ | ⟨v, e', _⟩
      · exact lev_ends o lv (.inl rfl) k h
      · rw [e'] at e; cases e
/-! ### _law_level -/
def selS (ss : List Stp) (ps : List Nat) : List Stp := ps.filterMap fun p => ss[p]?
theorem selS_snoc {ss : List Stp} {ps : List Nat} {j p : Nat} {s : Stp} (h : ps[j]? = some p) (e : ss[p]? = some s) : selS ss (ps.take (j + 1)) = selS ss (ps.take j) ++ [s] := by
  unfold selS
  rw [List.take_add_one, h, List.filterMap_append]
  congr 1
  show List.filterMap _ [p] = _
  rw [List.filterMap_cons, e]
  rfl
theorem selS_mem {ss : List Stp} {ps : List Nat} {s : Stp} : s ∈ selS ss ps ↔ ∃ p ∈ ps, ss[p]? = some s := by
  unfold selS
  rw [List.mem_filterMap]
theorem subS_sel (ss : List Stp) (ps qs : List Nat) : subS ss ps qs = selS ss (ps.filter fun p => decide (p ∉ qs)) := rfl
/-- a law's dict with these steps -/
def DSt (K : PySem.W.Frag) (H : Hp) (d : Addr) (N : Nat) (ss : List Stp) : Prop := ∃ kvs t, H d = some (.dK kvs) ∧ valV kvs (.inr "stands") = some (.int (N : Nat)) ∧ valV kvs (.inr "steps") = some (.ref t) ∧ StAt K H t ss
theorem DSt.of {K : PySem.W.Frag} {H : Hp} {d : Addr} {m : MD} (h : DAt K H d m) : DSt K H d m.n m.ss := let ⟨t, u, e, q⟩ := h; ⟨_, t, e, rfl, rfl, q.1⟩
theorem DSt.same {K : PySem.W.Frag} {H H' : Hp} {d : Addr} {N : Nat} {ss : List Stp} (h : DSt K H d N ss) (z : Same H H') : DSt K H' d N ss := let ⟨kvs, t, e, a, b, q⟩ := h; ⟨kvs, t, z _ _ e, a, b, (same_tups z).stAt q⟩
def sp_level (K : PySem.W.Frag) : Sp := fun vs H Q _ => ∃ (d p : Addr) (N : Nat) (ss : List Stp) (ps : List Nat), vs = [.ref d, .ref p] ∧ DSt K H d N ss ∧ N ≤ 8 ∧ (∀ s ∈ ss, s.b < N ∧ s.e < N) ∧ ss.length ≤ 32 ∧ H p = some (.lst (nats ps)) ∧ (∀ i ∈ ps, i < ss.length) ∧ ps.length ≤ 32 ∧
  ∀ (b : Bool) H', Same H H' → (b = true ↔ Lev (selS ss ps)) → Q (.bl b) H'
section
variable {P : Program} {w : World} {K : PySem.W.Frag} {mg : Str → Option Value} {base : Heap}
theorem ok_law_level (T : Txt K mg) : FnOk P w K mg base (L2.CX P w) 1 T.a_law_level T.fd_law_level ["_law_d", "_law_places"] (sp_level K) := by
  refine T.F_law_level.okX sc_law_level (fun vs H Q E h => ?_) (fun cdv A outer s H vs Q E hr h => ?_)
  · obtain ⟨d, p, N, ss, ps, rfl, _⟩ := h
    rfl
  · obtain ⟨d, p, N, ss, ps, rfl, ⟨kd, t, hd, kn, ks, us, ht, hu⟩, N8, bd, lss, hp, lt, lps, k⟩ := h
    refine ⟨_, (PSs.nox (pss_cons (ps_set (i := 2) sc_law_level.nd rfl (Or.inl rfl) pe_dnewK)
  (pss_cons (ps_for PassesOwn.never rfl (pi_range1 (by rfl) T.z_range (pa_cons (pe_dget (hu_of hr) (pv 0) pe_str (fun _ _ => rfl)) pa_nil)) (pg_name (i := 3) sc_law_level.nd rfl (Or.inl rfl))
  (pss_one (ps_if (pt_cmp (pc_dnotin (hu_of hr) (pv 3) (pv 2)) (by rfl))
  (pss_cons (ps_dput (hu_of hr) (pv 2) (pv 3) pe_int rfl)
  (pss_one (ps_for PassesOwn.never rfl (pi_range1 (by rfl) T.z_range (pa_cons (pe_dget (hu_of hr) (pv 0) pe_str (fun _ _ => rfl)) pa_nil)) (pg_name (i := 4) sc_law_level.nd rfl (Or.inl rfl))
  (pss_one (ps_for PassesOwn.never rfl (pi_list (pv 1)) (pg_name (i := 5) sc_law_level.nd rfl (Or.inl rfl))
  (pss_cons (ps_asg (pe_ix ix_tup (pe_dget (hu_of hr) (pv 0) pe_str (fun _ _ => rfl)) (pv 5) (fun _ _ => rfl)) (pg_tup rfl (pgs_cons (pg_name (i := 6) sc_law_level.nd rfl (Or.inl rfl)) (pgs_cons (pg_name (i := 7) sc_law_level.nd rfl (Or.inl rfl)) (pgs_cons (pg_name (i := 8) sc_law_level.nd rfl (Or.inl rfl)) (pgs_cons (pg_name (i := 9) sc_law_level.nd rfl (Or.inl rfl)) pgs_nil))))))
  (pss_cons (ps_if (PW.pt (pw_and (pt_cmp (pc_din (hu_of hr) (pv 6) (pv 2)) (by rfl)) (pw_and1 (pt_cmp (pc_dnotin (hu_of hr) (pv 8) (pv 2)) (by rfl)))))
  (pss_one (ps_dput (hu_of hr) (pv 2) (pv 8) (pe_op op_add (pe_dget (hu_of hr) (pv 2) (pv 6) (fun _ _ => rfl)) (pv 9)) rfl))
  pss_nil)
  (pss_one (ps_if (PW.pt (pw_and (pt_cmp (pc_din (hu_of hr) (pv 8) (pv 2)) (by rfl)) (pw_and1 (pt_cmp (pc_dnotin (hu_of hr) (pv 6) (pv 2)) (by rfl)))))
  (pss_one (ps_dput (hu_of hr) (pv 2) (pv 6) (pe_op op_sub (pe_dget (hu_of hr) (pv 2) (pv 8) (fun _ _ => rfl)) (pv 9)) rfl))
  pss_nil)))))))))
  pss_nil)))
  (pss_cons (ps_for PassesOwn.never rfl (pi_list (pv 1)) (pg_name (i := 5) sc_law_level.nd rfl (Or.inl rfl))
  (pss_cons (ps_asg (pe_ix ix_tup (pe_dget (hu_of hr) (pv 0) pe_str (fun _ _ => rfl)) (pv 5) (fun _ _ => rfl)) (pg_tup rfl (pgs_cons (pg_name (i := 6) sc_law_level.nd rfl (Or.inl rfl)) (pgs_cons (pg_name (i := 7) sc_law_level.nd rfl (Or.inl rfl)) (pgs_cons (pg_name (i := 8) sc_law_level.nd rfl (Or.inl rfl)) (pgs_cons (pg_name (i := 9) sc_law_level.nd rfl (Or.inl rfl)) pgs_nil))))))
  (pss_one (ps_if (pt_cmpR op_ne (pe_op op_add (pe_dget (hu_of hr) (pv 2) (pv 6) (fun _ _ => rfl)) (pv 9)) (pe_dget (hu_of hr) (pv 2) (pv 8) (fun _ _ => rfl)) (nomark _))
  (pss_one (ps_ret pe_bl))
  pss_nil))))
  (pss_one (ps_ret pe_bl)))))), ?_⟩
    walk_at "begin"
    walk_at "go"
    intro D hD
    have npD : p ≠ D := ne_of_none hp hD
    have ndD : d ≠ D := ne_of_none hd hD
    have K0 : Same H (upd H D (.dK [])) := Same.new hD
    have eD0 : (upd H D (.dK [])) D = some (.dK []) := upd_same
    have bsel : ∀ s ∈ selS ss ps, s.b < N ∧ s.e < N := fun s hs => let ⟨q, _, e⟩ := selS_mem.mp hs; bd s (List.mem_of_getElem? e)
    have step : ∀ {j : Nat} {y : V}, (nats ps)[j]? = some y → ∃ (n : Nat) (q : Addr) (s : Stp), y = .int (n : Nat) ∧ n < ss.length ∧ us[n]? = some (.ref q) ∧ SqT K H q (stpV s) ∧ s.b < N ∧ s.e < N ∧ selS ss (ps.take (j + 1)) = selS ss (ps.take j) ++ [s] ∧ s ∈ selS ss ps := fun {j y} hy => by
      obtain ⟨n, en, rfl⟩ := nats_at hy
      have il := lt n (List.mem_of_getElem? en)
      have ei : ss[n]? = some (ss[n]'il) := List.getElem?_eq_getElem il
      obtain ⟨q, eq, hq⟩ := hu.2 n _ ei
      exact ⟨n, q, _, rfl, il, eq, hq, (bd _ (List.getElem_mem il)).1, (bd _ (List.getElem_mem il)).2, selS_snoc en ei, selS_mem.mpr ⟨n, List.mem_of_getElem? en, ei⟩⟩
    have dgs : ∀ {H1}, Keep D H H1 → DGet H1 d (.str "stands") (some (.int (N : Nat))) := fun {H1} K1 => by
      have := DGet.k (k := .inr "stands") (K1 _ _ ndD hd)
      rw [kn] at this
      exact this
    have dgt : ∀ {H1}, Keep D H H1 → DGet H1 d (.str "steps") (some (.ref t)) := fun {H1} K1 => by
      have := DGet.k (k := .inr "steps") (K1 _ _ ndD hd)
      rw [ks] at this
      exact this
    have sqt : ∀ {H1 kv q xs}, Keep D H H1 → H1 D = some (.dK kv) → SqT K H q xs → SqT K H1 q xs := fun {H1 kv q xs} K1 e h => by
      have tp : Tups H H1 := ⟨fun b xs e => K1 _ _ (fun z => by rw [z, hD] at e; cases e) e, fun b o xs e => K1 _ _ (fun z => by rw [z, hD] at e; cases e) e⟩
      exact tp.sq h
    obtain ⟨sel, esel⟩ : ∃ sel, sel = selS ss ps := ⟨_, rfl⟩
    have n63 : N ≤ 63 := by omega
    have lnp : (nats ps).length = ps.length := List.length_map _
    walk_at "go"
    refine ⟨d, .int (N : Nat), rfl, dgs (Keep.of_same K0), ?_⟩
    walk_at "go"
    refine k_rg (by omega) (by omega) ?_
    refine for_range (lo := 0) (n := ((N : Nat) : Int).toNat) (fun i σ H' => ∃ kvs a3 a4 a5 a6 a7 a8 a9, Keep D H H' ∧ H' D = some (.dK kvs) ∧ NumD N kvs (numR sel N i) ∧ σ = [some (.ref d), some (.ref p), some (.ref D), a3, a4, a5, a6, a7, a8, a9])
      ⟨[], _, _, _, _, _, _, _, Keep.of_same K0, eD0, ⟨⟨fun q hq => absurd hq (by simp), fun n => rfl⟩, by simp, fun n u e => by cases e⟩, rfl⟩ ?_ ?_
    · rintro i σ H1 hi ⟨kvs, a3, a4, a5, a6, a7, a8, a9, K1, eD, nd, rfl⟩
      have iN : i < N := hi
      have z0 : (0 + (i : Nat) : Int) = ((i : Nat) : Int) := by omega
      rw [z0]
      have small := nd.small n63
      have dg1 : DGet H1 D (.int (i : Nat)) (valV kvs (.inl (i : Int))) := DGet.k (k := .inl (i : Int)) eD
      walk_at "go"
      refine ⟨D, _, rfl, dg1, ?_⟩
      walk_at "go"
      rw [nd.kv.2 i]
      cases e : numR sel N i i with
      | some x =>
        have er : numR sel N (i + 1) = numR sel N i := by
          show (match numR sel N i i with | some _ => numR sel N i | none => _) = _
          rw [e]
        rw [er]
        refine iteF ?_
        walk_at "go"
        exact ⟨kvs, _, _, _, _, _, _, _, K1, eD, nd, rfl⟩
      | none =>
        have er : numR sel N (i + 1) = spI sel N (putL (numR sel N i) i 0) := by
          show (match numR sel N i i with | some _ => numR sel N i | none => _) = _
          rw [e]
        rw [er]
        have nd0 := nd.put iN 0
        generalize putL (numR sel N i) i 0 = f0 at nd0 ⊢
        refine iteT ?_
        walk_at "go"
        refine ⟨D, _, rfl, DPut.k (k := .inl (i : Int)) eD small, ?_⟩
        walk_at "go"
        have K2 : Keep D H (upd H1 D (.dK (putK kvs (.inl (i : Int)) (.int 0)))) := K1.trans Keep.at_
        refine ⟨d, .int (N : Nat), rfl, dgs K2, ?_⟩
        walk_at "go"
        refine k_rg (by omega) (by omega) ?_
        refine for_range (lo := 0) (n := ((N : Nat) : Int).toNat) (fun r σ H' => ∃ kvs a4 a5 a6 a7 a8 a9, Keep D H H' ∧ H' D = some (.dK kvs) ∧ NumD N kvs (spI sel r f0) ∧ σ = [some (.ref d), some (.ref p), some (.ref D), some (.int (i : Nat)), a4, a5, a6, a7, a8, a9])
          ⟨_, _, _, _, _, _, _, K2, upd_same, nd0, rfl⟩ ?_ ?_
        · rintro r σ H2 hr2 ⟨kv2, b4, b5, b6, b7, b8, b9, K3, eD2, nd2, rfl⟩
          walk_at "go"
          refine ⟨p, rfl, ⟨_, SqL.of (K3 _ _ npD hp)⟩, for_list (xs := nats ps) (fun j σ H' => ∃ kvs a4 a5 a6 a7 a8 a9, Keep D H H' ∧ H' D = some (.dK kvs) ∧ NumD N kvs ((selS ss (ps.take j)).foldl spT (spI sel r f0)) ∧ σ = [some (.ref d), some (.ref p), some (.ref D), some (.int (i : Nat)), a4, a5, a6, a7, a8, a9])
            ⟨_, _, _, _, _, _, _, K3, eD2, nd2, rfl⟩ (fun _ _ _ _ ⟨_, _, _, _, _, _, _, K4, _⟩ => SqL.of (K4 _ _ npD hp)) ?_ ?_⟩
          · rintro j y σ H4 hy ⟨kv4, c4, c5, c6, c7, c8, c9, K4, eD4, nd4, rfl⟩
            obtain ⟨n, q, s0, rfl, nl, eq, hq, sb, se, tk, ms⟩ := step hy
            rw [tk, List.foldl_append]
            show _
            generalize (selS ss (ps.take j)).foldl spT (spI sel r f0) = g at nd4 ⊢
            have small := nd4.small n63
            have dg : ∀ n : Nat, DGet H4 D (.int (n : Nat)) (valV kv4 (.inl (n : Int))) := fun n => DGet.k (k := .inl (n : Int)) eD4
            walk_at "go"
            refine ⟨d, .ref t, rfl, dgt K4, ?_⟩
            walk_at "go"
            refine k_ixT (sqt K4 eD4 ht) (v := .ref q) (at_of (j := n) (by omega) eq) ?_
            refine k_gt (sqt K4 eD4 hq) rfl ?_
            unfold stpV
            walk_at "go"
            refine ⟨D, _, rfl, dg s0.b, ?_⟩
            walk_at "go"
            rw [nd4.kv.2 s0.b]
            have dgb := dg s0.b
            have dge := dg s0.e
            rw [nd4.kv.2 s0.b] at dgb
            rw [nd4.kv.2 s0.e] at dge
            show _
            have ef : List.foldl spT g [s0] = spT g s0 := rfl
            rw [ef]
            cases eb : g s0.b with
            | some x =>
              rw [eb] at dgb
              refine iteT ?_
              walk_at "go"
              refine ⟨D, _, rfl, dge, ?_⟩
              walk_at "go"
              cases ee : g s0.e with
              | some z =>
                rw [ee] at dge
                refine iteF ?_
                walk_at "go"
                refine ⟨D, _, rfl, dge, ?_⟩
                walk_at "go"
                refine iteT ?_
                walk_at "go"
                refine ⟨D, _, rfl, dgb, ?_⟩
                walk_at "go"
                refine iteF ?_
                walk_at "go"
                rw [show spT g s0 = g by unfold spT; rw [eb, ee]]
                exact ⟨_, _, _, _, _, _, _, K4, eD4, nd4, rfl⟩
              | none =>
                refine iteT ?_
                walk_at "go"
                refine ⟨D, _, rfl, dgb, ?_⟩
                walk_at "go"
                refine ⟨D, _, rfl, DPut.k (k := .inl (s0.e : Int)) eD4 small, ?_⟩
                walk_at "go"
                have nd5 := nd4.put se (x + s0.g)
                have K5 : Keep D H (upd H4 D (.dK (putK kv4 (.inl (s0.e : Int)) (.int (x + s0.g))))) := K4.trans Keep.at_
                have eD5 : (upd H4 D (.dK (putK kv4 (.inl (s0.e : Int)) (.int (x + s0.g))))) D = some (.dK (putK kv4 (.inl (s0.e : Int)) (.int (x + s0.g)))) := upd_same
                have dg5 : ∀ n : Nat, DGet (upd H4 D (.dK (putK kv4 (.inl (s0.e : Int)) (.int (x + s0.g))))) D (.int (n : Nat)) (valV (putK kv4 (.inl (s0.e : Int)) (.int (x + s0.g))) (.inl (n : Int))) := fun n => DGet.k (k := .inl (n : Int)) eD5
                have dgb5 := dg5 s0.b
                have dge5 := dg5 s0.e
                rw [nd5.kv.2 s0.b, show putL g s0.e (x + s0.g) s0.b = some x by unfold putL; rw [if_neg (fun z => by rw [z, ee] at eb; cases eb)]; exact eb] at dgb5
                rw [nd5.kv.2 s0.e, show putL g s0.e (x + s0.g) s0.e = some (x + s0.g) by unfold putL; rw [if_pos rfl]] at dge5
                refine ⟨D, _, rfl, dge5, ?_⟩
                walk_at "go"
                refine iteT ?_
                walk_at "go"
                refine ⟨D, _, rfl, dgb5, ?_⟩
                walk_at "go"
                refine iteF ?_
                walk_at "go"
                rw [show spT g s0 = putL g s0.e (x + s0.g) by unfold spT; rw [eb, ee]]
                exact ⟨_, _, _, _, _, _, _, K5, eD5, nd5, rfl⟩
            | none =>
              rw [eb] at dgb
              refine iteF ?_
              walk_at "go"
              refine iteF ?_
              walk_at "go"
              refine ⟨D, _, rfl, dge, ?_⟩
              walk_at "go"
              cases ee : g s0.e with
              | some z =>
                rw [ee] at dge
                refine iteT ?_
                walk_at "go"
                refine ⟨D, _, rfl, dgb, ?_⟩
                walk_at "go"
                refine iteT ?_
                walk_at "go"
                refine ⟨D, _, rfl, dge, ?_⟩
                walk_at "go"
                refine ⟨D, _, rfl, DPut.k (k := .inl (s0.b : Int)) eD4 small, ?_⟩
                walk_at "go"
                rw [show spT g s0 = putL g s0.b (z - s0.g) by unfold spT; rw [eb, ee]]
                exact ⟨_, _, _, _, _, _, _, K4.trans Keep.at_, upd_same, nd4.put sb _, rfl⟩
              | none =>
                refine iteF ?_
                walk_at "go"
                refine iteF ?_
                walk_at "go"
                rw [show spT g s0 = g by unfold spT; rw [eb, ee]]
                exact ⟨_, _, _, _, _, _, _, K4, eD4, nd4, rfl⟩
          · rintro σ H4 ⟨kv4, c4, c5, c6, c7, c8, c9, K4, eD4, nd4, rfl⟩
            rw [lnp, List.take_length, ← esel] at nd4
            exact ⟨_, _, _, _, _, _, _, K4, eD4, nd4, rfl⟩
        · rintro σ H2 ⟨kv2, b4, b5, b6, b7, b8, b9, K3, eD2, nd2, rfl⟩
          rw [show (((N : Nat) : Int)).toNat = N from rfl] at nd2
          exact ⟨_, _, _, _, _, _, _, _, K3, eD2, nd2, rfl⟩
    · rintro σ H1 ⟨kvs, a3, a4, a5, a6, a7, a8, a9, K1, eD, nd, rfl⟩
      rw [show (((N : Nat) : Int)).toNat = N from rfl] at nd
      walk_at "go"
      refine ⟨p, rfl, ⟨_, SqL.of (K1 _ _ npD hp)⟩, for_list (xs := nats ps) (fun j σ H' => ∃ a4 a5 a6 a7 a8 a9, Keep D H H' ∧ H' D = some (.dK kvs) ∧ ((selS ss (ps.take j)).all (fitB (numR sel N N)) = true) ∧ σ = [some (.ref d), some (.ref p), some (.ref D), a3, a4, a5, a6, a7, a8, a9])
        ⟨_, _, _, _, _, _, K1, eD, rfl, rfl⟩ (fun _ _ _ _ ⟨_, _, _, _, _, _, K4, _⟩ => SqL.of (K4 _ _ npD hp)) ?_ ?_⟩
      · rintro j y σ H4 hy ⟨c4, c5, c6, c7, c8, c9, K4, eD4, al, rfl⟩
        obtain ⟨n, q, s0, rfl, nl, eq, hq, sb, se, tk, ms⟩ := step hy
        walk_at "go"
        refine ⟨d, .ref t, rfl, dgt K4, ?_⟩
        walk_at "go"
        refine k_ixT (sqt K4 eD4 ht) (v := .ref q) (at_of (j := n) (by omega) eq) ?_
        refine k_gt (sqt K4 eD4 hq) rfl ?_
        unfold stpV
        have dg : ∀ n : Nat, DGet H4 D (.int (n : Nat)) (valV kvs (.inl (n : Int))) := fun n => DGet.k (k := .inl (n : Int)) eD4
        obtain ⟨x, ex⟩ := numR_has (ss := sel) (R := N) sb
        obtain ⟨z, ez⟩ := numR_has (ss := sel) (R := N) se
        have dgb := dg s0.b
        have dge := dg s0.e
        rw [nd.kv.2, ex] at dgb
        rw [nd.kv.2, ez] at dge
        walk_at "go"
        refine ⟨D, _, rfl, dgb, ?_⟩
        walk_at "go"
        refine ⟨D, _, rfl, dge, ?_⟩
        walk_at "go"
        have ef : fitB (numR sel N N) s0 = decide (z - x = s0.g) := by unfold fitB; rw [ex, ez]; rfl
        refine k_iteN (fun c => ?_) (fun c => ?_)
        · walk_at "go"
          injection c with c
          refine ⟨_, _, _, _, _, _, K4, eD4, ?_, rfl⟩
          rw [tk, List.all_append, al]
          show (fitB (numR sel N N) s0 && true) = true
          rw [ef, decide_eq_true (show z - x = s0.g by omega)]
          rfl
        · walk_at "go"
          refine k false _ (K4.same0 hD) ⟨fun z => (by cases z), fun lv => ?_⟩
          rw [← esel] at lv bsel
          have q := List.all_eq_true.mp ((lev_law bsel).mpr lv) s0 (by rw [esel]; exact ms)
          rw [ef] at q
          have q := of_decide_eq_true q
          exact absurd (by rw [show x + s0.g = z by omega]) c
      · rintro σ H4 ⟨c4, c5, c6, c7, c8, c9, K4, eD4, al, rfl⟩
        walk_at "go"
        rw [lnp, List.take_length, ← esel] at al
        exact k true _ (K4.same0 hD) ⟨fun _ => by rw [← esel]; rw [← esel] at bsel; exact (lev_law bsel).mp al, fun _ => rfl⟩
end
/-! ### _law_inner -/
def muL (N : Nat) (l : List Nat) : Nat := (List.range N).countP fun k => decide (k ∈ l)
theorem muL_le {N : Nat} {l : List Nat} : muL N l ≤ N := Nat.le_trans List.countP_le_length (by rw [List.length_range]; exact Nat.le_refl _)
theorem muL_mono {N : Nat} {l l' : List Nat} (h : ∀ k ∈ l, k ∈ l') : muL N l ≤ muL N l' := List.countP_mono_left fun x _ e => decide_eq_true (h x (of_decide_eq_true e))
theorem muL_grow {N : Nat} {l l' : List Nat} (h : ∀ k ∈ l, k ∈ l') {x : Nat} (hx : x < N) (h1 : x ∉ l) (h2 : x ∈ l') : muL N l < muL N l' :=
  countP_grow (fun y _ e => decide_eq_true (h y (of_decide_eq_true e))) ⟨x, List.mem_range.mpr hx, decide_eq_false h1, decide_eq_true h2⟩
/-- the stands seen from e so far, some of them more than once -/
structure Sd (m : MD) (e : Nat) (l : List Nat) : Prop where
  here : e ∈ l
  lt : ∀ k ∈ l, k < m.n
  re : ∀ k ∈ l, Reach m.ss [e] k
  len : l.length ≤ 32 * muL m.n l
theorem Sd.one {m : MD} {e : Nat} (he : e < m.n) : Sd m e [e] := by
  refine ⟨List.mem_singleton.mpr rfl, fun k hk => by rw [List.mem_singleton.mp hk]; exact he, fun k hk => .base hk, ?_⟩
  have := muL_grow (l := []) (l' := [e]) (N := m.n) (fun k hk => absurd hk (by simp)) he (by simp) (List.mem_singleton.mpr rfl)
  show 1 ≤ _
  omega
theorem Sd.len256 {m : MD} (o : m.Ok) {e : Nat} {l : List Nat} (h : Sd m e l) : l.length ≤ 256 := by
  have := h.len
  have := muL_le (N := m.n) (l := l)
  have := o.n8
  omega
def newOf (l : List Nat) (ns : List Stp) : List Nat := (ns.filter fun s => decide (s.e ∉ l)).map (·.e)
theorem Sd.more {m : MD} (o : m.Ok) {e n : Nat} {l : List Nat} (h : Sd m e l) (hn : n ∈ l) : Sd m e (l ++ newOf l (fromS m n)) := by
  have mem : ∀ k ∈ newOf l (fromS m n), k ∉ l ∧ k < m.n ∧ Reach m.ss [e] k := fun k hk => by
    obtain ⟨s, hs, rfl⟩ := List.mem_map.mp hk
    obtain ⟨hs, c⟩ := List.mem_filter.mp hs
    obtain ⟨hs, eb⟩ := mem_fromS'.mp hs
    exact ⟨of_decide_eq_true c, (o.ok s hs).e, .step hs (by rw [eb]; exact h.re n hn)⟩
  refine ⟨List.mem_append_left _ h.here, fun k hk => (List.mem_append.mp hk).elim (h.lt k) fun q => (mem k q).2.1, fun k hk => (List.mem_append.mp hk).elim (h.re k) fun q => (mem k q).2.2, ?_⟩
  have l0 := h.len
  have ln : (newOf l (fromS m n)).length ≤ 32 := by
    unfold newOf fromS
    rw [List.length_map]
    exact Nat.le_trans (List.length_filter_le ..) (Nat.le_trans (List.length_filter_le ..) o.len)
  rw [List.length_append]
  cases ec : newOf l (fromS m n) with
  | nil =>
    rw [List.append_nil]
    exact l0
  | cons x t =>
    rw [ec] at ln
    obtain ⟨a, b, _⟩ := mem x (by rw [ec]; exact List.mem_cons_self ..)
    have := muL_grow (N := m.n) (l := l) (l' := l ++ x :: t) (fun k hk => List.mem_append_left _ hk) b a (List.mem_append_right _ (List.mem_cons_self ..))
    omega
theorem newOf_has {l : List Nat} {ns : List Stp} {s : Stp} (h : s ∈ ns) : s.e ∈ l ++ newOf l ns := by
  by_cases c : s.e ∈ l
  · exact List.mem_append_left _ c
  · exact List.mem_append_right _ (List.mem_map.mpr ⟨s, List.mem_filter.mpr ⟨h, decide_eq_true c⟩, rfl⟩)
theorem seen_closed {m : MD} {e : Nat} {F : List Nat} (h0 : e ∈ F) (c : ClosedS m F) : ∀ n, Reach m.ss [e] n → n ∈ F := fun n q => by
  induction q with
  | base h => rw [List.mem_singleton.mp h]; exact h0
  | step hs _ ih => exact c _ hs ih
def sp_inner (K : PySem.W.Frag) : Sp := fun vs H Q _ => ∃ (d : Addr) (m : MD), vs = [.ref d] ∧ DAt K H d m ∧ m.Ok ∧
  ∀ q (ps : List Nat) H', Same H H' → H q = none → H' q = some (.lst (nats ps)) → PlacesOf m ps → Q (.ref q) H'
section
variable {P : Program} {w : World} {K : PySem.W.Frag} {mg : Str → Option Value} {base : Heap}
theorem ok_law_inner (T : Txt K mg) : FnOk P w K mg base (L2.CX P w) 3 T.a_law_inner T.fd_law_inner ["_law_d"] (sp_inner K) := by
  refine T.F_law_inner.okX sc_law_inner (fun vs H Q E h => ?_) (fun cdv A outer s H vs Q E hr h => ?_)
  · obtain ⟨d, m, rfl, _⟩ := h
    rfl
  · obtain ⟨d, m, rfl, hd, o, k⟩ := h
    obtain ⟨t, u, ed, ⟨us, ht, hu⟩, _⟩ := id hd
    have n8 := o.n8
    have l32 := o.len
    refine ⟨_, (PSs.nox (pss_cons (ps_par (i := 1) (j := 2) (by rfl) sc_law_inner.nd rfl rfl (by decide) rfl rfl (pa_cons (pe_call (ok_law_reached T) (hr.mono (by decide)) (by rfl) T.m_law_reached T.k_law_reached T.b_law_reached .nil passL (pa_cons (pv 0) pa_nil)) (pa_cons (pe_lst pa_nil) pa_nil)) (by rfl))
  (pss_cons (ps_for PassesOwn.never rfl (pi_range1 (by rfl) T.z_range (pa_cons (pe_callB call_len_seq (by rfl) T.z_len PySem.boot_len (pa_cons (pe_dget (hu_of hr) (pv 0) pe_str (fun _ _ => rfl)) pa_nil)) pa_nil)) (pg_name (i := 3) sc_law_inner.nd rfl (Or.inl rfl))
  (pss_cons (ps_asg (pe_ix ix_tup (pe_dget (hu_of hr) (pv 0) pe_str (fun _ _ => rfl)) (pv 3) (fun _ _ => rfl)) (pg_tup rfl (pgs_cons (pg_name (i := 4) sc_law_inner.nd rfl (Or.inl rfl)) (pgs_cons (pg_name (i := 5) sc_law_inner.nd rfl (Or.inl rfl)) (pgs_cons (pg_name (i := 6) sc_law_inner.nd rfl (Or.inl rfl)) (pgs_cons (pg_name (i := 7) sc_law_inner.nd rfl (Or.inl rfl)) pgs_nil))))))
  (pss_cons (ps_set (i := 8) sc_law_inner.nd rfl (Or.inr rfl) (pe_lst (pa_cons (pv 6) pa_nil)))
  (pss_cons (ps_for PassesOwn.never rfl (pi_range1 (by rfl) T.z_range (pa_cons (pe_dget (hu_of hr) (pv 0) pe_str (fun _ _ => rfl)) pa_nil)) (pg_name (i := 9) sc_law_inner.nd rfl (Or.inl rfl))
  (pss_one (ps_for PassesOwn.never rfl (pi_list (pe_callTy call_list_of (by rfl) T.z_list PySem.Pv.boot_list (pa_cons (pv 8) pa_nil))) (pg_name (i := 10) sc_law_inner.nd rfl (Or.inl rfl))
  (pss_one (ps_set (i := 8) sc_law_inner.nd rfl (Or.inr rfl) (pe_op op_cat (pv 8) (pe_lc (own := [("_law_sign", 11), ("_law_there", 12), ("_law_more", 13)]) (g := (gTup K 3 (gCons (gName 11) (gCons (gName 12) (gCons (gName 13) gNil))))) rfl sc_law_inner.nd (pi_list (pe_call (ok_law_next T) (hr.mono (by decide)) (by rfl) T.m_law_next T.k_law_next T.b_law_next .nil passL (pa_cons (pv 0) (pa_cons (pv 10) pa_nil)))) (blkOk_by (own := [("_law_sign", 11), ("_law_there", 12), ("_law_more", 13)]) (N := ["_law_d", "_law_stands", "_law_found", "_law_at", "_law_begun", "_law_letter", "_law_end", "_law_gain", "_law_seen", "_law_turn", "_law_here", "_law_sign", "_law_there", "_law_more"]) (sc := defScope s_law_inner) (by decide +kernel)) (fun _ _ _ _ _ => (pg_tup rfl (pgs_cons (pg_name (i := 11) sc_law_inner.nd rfl (Or.inl rfl)) (pgs_cons (pg_name (i := 12) sc_law_inner.nd rfl (Or.inl rfl)) (pgs_cons (pg_name (i := 13) sc_law_inner.nd rfl (Or.inl rfl)) pgs_nil))))) (fun _ _ _ _ _ => (pts_one (pt_cmpR (show OpR _ _ (rIn K true) from op_notIn_seq) (pv 12) (pv 8) (by rfl)))) (fun _ _ _ _ _ => (pv 12)))))))))
  (pss_one (ps_if (PW.pt (pw_and (pt_cmpR op_in_seq (pv 4) (pv 1) (by rfl)) (pw_and1 (pt_cmpR op_in_seq (pv 4) (pv 8) (by rfl)))))
  (pss_one (ps_expr (pe_bm PySem.F.plainAttrs_list PySem.F.slot_list_append PySem.F.type_list_append mt_append (pv 2) (pa_cons (pv 3) pa_nil))))
  pss_nil))))))
  (pss_one (ps_ret (pv 2)))))), ?_⟩
    walk_at "begin"
    walk_at "go"
    refine ⟨d, m, rfl, hd, o, fun S l H1 z1 hS eS reach asc => ?_⟩
    walk_at "go"
    refine ⟨(by decide : 0 ≤ sizeLine), fun F hF => ?_⟩
    walk_at "go"
    have zF := Same.new (o := .lst []) hF
    have eF := upd_same (H := H1) (a := F) (o := .lst [])
    have hF0 := free_of z1 hF
    have nSF : S ≠ F := ne_of_none eS hF
    have z2 := z1.trans zF
    have eS2 := zF _ _ eS
    generalize upd H1 F (.lst []) = H2 at z2 eF eS2 ⊢
    have nh : ∀ {H'}, Same H H' → H' F = some (.lst []) → True := fun _ _ => trivial
    have dgn : ∀ {H'}, Same H H' → DGet H' d (.str "stands") (some (.int (m.n : Nat))) := fun z => DGet.k (k := .inr "stands") (z _ _ ed)
    have dgt : ∀ {H'}, Same H H' → DGet H' d (.str "steps") (some (.ref t)) := fun z => DGet.k (k := .inr "steps") (z _ _ ed)
    refine ⟨d, .ref t, rfl, dgt z2, ?_⟩
    walk_at "go"
    refine ⟨t, us, rfl, .inr ((same_tups z2).sq ht), ?_⟩
    walk_at "go"
    have lu : us.length = m.ss.length := hu.1
    refine k_rg (by omega) (by omega) ?_
    rw [lu]
    refine for_range (lo := 0) (n := ((m.ss.length : Nat) : Int).toNat) (fun i σ H' => ∃ ps a3 a4 a5 a6 a7 a8 a9 b0 b1 b2 b3, Same H H' ∧ H' S = some (.lst (nats l)) ∧ H' F = some (.lst (nats ps)) ∧ ps.length ≤ i ∧ (∀ p, p ∈ ps ↔ p < i ∧ ∃ s, m.ss[p]? = some s ∧ OnLoop m s) ∧ ps.Pairwise (· < ·) ∧ σ = [some (.ref d), some (.ref S), some (.ref F), a3, a4, a5, a6, a7, a8, a9, b0, b1, b2, b3])
      ⟨[], _, _, _, _, _, _, _, _, _, _, _, z2, eS2, eF, Nat.le_refl _, fun p => ⟨fun hp => absurd hp (by simp), fun hp => absurd hp.1 (Nat.not_lt_zero _)⟩, .nil, rfl⟩ ?_ ?_
    · rintro i σ H3 hi ⟨ps, a3, a4, a5, a6, a7, a8, a9, b0, b1, b2, b3, z3, eS3, eF3, lp, bp, up, rfl⟩
      have il : i < m.ss.length := hi
      have z0 : (0 + (i : Nat) : Int) = ((i : Nat) : Int) := by omega
      rw [z0]
      have ei : m.ss[i]? = some (m.ss[i]'il) := List.getElem?_eq_getElem il
      obtain ⟨q, eq, hq⟩ := hu.2 i _ ei
      have o0 := o.ok _ (List.getElem_mem il)
      generalize m.ss[i]'il = s0 at hq o0 ei
      walk_at "go"
      refine ⟨d, .ref t, rfl, dgt z3, ?_⟩
      walk_at "go"
      refine k_ixT ((same_tups z3).sq ht) (v := .ref q) (at_of (j := i) (by omega) eq) ?_
      refine k_gt ((same_tups z3).sq hq) rfl ?_
      unfold stpV
      walk_at "go"
      refine ⟨(by decide : 1 ≤ sizeLine), fun B hB => ?_⟩
      walk_at "go"
      have zB := Same.new (o := .lst [.int (s0.e : Nat)]) hB
      have eB := upd_same (H := H3) (a := B) (o := .lst [.int (s0.e : Nat)])
      have z4 := z3.trans zB
      have eS4 := zB _ _ eS3
      have eF4 := zB _ _ eF3
      generalize upd H3 B (.lst [.int (s0.e : Nat)]) = H4 at z4 eB eS4 eF4 ⊢
      refine ⟨d, .int (m.n : Nat), rfl, dgn z4, ?_⟩
      walk_at "go"
      refine k_rg (by omega) (by omega) ?_
      refine for_range (lo := 0) (n := ((m.n : Nat) : Int).toNat) (fun r σ H' => ∃ B ls a9 b0 b1 b2 b3, Same H H' ∧ H' S = some (.lst (nats l)) ∧ H' F = some (.lst (nats ps)) ∧ H' B = some (.lst (nats ls)) ∧ Sd m s0.e ls ∧ (ClosedS m ls ∨ r + 1 ≤ muL m.n ls) ∧
          σ = [some (.ref d), some (.ref S), some (.ref F), some (.int (i : Nat)), some (.int (s0.b : Nat)), some (.str ⟨#[s0.c]⟩), some (.int (s0.e : Nat)), some (.int s0.g), some (.ref B), a9, b0, b1, b2, b3])
        ⟨B, [s0.e], _, _, _, _, _, z4, eS4, eF4, eB, Sd.one o0.e, .inr (by have := (Sd.one (m := m) o0.e).len; show 0 + 1 ≤ _; have : 1 ≤ 32 * muL m.n [s0.e] := this; omega), rfl⟩ ?_ ?_
      · rintro r σ H5 hr5 ⟨B, ls, c9, d0, d1, d2, d3, z5, eS5, eF5, eB5, sd5, cl5, rfl⟩
        walk_at "go"
        refine ⟨B, nats ls, rfl, .inl (SqL.of eB5), fun G hG => ?_⟩
        have zG := Same.new (o := .lst (nats ls)) hG
        have eG := upd_same (H := H5) (a := G) (o := .lst (nats ls))
        have z6 := z5.trans zG
        have eS6 := zG _ _ eS5
        have eF6 := zG _ _ eF5
        have eB6 := zG _ _ eB5
        generalize upd H5 G (.lst (nats ls)) = H6 at z6 eG eS6 eF6 eB6 ⊢
        refine ⟨G, rfl, ⟨_, SqL.of eG⟩, for_list (xs := nats ls) (fun j σ H' => ∃ B l' b0 b1 b2 b3, Same H H' ∧ H' S = some (.lst (nats l)) ∧ H' F = some (.lst (nats ps)) ∧ H' G = some (.lst (nats ls)) ∧ H' B = some (.lst (nats l')) ∧ Sd m s0.e l' ∧ (∀ k ∈ ls, k ∈ l') ∧ (∀ b n, b < j → ls[b]? = some n → ∀ s ∈ m.ss, s.b = n → s.e ∈ l') ∧
            σ = [some (.ref d), some (.ref S), some (.ref F), some (.int (i : Nat)), some (.int (s0.b : Nat)), some (.str ⟨#[s0.c]⟩), some (.int (s0.e : Nat)), some (.int s0.g), some (.ref B), some (.int (0 + (r : Nat))), b0, b1, b2, b3])
          ⟨B, ls, _, _, _, _, z6, eS6, eF6, eG, eB6, sd5, fun _ h => h, fun b n h => absurd h (Nat.not_lt_zero _), rfl⟩ (fun _ _ _ _ ⟨_, _, _, _, _, _, _, _, _, e, _⟩ => SqL.of e) ?_ ?_⟩
        · rintro j y σ H7 hy ⟨B, l', f0, f1, f2, f3, z7, eS7, eF7, eG7, eB7, sd7, sub7, al7, rfl⟩
          obtain ⟨n, en, rfl⟩ := nats_at hy
          have hn : n ∈ l' := sub7 n (List.mem_of_getElem? en)
          have l256 := sd7.len256 o
          walk_at "go"
          refine ⟨d, n, m, rfl, hd.same z7, o, fun p us H8 z8 hp ep nx => ?_⟩
          refine ⟨p, rfl, ⟨_, SqL.of ep⟩, fun C hC => ?_⟩
          refine lc_list (xs := us) (fun c H' => Same H8 H' ∧ H' C = some (.lst (nats (newOf l' ((fromS m n).take c))))) ⟨Same.new hC, upd_same⟩ (fun _ H' _ ⟨z, _⟩ => SqL.of (z _ _ ep)) ?_ ?_
          · rintro c y H9 hy ⟨z9, eC⟩
            have cl : c < (fromS m n).length := by rw [← nx.1]; exact (List.getElem?_eq_some_iff.mp hy).1
            have es : (fromS m n)[c]? = some ((fromS m n)[c]'cl) := List.getElem?_eq_getElem cl
            obtain ⟨q, eq, hq⟩ := nx.2 _ _ es
            rw [hy] at eq
            cases eq
            have tk : newOf l' ((fromS m n).take (c + 1)) = newOf l' ((fromS m n).take c) ++ (if ((fromS m n)[c]'cl).e ∈ l' then [] else [((fromS m n)[c]'cl).e]) := by
              unfold newOf
              rw [List.take_add_one, es, List.filter_append, List.map_append]
              congr 1
              show (List.filter _ [(fromS m n)[c]'cl]).map _ = _
              rw [List.filter_cons]
              by_cases q : ((fromS m n)[c]'cl).e ∈ l'
              · rw [if_neg (by rw [decide_eq_false (fun z => z q)]; decide), if_pos q]
                rfl
              · rw [if_pos (decide_eq_true q), if_neg q]
                rfl
            rw [tk]
            generalize (fromS m n)[c]'cl = s1 at hq
            have lc : (newOf l' ((fromS m n).take c)).length ≤ 32 := by
              unfold newOf fromS
              rw [List.length_map]
              exact Nat.le_trans (List.length_filter_le ..) (Nat.le_trans (List.length_take_le ..) (Nat.le_trans (Nat.le_of_lt (by unfold fromS at cl; exact cl)) (Nat.le_trans (List.length_filter_le ..) l32)))
            generalize newOf l' ((fromS m n).take c) = nw at eC lc ⊢
            refine k_gt ((same_tups z9).sq hq) rfl ?_
            unfold nxV
            walk_at "go"
            refine ⟨rfl, ?_⟩
            walk_at "go"
            refine ⟨B, nats l', rfl, .inl (SqL.of (z9 _ _ (z8 _ _ eB7))), rfl, flat_nats _, ?_⟩
            rw [inV_nats]
            walk_at "go"
            refine k_iteN (fun c => ?_) (fun c => ?_)
            · rw [if_pos c, List.append_nil]
              exact ⟨z9, eC⟩
            · rw [if_neg c]
              walk_at "go"
              refine ⟨nats nw, eC, ?_, Same.mut z9 hC, ?_⟩
              · unfold nats
                rw [List.length_map]
                exact Nat.lt_of_le_of_lt lc (by decide)
              · rw [upd_same, nats_snoc]
          · rintro H9 ⟨z9, eC⟩
            rw [nx.1, List.take_length] at eC
            have z89 := z8.trans z9
            walk_at "go"
            have sd8 := sd7.more o hn
            have l256' := sd8.len256 o
            have ea : nats l' ++ nats (newOf l' (fromS m n)) = nats (l' ++ newOf l' (fromS m n)) := (List.map_append ..).symm
            refine ⟨B, C, _, _, rfl, rfl, z89 _ _ eB7, eC, ?_, fun X hX => ?_⟩
            · rw [← List.length_append, ea]
              unfold nats
              rw [List.length_map]
              exact Nat.le_trans l256' (by decide)
            rw [ea]
            walk_at "go"
            have zX := (z7.trans z89).trans (Same.new (o := .lst (nats (l' ++ newOf l' (fromS m n)))) hX)
            have z9X := z89.trans (Same.new (o := .lst (nats (l' ++ newOf l' (fromS m n)))) hX)
            refine ⟨X, _, _, _, _, _, zX, z9X _ _ eS7, z9X _ _ eF7, z9X _ _ eG7, upd_same, sd8, fun k hk => List.mem_append_left _ (sub7 k hk), fun b n' h1 h2 s h3 h4 => ?_, rfl⟩
            by_cases e : b = j
            · rw [e, en] at h2
              cases h2
              exact newOf_has (mem_fromS'.mpr ⟨h3, h4⟩)
            · exact List.mem_append_left _ (al7 b n' (by omega) h2 s h3 h4)
        · rintro σ H7 ⟨B, l', f0, f1, f2, f3, z7, eS7, eF7, eG7, eB7, sd7, sub7, al7, rfl⟩
          refine ⟨B, l', _, _, _, _, _, z7, eS7, eF7, eB7, sd7, ?_, rfl⟩
          have full : ∀ n ∈ ls, ∀ s ∈ m.ss, s.b = n → s.e ∈ l' := fun n hn s hs e => by
            obtain ⟨b, hb, eb⟩ := List.getElem_of_mem hn
            exact al7 b n (by unfold nats; rw [List.length_map]; exact hb) (by rw [List.getElem?_eq_getElem hb, eb]) s hs e
          have done : ClosedS m ls → ClosedS m l' := fun c s hs h => sub7 _ (seen_closed sd5.here c _ (.step hs (sd7.re _ h)))
          rcases cl5 with c | c
          · exact .inl (done c)
          · by_cases cc : ClosedS m ls
            · exact .inl (done cc)
            · right
              have : ∃ s ∈ m.ss, s.b ∈ ls ∧ s.e ∉ ls := Classical.byContradiction fun z => cc fun s hs hb => Classical.byContradiction fun he => z ⟨s, hs, hb, he⟩
              obtain ⟨s, hs, hb, he⟩ := this
              have := muL_grow (N := m.n) sub7 (o.ok s hs).e he (full _ hb s hs rfl)
              omega
      · rintro σ H5 ⟨B, ls, c9, d0, d1, d2, d3, z5, eS5, eF5, eB5, sd5, cl5, rfl⟩
        have cl : ClosedS m ls := by
          rcases cl5 with c | c
          · exact c
          · have := muL_le (N := m.n) (l := ls)
            have : m.n + 1 ≤ muL m.n ls := c
            omega
        have mem : ∀ n, n ∈ ls ↔ Reach m.ss [s0.e] n := fun n => ⟨sd5.re n, seen_closed sd5.here cl n⟩
        walk_at "go"
        have skip : ¬ OnLoop m s0 → Same H H5 ∧ H5 S = some (.lst (nats l)) ∧ H5 F = some (.lst (nats ps)) ∧ ps.length ≤ i + 1 ∧ (∀ p, p ∈ ps ↔ p < i + 1 ∧ ∃ s, m.ss[p]? = some s ∧ OnLoop m s) ∧ ps.Pairwise (· < ·) := fun no => ⟨z5, eS5, eF5, by omega, fun p => by
          rw [bp p]
          refine ⟨fun ⟨h1, h2⟩ => ⟨Nat.lt_succ_of_lt h1, h2⟩, fun ⟨h1, s, es, hs⟩ => ⟨?_, s, es, hs⟩⟩
          rcases Nat.lt_succ_iff_lt_or_eq.mp h1 with h1 | rfl
          · exact h1
          · rw [ei] at es; cases es; exact absurd hs no, up⟩
        refine ⟨S, nats l, rfl, .inl (SqL.of eS5), rfl, flat_nats _, ?_⟩
        rw [inV_nats]
        walk_at "go"
        refine k_ite (fun c0 => ?_) (fun c => ?_)
        · walk_at "go"
          refine ⟨B, nats ls, rfl, .inl (SqL.of eB5), rfl, flat_nats _, ?_⟩
          rw [inV_nats]
          walk_at "go"
          refine k_ite (fun c => ?_) (fun c => ?_)
          · walk_at "go"
            have on : OnLoop m s0 := ⟨(reach _).mp c0, (mem _).mp c⟩
            refine ⟨.inl ⟨rfl, _, SqL.of eF5⟩, ?_⟩
            walk_at "go"
            have lps : (nats ps).length < sizeLine := by
              unfold nats
              rw [List.length_map]
              exact Nat.lt_of_le_of_lt (show ps.length ≤ 32 by omega) (by decide)
            refine k_append eF5 lps ?_
            refine ⟨ps ++ [i], _, _, _, _, _, _, _, _, _, _, _, Same.mut z5 hF0, by rw [upd_ne nSF]; exact eS5, by rw [upd_same, nats_snoc], by rw [List.length_append, List.length_singleton]; omega, fun p => ?_, ?_, rfl⟩
            · rw [List.mem_append, List.mem_singleton, bp p]
              refine ⟨fun h => ?_, fun ⟨h1, h2⟩ => ?_⟩
              · rcases h with ⟨h1, h2⟩ | rfl
                · exact ⟨Nat.lt_succ_of_lt h1, h2⟩
                · exact ⟨Nat.lt_succ_self _, s0, ei, on⟩
              · rcases Nat.lt_succ_iff_lt_or_eq.mp h1 with h1 | h1
                · exact .inl ⟨h1, h2⟩
                · exact .inr h1
            · refine List.pairwise_append.mpr ⟨up, List.pairwise_singleton _ _, fun a ha b hb => ?_⟩
              rw [List.mem_singleton.mp hb]
              exact ((bp a).mp ha).1
          · walk_at "go"
            obtain ⟨x1, x2, x3, x4, x5, x6⟩ := skip fun z => c ((mem _).mpr z.2)
            exact ⟨ps, _, _, _, _, _, _, _, _, _, _, _, x1, x2, x3, x4, x5, x6, rfl⟩
        · walk_at "go"
          obtain ⟨x1, x2, x3, x4, x5, x6⟩ := skip fun z => c ((reach _).mpr z.1)
          refine iteF ?_
          walk_at "go"
          exact ⟨ps, _, _, _, _, _, _, _, _, _, _, _, x1, x2, x3, x4, x5, x6, rfl⟩
    · rintro σ H3 ⟨ps, a3, a4, a5, a6, a7, a8, a9, b0, b1, b2, b3, z3, eS3, eF3, lp, bp, up, rfl⟩
      walk_at "go"
      refine k F ps H3 z3 hF0 eF3 ⟨fun p => ?_, up⟩
      rw [bp p]
      exact ⟨fun h => h.2, fun h => ⟨let ⟨_, e, _⟩ := h; (List.getElem?_eq_some_iff.mp e).1, h⟩⟩
end
/-! ### tuples sliced and joined, the whole one among them -/
theorem k_slT {K : PySem.W.Frag} {H : Hp} {Q : VK} {a : Addr} {xs : List V} {lo hi : Option Int} (h : SqT K H a xs) (q : ∀ r H', Same H H' → SqT K H' r (cutV xs lo hi) → Q (.ref r) H') : rSlA K (.ref a) lo hi H Q := by
  refine ⟨a, xs, rfl, h, fun e => q a H (Same.refl _) ?_, fun _ p hp => q p _ (Same.new hp) (SqT.of upd_same)⟩
  have : cutV xs lo hi = xs := by
    unfold cutV
    rw [e.1, e.2, List.drop_zero, Nat.sub_zero, List.take_length]
  rw [this]
  exact h
theorem k_catT {K : PySem.W.Frag} {H : Hp} {Q : VK} {a b : Addr} {xs ys : List V} (ha : SqT K H a xs) (hb : SqT K H b ys) (l : xs.length + ys.length ≤ sizeLine) (q : ∀ r H', Same H H' → SqT K H' r (xs ++ ys) → Q (.ref r) H') : rCatA K (.ref a) (.ref b) H Q := by
  refine ⟨a, b, xs, ys, rfl, rfl, ha, hb, l, fun e => q b H (Same.refl _) (by rw [e]; exact hb), fun _ e => q a H (Same.refl _) (by rw [e, List.append_nil]; exact ha), fun _ _ p hp => q p _ (Same.new hp) (SqT.of upd_same)⟩
theorem cutV_drop (xs : List V) (k : Nat) : cutV xs (some ((k : Nat) : Int)) none = xs.drop k := by
  unfold cutV
  rw [HT.sIx_none, HT.sIx_nat]
  rcases Nat.le_total k xs.length with h | h
  · rw [Nat.min_eq_left h, List.take_of_length_le (by rw [List.length_drop]; exact Nat.le_refl _)]
  · rw [Nat.min_eq_right h, Nat.sub_self, List.take_zero, List.drop_eq_nil_of_le h]
theorem cutV_take (xs : List V) (k : Nat) : cutV xs none (some ((k : Nat) : Int)) = xs.take k := by
  unfold cutV
  rw [HT.sIx_none, HT.sIx_nat, List.drop_zero, Nat.sub_zero]
  rcases Nat.le_total k xs.length with h | h
  · rw [Nat.min_eq_left h]
  · rw [Nat.min_eq_right h, List.take_length, List.take_of_length_le h]
/-! ### _law_subsets -/
def okE (s : List Nat) (x : Nat) : Bool := match s.getLast? with
    | none => true
    | some y => decide (y < x)
theorem okE_none {s : List Nat} {x : Nat} (h : s.getLast? = none) : okE s x = true := by unfold okE; rw [h]
theorem okE_some {s : List Nat} {x y : Nat} (h : s.getLast? = some y) : okE s x = decide (y < x) := by unfold okE; rw [h]
def extL (xs s : List Nat) : List (List Nat) := (xs.filter (okE s)).map fun x => s ++ [x]
theorem subL_ext (xs : List Nat) (k : Nat) : subL xs (k + 1) = (subL xs k).flatMap (extL xs) := rfl
theorem flat_take {A B : Type} (f : A → List B) (l : List A) (j : Nat) : ((l.take j).flatMap f).length ≤ (l.flatMap f).length := by
  conv => rhs; rw [← List.take_append_drop j l]
  rw [List.flatMap_append, List.length_append]
  omega
theorem subL_len {xs : List Nat} : ∀ {k : Nat} {s : List Nat}, s ∈ subL xs k → s.length = k
  | 0, s, h => by
    rw [List.mem_singleton.mp h]
    rfl
  | k + 1, s, h => by
    rw [subL_ext] at h
    obtain ⟨s0, h0, h⟩ := List.mem_flatMap.mp h
    obtain ⟨y, hy, rfl⟩ := List.mem_map.mp h
    rw [List.length_append, subL_len h0]
    rfl
theorem extL_snoc {xs s : List Nat} {c x : Nat} (h : xs[c]? = some x) : extL (xs.take (c + 1)) s = extL (xs.take c) s ++ (if okE s x = true then [s ++ [x]] else []) := by
  unfold extL
  rw [List.take_add_one, h, List.filter_append, List.map_append]
  congr 1
  show (List.filter (okE s) [x]).map _ = _
  rw [List.filter_cons]
  by_cases q : okE s x = true
  · rw [if_pos q, if_pos q]
    rfl
  · rw [if_neg q, if_neg q]
    rfl
theorem extL_le (xs s : List Nat) : (extL xs s).length ≤ xs.length := by
  unfold extL
  rw [List.length_map]
  exact List.length_filter_le ..
theorem NsAt.app {K : PySem.W.Frag} {H : Hp} {us ws : List V} : ∀ {qss rss : List (List Nat)}, NsAt K H us qss → NsAt K H ws rss → NsAt K H (us ++ ws) (qss ++ rss) := fun {qss rss} h q => by
  refine ⟨by rw [List.length_append, List.length_append, h.1, q.1], fun i qs e => ?_⟩
  by_cases c : i < qss.length
  · rw [List.getElem?_append_left c] at e
    rw [List.getElem?_append_left (by rw [h.1]; exact c)]
    exact h.2 i qs e
  · rw [List.getElem?_append_right (by omega)] at e
    rw [List.getElem?_append_right (by rw [h.1]; omega), h.1]
    exact q.2 _ qs e
theorem at_last {xs : List V} {v : V} (h : xs.getLast? = some v) : atI xs (-1) = some v := by
  have l : 0 < xs.length := by cases xs with | nil => cases h | cons _ _ => exact Nat.succ_pos _
  unfold atI ixN
  rw [List.getLast?_eq_getElem?] at h
  rw [if_neg (by decide), if_pos (by omega)]
  show xs[(-1 + (xs.length : Int)).toNat]? = some v
  rw [show (-1 + (xs.length : Int)).toNat = xs.length - 1 by omega]
  exact h
def sp_subsets (K : PySem.W.Frag) : Sp := fun vs H Q _ => ∃ (p : Addr) (xs : List Nat) (k : Nat), vs = [.ref p, .int (k : Nat)] ∧ H p = some (.lst (nats xs)) ∧ xs.Pairwise (· < ·) ∧ xs.length ≤ 12 ∧ k ≤ 12 ∧
  ∀ q us H', Same H H' → H q = none → H' q = some (.lst us) → NsAt K H' us (subL xs k) → Q (.ref q) H'
def dN (es : List Nat) : PyData := .tuple (es.map fun e => PyData.int (e : Nat))
theorem dpN {K : PySem.W.Frag} {H : Hp} : ∀ (es : List Nat), DpAll K H (nats es) (es.map fun e => PyData.int (e : Nat))
  | [] => .nil
  | _ :: es => .cons (.int _) (dpN es)
theorem dpT {K : PySem.W.Frag} {H : Hp} {p : Addr} {es : List Nat} (h : SqT K H p (nats es)) : Dp K H (.ref p) (dN es) := .tup h (dpN es)
theorem dN_shaped : ∀ l : List Nat, PyData.canLayAll0 (l.map fun n => PyData.int (n : Nat)) = true ∧ PyData.depthAll (l.map fun n => PyData.int (n : Nat)) ≤ 3
  | [] => ⟨rfl, Nat.zero_le _⟩
  | n :: l => by
    obtain ⟨h1, h2⟩ := dN_shaped l
    constructor
    · show (true && PyData.canLayAll0 (l.map fun n => PyData.int (n : Nat))) = true
      rw [h1]
      rfl
    · show max (PyData.depth (PyData.int (n : Nat))) (PyData.depthAll (l.map fun n => PyData.int (n : Nat))) ≤ 3
      exact Nat.max_le.mpr ⟨show 0 ≤ 3 from Nat.zero_le _, h2⟩
theorem dN_sh (l : List Nat) : SeqAt.shaped (dN l) = true := by
  obtain ⟨h1, h2⟩ := dN_shaped l
  show (PyData.canLayAll0 (l.map fun n => PyData.int (n : Nat)) && decide (PyData.depthAll (l.map fun n => PyData.int (n : Nat)) + 1 ≤ 64)) = true
  rw [h1, Bool.true_and]
  exact decide_eq_true (by omega)
theorem dN_nil : ∀ l : List Nat, PyData.eqv (dN l) (dN []) = l.isEmpty
  | [] => rfl
  | _ :: _ => rfl
section
variable {P : Program} {w : World} {K : PySem.W.Frag} {mg : Str → Option Value} {base : Heap}
theorem ok_law_subsets (T : Txt K mg) : FnOk P w K mg base (L2.CX P w) 1 T.a_law_subsets T.fd_law_subsets ["_law_things", "_law_size"] (sp_subsets K) := by
  refine T.F_law_subsets.okX sc_law_subsets (fun vs H Q E h => ?_) (fun cdv A outer s H vs Q E hr h => ?_)
  · obtain ⟨p, xs, k, rfl, _⟩ := h
    rfl
  · obtain ⟨p, xs, k, rfl, hp, up, l12, k12, kk⟩ := h
    refine ⟨_, (PSs.nox (pss_cons (ps_set (i := 2) sc_law_subsets.nd rfl (Or.inl rfl) (pe_lst (pa_cons (pe_tup pa_nil) pa_nil)))
  (pss_cons (ps_for PassesOwn.never rfl (pi_range1 (by rfl) T.z_range (pa_cons (pv 1) pa_nil)) (pg_name (i := 3) sc_law_subsets.nd rfl (Or.inl rfl))
  (pss_cons (ps_set (i := 4) sc_law_subsets.nd rfl (Or.inl rfl) (pe_lst pa_nil))
  (pss_cons (ps_for PassesOwn.never rfl (pi_list (pv 2)) (pg_name (i := 5) sc_law_subsets.nd rfl (Or.inr rfl))
  (pss_one (ps_set (i := 4) sc_law_subsets.nd rfl (Or.inl rfl) (pe_op op_cat (pv 4) (pe_lc (own := [("_law_one", 6)]) (g := (gName 6)) rfl sc_law_subsets.nd (pi_list (pv 0)) (blkOk_by (own := [("_law_one", 6)]) (N := ["_law_things", "_law_size", "_law_found", "_law_turn", "_law_longer", "_law_some", "_law_one"]) (sc := defScope s_law_subsets) (by decide +kernel)) (fun _ _ _ _ _ => (pg_name (i := 6) sc_law_subsets.nd rfl (Or.inl rfl))) (fun _ _ _ _ _ => (pts_one (PW.pt (pw_or (pt_cmpR (show OpR _ _ (rEqD K) from op_eqD hr.units) (pv 5) (pe_tup pa_nil) (nomark _)) (pw_or1 (pt_cmpR op_gt (pv 6) (pe_ix (show IxR _ (rIxT K) from ix_tup) (pv 5) (pe_un un_neg pe_int) (fun _ _ => rfl)) (nomark _))))))) (fun _ _ _ _ _ => (pe_op (show OpR _ _ (rCatA K) from op_catA) (pv 5) (pe_tup (pa_cons (pv 6) pa_nil)))))))))
  (pss_one (ps_set (i := 2) sc_law_subsets.nd rfl (Or.inl rfl) (pv 4))))))
  (pss_one (ps_ret (pv 2)))))), ?_⟩
    walk_at "begin"
    walk_at "go"
    refine ⟨(by decide : 0 ≤ sizeLine), fun e0 h0 => ?_⟩
    walk_at "go"
    have z1 := Same.new (o := .tup []) h0
    have q1 := SqT.of (K := K) (upd_same (H := H) (a := e0) (o := .tup []))
    generalize upd H e0 (.tup []) = H1 at z1 q1 ⊢
    refine ⟨(by decide : 1 ≤ sizeLine), fun F hF => ?_⟩
    walk_at "go"
    have z2 := z1.trans (Same.new (o := .lst [V.ref e0]) hF)
    have eF := upd_same (H := H1) (a := F) (o := .lst [V.ref e0])
    have n2 : NsAt K (upd H1 F (.lst [V.ref e0])) [V.ref e0] (subL xs 0) := NsAt.nil.snoc ((Tups.new hF).sq q1)
    have hF0 := free_of z1 hF
    generalize upd H1 F (.lst [V.ref e0]) = H2 at z2 eF n2 ⊢
    refine k_rg (by omega) (by omega) ?_
    refine for_range (lo := 0) (n := ((k : Nat) : Int).toNat) (fun i σ H' => ∃ F us a3 a4 a5 a6, Same H H' ∧ H F = none ∧ H' F = some (.lst us) ∧ NsAt K H' us (subL xs i) ∧ σ = [some (.ref p), some (.int (k : Nat)), some (.ref F), a3, a4, a5, a6])
      ⟨F, _, _, _, _, _, z2, hF0, eF, n2, rfl⟩ ?_ ?_
    · rintro i σ H3 hi ⟨F, us, a3, a4, a5, a6, z3, hF0, eF3, n3, rfl⟩
      have ik : i < k := hi
      walk_at "go"
      refine ⟨(by decide : 0 ≤ sizeLine), fun L hL => ?_⟩
      walk_at "go"
      have zL := Same.new (o := .lst []) hL
      have eL := upd_same (H := H3) (a := L) (o := .lst [])
      have z4 := z3.trans zL
      have eF4 := zL _ _ eF3
      have n4 := n3.tups (same_tups zL)
      have hL0 := free_of z3 hL
      generalize upd H3 L (.lst []) = H4 at z4 eF4 n4 eL ⊢
      have small := subL_small up l12 (show i + 1 ≤ 12 by omega)
      refine ⟨F, rfl, ⟨_, SqL.of eF4⟩, for_list (xs := us) (fun j σ H' => ∃ L ws a5 a6, Same H H' ∧ H' F = some (.lst us) ∧ NsAt K H' us (subL xs i) ∧ H L = none ∧ H' L = some (.lst ws) ∧ NsAt K H' ws (((subL xs i).take j).flatMap (extL xs)) ∧ σ = [some (.ref p), some (.int (k : Nat)), some (.ref F), some (.int (0 + (i : Nat))), some (.ref L), a5, a6])
        ⟨L, [], _, _, z4, eF4, n4, hL0, eL, .nil, rfl⟩ (fun _ _ _ _ ⟨_, _, _, _, _, e, _⟩ => SqL.of e) ?_ ?_⟩
      · rintro j y σ H5 hy ⟨L, ws, b5, b6, z5, eF5, n5, hL0, eL5, w5, rfl⟩
        have jl : j < (subL xs i).length := by rw [← n5.1]; exact (List.getElem?_eq_some_iff.mp hy).1
        have es : (subL xs i)[j]? = some ((subL xs i)[j]'jl) := List.getElem?_eq_getElem jl
        obtain ⟨q, eq, hq⟩ := n5.2 _ _ es
        rw [hy] at eq
        cases eq
        have tk : ((subL xs i).take (j + 1)).flatMap (extL xs) = ((subL xs i).take j).flatMap (extL xs) ++ extL xs ((subL xs i)[j]'jl) := by
          rw [List.take_add_one, es, List.flatMap_append]
          congr 1
          show List.flatMap _ [(subL xs i)[j]'jl] = _
          rw [List.flatMap_cons, List.flatMap_nil, List.append_nil]
        have lim : (((subL xs i).take (j + 1)).flatMap (extL xs)).length < 1000 := Nat.lt_of_le_of_lt (flat_take (extL xs) (subL xs i) (j + 1)) (by rw [← subL_ext]; exact small)
        rw [tk] at lim
        have ls : ((subL xs i)[j]'jl).length ≤ 12 := by rw [subL_len (List.getElem_mem jl)]; omega
        generalize (subL xs i)[j]'jl = s0 at hq tk lim ls
        rw [tk]
        walk_at "go"
        have hp5 := z5 _ _ hp
        refine ⟨p, rfl, ⟨_, SqL.of hp5⟩, fun D hD => ?_⟩
        refine lc_list (xs := nats xs) (fun c H' => Same H5 H' ∧ ∃ vs, H' D = some (.lst vs) ∧ NsAt K H' vs (extL (xs.take c) s0)) ⟨Same.new hD, [], upd_same, .nil⟩ (fun _ H' _ ⟨z, _⟩ => SqL.of (z _ _ hp5)) ?_ ?_
        · rintro c y H6 hy ⟨z6, vs, eD, hv⟩
          obtain ⟨x, ex, rfl⟩ := nats_at hy
          rw [extL_snoc ex]
          have lv : vs.length ≤ 12 := by rw [hv.1]; exact Nat.le_trans (extL_le ..) (Nat.le_trans (List.length_take_le' ..) l12)
          have hq6 := (same_tups z6).sq hq
          walk_at "go"
          refine ⟨rfl, ?_⟩
          walk_at "go"
          refine ⟨(by decide : 0 ≤ sizeLine), fun N hN => ?_⟩
          have z7 := z6.trans (Same.new (o := .tup (nats [])) hN)
          have eD7 : (upd H6 N (.tup (nats []))) D = some (.lst vs) := by rw [upd_ne (ne_of_none eD hN)]; exact eD
          have hv7 := hv.tups (Tups.new (o := .tup (nats [])) hN)
          have hq7 := (same_tups z7).sq hq
          have qN := SqT.of (K := K) (upd_same (H := H6) (a := N) (o := .tup (nats [])))
          show rEqD K _ _ (upd H6 N (.tup (nats []))) _
          have fin : ∀ {H7}, Same H5 H7 → H7 D = some (.lst vs) → NsAt K H7 vs (extL (xs.take c) s0) → SqT K H7 q (nats s0) → (1 ≤ sizeLine ∧ ∀ X, H7 X = none → rCatA K (.ref q) (.ref X) (upd H7 X (.tup [.int (x : Nat)])) fun y H4 => ∃ acc, H4 D = some (.lst acc) ∧ acc.length < sizeLine ∧ Same H5 (upd H4 D (.lst (acc ++ [y]))) ∧ ∃ vs, (upd H4 D (.lst (acc ++ [y]))) D = some (.lst vs) ∧ NsAt K (upd H4 D (.lst (acc ++ [y]))) vs (extL (xs.take c) s0 ++ [s0 ++ [x]])) := fun {H7} z7 eD7 hv7 hq7 => by
            refine ⟨by decide, fun X hX => ?_⟩
            have z8 := z7.trans (Same.new (o := .tup [.int (x : Nat)]) hX)
            have eD8 : (upd H7 X (.tup [.int (x : Nat)])) D = some (.lst vs) := by rw [upd_ne (ne_of_none eD7 hX)]; exact eD7
            have hv8 := hv7.tups (Tups.new (o := .tup [.int (x : Nat)]) hX)
            refine k_catT ((Tups.new hX).sq hq7) (SqT.of upd_same) ?_ fun R H9 z9 hR => ?_
            · unfold nats
              rw [List.length_map]
              exact Nat.le_trans (show s0.length + 1 ≤ 13 by omega) (by decide)
            refine ⟨vs, z9 _ _ eD8, Nat.lt_of_le_of_lt lv (by decide), Same.mut (z8.trans z9) hD, _, upd_same, ?_⟩
            refine NsAt.tups ((hv8.tups (same_tups z9)).snoc (qs := s0 ++ [x]) ?_) (Tups.lst (z9 _ _ eD8))
            rw [nats_snoc]
            exact hR
          refine k_eqD (dpT hq7) (dpT qN) (dN_sh _) (dN_sh _) ?_
          rw [dN_nil]
          generalize upd H6 N (.tup (nats [])) = H7 at z7 eD7 hv7 hq7 ⊢
          cases es0 : s0.getLast? with
          | none =>
            have e0 : s0 = [] := List.getLast?_eq_none_iff.mp es0
            subst e0
            walk_at "go"
            refine iteT ?_
            walk_at "go"
            refine iteT ?_
            walk_at "go"
            rw [okE_none es0, if_pos rfl]
            obtain ⟨h1, h2⟩ := fin z7 eD7 hv7 hq7
            exact ⟨h1, h2⟩
          | some y =>
            have e0 : s0.isEmpty = false := by cases s0 with | nil => cases es0 | cons _ _ => rfl
            rw [e0]
            walk_at "go"
            refine iteF ?_
            walk_at "go"
            have el : (nats s0).getLast? = some (V.int (y : Nat)) := by unfold nats; rw [List.getLast?_map, es0]; rfl
            refine ⟨q, _, _, _, rfl, rfl, hq7, at_last el, ?_⟩
            show _
            walk_at "go"
            show if decide ((y : Int) < (x : Int)) = true then _ else _
            refine k_ite (fun c => ?_) (fun c => ?_)
            · have c' : y < x := by omega
              rw [okE_some es0, if_pos (decide_eq_true c')]
              walk_at "go"
              obtain ⟨h1, h2⟩ := fin z7 eD7 hv7 hq7
              exact ⟨h1, h2⟩
            · have c' : ¬ y < x := by omega
              rw [okE_some es0, if_neg (by rw [decide_eq_false c']; decide), List.append_nil]
              exact ⟨z7, vs, eD7, hv7⟩
        · rintro H6 ⟨z6, vs, eD, hv⟩
          rw [show (nats xs).length = xs.length from List.length_map _, List.take_length] at hv
          walk_at "go"
          have lw : ws.length + vs.length < 1000 := by rw [w5.1, hv.1, ← List.length_append]; exact lim
          refine ⟨L, D, ws, vs, rfl, rfl, z6 _ _ eL5, eD, Nat.le_of_lt (Nat.lt_trans lw (by decide)), fun X hX => ?_⟩
          walk_at "go"
          have zX := z6.trans (Same.new (o := .lst (ws ++ vs)) hX)
          have tX := same_tups zX
          refine ⟨X, _, _, _, z5.trans zX, zX _ _ eF5, n5.tups tX, free_of (z5.trans z6) hX, upd_same, (w5.tups tX).app (hv.tups (Tups.new hX)), rfl⟩
      · rintro σ H5 ⟨L, ws, b5, b6, z5, eF5, n5, hL0, eL5, w5, rfl⟩
        rw [n5.1, List.take_length, ← subL_ext] at w5
        walk_at "go"
        exact ⟨L, ws, _, _, _, _, z5, hL0, eL5, w5, rfl⟩
    · rintro σ H3 ⟨F, us, a3, a4, a5, a6, z3, hF0, eF3, n3, rfl⟩
      walk_at "go"
      exact kk F us H3 z3 hF0 eF3 n3
end
/-! ### _law_few -/
def cutM (m : MD) (k : Nat) (es : List Nat) : MD := { n := m.n, ss := m.ss.take k, es := es }
theorem cutM_ok {m : MD} (o : m.Ok) (k : Nat) : (cutM m k m.es).Ok ∧ (cutM m k []).Ok := by
  have s : ∀ t ∈ m.ss.take k, t ∈ m.ss := fun t h => List.mem_of_mem_take h
  have p : (m.ss.take k).Pairwise Stp.lt := o.up.sublist (List.take_sublist ..)
  have l : (m.ss.take k).length ≤ 32 := Nat.le_trans (List.length_take_le' ..) o.len
  exact ⟨⟨o.n1, o.n8, fun t h => o.ok t (s t h), p, l, o.eb, o.eu, o.el⟩, ⟨o.n1, o.n8, fun t h => o.ok t (s t h), p, l, fun _ h => absurd h (by simp [cutM]), .nil, Nat.zero_le _⟩⟩
theorem StpsAt.take {K : PySem.W.Frag} {H : Hp} {us : List V} {ss : List Stp} (h : StpsAt K H us ss) (k : Nat) : StpsAt K H (us.take k) (ss.take k) :=
  ⟨by rw [List.length_take, List.length_take, h.1], fun i s e => by
    rw [List.getElem?_take] at e
    split at e
    · rename_i c
      obtain ⟨p, a, b⟩ := h.2 i s e
      exact ⟨p, by rw [List.getElem?_take, if_pos c]; exact a, b⟩
    · cases e⟩
def sp_few (K : PySem.W.Frag) : Sp := fun vs H Q _ => ∃ (a : Addr) (sz : Int), vs = [.ref a, .int sz] ∧ 0 ≤ sz ∧ 2 * sz + 1 ≤ 10 ^ 30 ∧ RowOk K H a ∧
  ∀ (d : Addr) (m : MD) (H' : Hp), m.Ok → m.ss.length ≤ 12 → DAt K H' d m → RowOk K H' a → Q (.ref d) H'
section
variable {P : Program} {w : World} {K : PySem.W.Frag} {mg : Str → Option Value} {base : Heap}
theorem ok_law_few (T : Txt K mg) : FnOk P w K mg base (L2.CX P w) 3 T.a_law_few T.fd_law_few ["_law_row", "_law_size"] (sp_few K) := by
  refine T.F_law_few.okX sc_law_few (fun vs H Q E h => ?_) (fun cdv A outer s H vs Q E hr h => ?_)
  · obtain ⟨a, sz, rfl, _⟩ := h
    rfl
  · obtain ⟨a, sz, rfl, s0, s1, R, k⟩ := h
    refine ⟨_, (PSs.nox (pss_cons (ps_set (i := 2) sc_law_few.nd rfl (Or.inl rfl) (pe_call (ok_law_parts T) (hr.mono (by decide)) (by rfl) T.m_law_parts T.k_law_parts T.b_law_parts .nil passL (pa_cons (pv 0) (pa_cons pe_int (pa_cons (pv 1) pa_nil)))))
  (pss_one (ps_ret (pe_disp (pps_cons pe_str (pe_dget (hu_of hr) (pv 2) pe_str (fun _ _ => rfl)) (pps_cons pe_str (pe_slice sl_tupA (pe_dget (hu_of hr) (pv 2) pe_str (fun _ _ => rfl)) po_none (po_some pe_int)) (pps_cons pe_str (pe_dget (hu_of hr) (pv 2) pe_str (fun _ _ => rfl)) pps_nil))) (by rfl) (by rfl) (fun z => by cases z) (by decide)))))), ?_⟩
    walk_at "begin"
    walk_at "go"
    refine ⟨a, 4, sz, rfl, by decide, by decide, s0, s1, R, fun d m H1 o _ _ hd R1 K1 _ => ?_⟩
    obtain ⟨t, u, ed, ⟨us, ht, hu⟩, he⟩ := id hd
    walk_at "go"
    intro e he3
    have z0 := Same.new (o := .dK []) he3
    have ed0 := z0 _ _ ed
    have ee0 := upd_same (H := H1) (a := e) (o := .dK [])
    have ht0 := (same_tups z0).sq ht
    have nR := R1.same z0
    have hu0 := (same_tups z0).steps hu
    have he0 := (same_tups z0).sq he
    generalize upd H1 e (.dK []) = H2 at z0 ed0 ee0 ht0 nR hu0 he0 ⊢
    walk_at "go"
    refine ⟨d, _, rfl, DGet.k (k := .inr "stands") ed0, ?_⟩
    walk_at "go"
    refine ⟨d, .ref t, rfl, DGet.k (k := .inr "steps") ed0, ?_⟩
    walk_at "go"
    refine k_slT ht0 fun r H3 z3 hr3 => ?_
    rw [show (some (7 : Int)) = some ((7 : Nat) : Int) from rfl, cutV_take] at hr3
    walk_at "go"
    refine ⟨d, _, rfl, DGet.k (k := .inr "ends") (z3 _ _ ed0), ?_⟩
    walk_at "go"
    refine ⟨z3 _ _ ee0, [(.inr "stands", .int (m.n : Nat)), (.inr "steps", .ref r), (.inr "ends", .ref u)], rfl, show 3 ≤ 15 by decide, ?_⟩
    have t3 : Tups H3 (upd H3 e (.dK [(.inr "stands", .int (m.n : Nat)), (.inr "steps", .ref r), (.inr "ends", .ref u)])) := Keep.tupsD Keep.at_ (z3 _ _ ee0)
    refine k e (cutM m 7 m.es) _ (cutM_ok o 7).1 (Nat.le_trans (List.length_take_le ..) (by decide)) ⟨r, u, upd_same, ⟨us.take 7, t3.sq hr3, t3.steps (((same_tups z3).steps hu0).take 7)⟩, t3.sq ((same_tups z3).sq he0)⟩ ?_
    exact R1.same (Same.mut (z0.trans z3) he3)
end
/-! ### the law -/
theorem dAll_ns {K : PySem.W.Frag} {H : Hp} : ∀ {us : List V} {qss : List (List Nat)}, NsAt K H us qss → DpAll K H us (qss.map dN)
  | [], [], _ => .nil
  | u :: us, qs :: qss, h => by
    obtain ⟨p, e, q⟩ := h.2 0 qs rfl
    cases e
    exact .cons (dpT q) (dAll_ns ⟨Nat.succ.inj h.1, fun i t e => h.2 (i + 1) t e⟩)
  | [], _ :: _, h => nomatch h.1
  | _ :: _, [], h => nomatch h.1
def dNs (qss : List (List Nat)) : PyData := .list (qss.map dN)
theorem dpNs {K : PySem.W.Frag} {H : Hp} {p : Addr} {us : List V} {qss : List (List Nat)} (e : H p = some (.lst us)) (h : NsAt K H us qss) : Dp K H (.ref p) (dNs qss) := .lst (SqL.of e) (dAll_ns h)
theorem dNs_shaped : ∀ l : List (List Nat), PyData.canLayAll0 (l.map dN) = true ∧ PyData.depthAll (l.map dN) ≤ 5
  | [] => ⟨rfl, Nat.zero_le _⟩
  | n :: l => by
    obtain ⟨h1, h2⟩ := dNs_shaped l
    obtain ⟨h3, h4⟩ := dN_shaped n
    constructor
    · show (PyData.canLay0 (dN n) && PyData.canLayAll0 (l.map dN)) = true
      rw [h1, Bool.and_true]
      exact h3
    · show max (PyData.depth (dN n)) (PyData.depthAll (l.map dN)) ≤ 5
      refine Nat.max_le.mpr ⟨?_, h2⟩
      show PyData.depthAll (n.map fun n => PyData.int (n : Nat)) + 1 ≤ 5
      omega
theorem dNs_sh (l : List (List Nat)) : SeqAt.shaped (dNs l) = true := by
  obtain ⟨h1, h2⟩ := dNs_shaped l
  show (PyData.canLayAll0 (l.map dN) && decide (PyData.depthAll (l.map dN) + 1 ≤ 64)) = true
  rw [h1, Bool.true_and]
  exact decide_eq_true (by omega)
theorem q_refl {d : PyData} (h : SeqAt.shaped d = true) : PyData.eqv d d = true := SeqAt.eqv_refl d (Bool.and_eq_true_iff.mp h).1
theorem dNs_nil : ∀ l : List (List Nat), PyData.eqv (dNs l) (dNs []) = l.isEmpty
  | [] => rfl
  | _ :: _ => rfl
theorem dNs_one : ∀ l : List (List Nat), PyData.eqv (dNs l) (dNs [[]]) = decide (l = [[]])
  | [] => rfl
  | [[]] => rfl
  | [_ :: _] => by rw [decide_eq_false (fun z => by cases z)]; rfl
  | [] :: _ :: _ => by rw [decide_eq_false (fun z => by cases z)]; rfl
  | (_ :: _) :: _ :: _ => by rw [decide_eq_false (fun z => by cases z)]; rfl
/-- what stands while the law goes on -/
def Stg (K : PySem.W.Frag) (C : Addr) (H : Hp) (a d mc I : Addr) (m : MD) (ps : List Nat) : Prop := DAt K H d m ∧ MAt K C H mc m ∧ H I = some (.lst (nats ps)) ∧ a ≠ I
theorem Stg.same {K : PySem.W.Frag} {C : Addr} {H H' : Hp} {a d mc I : Addr} {m : MD} {ps : List Nat} (h : Stg K C H a d mc I m ps) (z : Same H H') : Stg K C H' a d mc I m ps := ⟨h.1.same z, h.2.1.same z, z _ _ h.2.2.1, h.2.2.2⟩
theorem Stg.keep {K : PySem.W.Frag} {C : Addr} {H H' : Hp} {a d mc I : Addr} {m : MD} {ps : List Nat} {l : List V} (h : Stg K C H a d mc I m ps) (k : Keep a H H') (e : H a = some (.lst l)) : Stg K C H' a d mc I m ps := ⟨h.1.keep k e, h.2.1.keep k e, k _ _ h.2.2.2.symm h.2.2.1, h.2.2.2⟩
theorem good_lev {m : MD} (o : m.Ok) {ps qs : List Nat} : goodB m ps qs = true ↔ Lev (subS m.ss ps qs) := lev_numG fun s hs => by
  obtain ⟨p, _, _, e⟩ := subS_mem.mp hs
  have := o.ok s (List.mem_of_getElem? e)
  exact ⟨this.b, this.e⟩
theorem IsMends.uniq {m : MD} {ps : List Nat} {q q' : List (List Nat)} (h : IsMends m ps q) (h' : IsMends m ps q') : q = q' := by
  obtain ⟨r, _, h1, h2, h3⟩ := h
  obtain ⟨r', _, h1', h2', h3'⟩ := h'
  have : r = r' := by
    rcases Nat.lt_trichotomy r r' with c | c | c
    · exact absurd (h1' r c) h2
    · exact c
    · exact absurd (h1 r' c) h2'
  rw [h3, h3', this]
theorem subL_up {xs : List Nat} : ∀ {k : Nat} {s : List Nat}, s ∈ subL xs k → s.Pairwise (· < ·)
  | 0, s, h => by
    rw [List.mem_singleton.mp h]
    exact .nil
  | k + 1, s, h => by
    rw [subL_ext] at h
    obtain ⟨s0, h0, h⟩ := List.mem_flatMap.mp h
    obtain ⟨y, hy, rfl⟩ := List.mem_map.mp h
    have up := subL_up h0
    have q := (List.mem_filter.mp hy).2
    refine List.pairwise_append.mpr ⟨up, List.pairwise_singleton _ _, fun a ha b hb => ?_⟩
    rw [List.mem_singleton.mp hb]
    cases e : s0.getLast? with
    | none => rw [List.getLast?_eq_none_iff.mp e] at ha; cases ha
    | some z =>
      rw [okE_some e] at q
      have q := of_decide_eq_true q
      have ne : s0 ≠ [] := fun c => by rw [c] at ha; cases ha
      have ed := List.dropLast_concat_getLast ne
      have ez : s0.getLast ne = z := by
        rw [List.getLast?_eq_some_getLast ne] at e
        exact Option.some.inj e
      rw [ez] at ed
      rw [← ed] at ha up
      rcases List.mem_append.mp ha with ha | ha
      · have := (List.pairwise_append.mp up).2.2 a ha z (List.mem_singleton.mpr rfl)
        omega
      · rw [List.mem_singleton.mp ha]
        exact q
theorem IsMends.sub {m : MD} {ps : List Nat} {q : List (List Nat)} (h : IsMends m ps q) {s : List Nat} (hs : s ∈ q) : ∃ r, s ∈ subL ps r := by
  obtain ⟨r, _, _, _, e⟩ := h
  rw [e] at hs
  exact ⟨r, (List.mem_filter.mp hs).1⟩
theorem IsMends.small {m : MD} {ps : List Nat} {q : List (List Nat)} (h : IsMends m ps q) (up : ps.Pairwise (· < ·)) (l : ps.length ≤ 12) : q.length < 1000 := by
  obtain ⟨r, hr, _, _, e⟩ := h
  rw [e]
  exact Nat.lt_of_le_of_lt (List.length_filter_le ..) (subL_small up l (Nat.le_trans hr l))
theorem lev_same {ss tt : List Stp} (h : ∀ s, s ∈ ss ↔ s ∈ tt) : Lev ss ↔ Lev tt := ⟨fun ⟨f, q⟩ => ⟨f, fun s hs => q s ((h s).mpr hs)⟩, fun ⟨f, q⟩ => ⟨f, fun s hs => q s ((h s).mp hs)⟩⟩
theorem good_nil {m : MD} (o : m.Ok) {ps : List Nat} (pl : PlacesOf m ps) : goodB m ps [] = true ↔ Lev (loopS m) := by
  rw [good_lev o]
  refine lev_same fun s => ?_
  rw [subS_mem, mem_loopS]
  constructor
  · rintro ⟨p, hp, _, e⟩
    obtain ⟨t, et, ht⟩ := (pl.mem p).mp hp
    rw [e] at et
    cases et
    exact ⟨List.mem_of_getElem? e, ht⟩
  · rintro ⟨hs, ho⟩
    obtain ⟨p, lp, e⟩ := List.getElem_of_mem hs
    have e' : m.ss[p]? = some s := by rw [List.getElem?_eq_getElem lp, e]
    exact ⟨p, (pl.mem p).mpr ⟨s, e', ho⟩, by simp, e'⟩
theorem IsMends.one {m : MD} (o : m.Ok) {ps : List Nat} (pl : PlacesOf m ps) {q : List (List Nat)} (h : IsMends m ps q) : q = [[]] ↔ Lev (loopS m) := by
  rw [← good_nil o pl]
  obtain ⟨r, _, h1, h2, e⟩ := h
  have s0 : goodB m ps [] = true → setsL m ps 0 = [[]] := fun g => by
    show List.filter _ [[]] = _
    rw [List.filter_cons, if_pos g]
    rfl
  constructor
  · intro eq
    have : [] ∈ setsL m ps r := by rw [← e, eq]; exact List.mem_singleton.mpr rfl
    exact (List.mem_filter.mp this).2
  · intro g
    have r0 : r = 0 := Classical.byContradiction fun c => by
      have := h1 0 (by omega)
      rw [s0 g] at this
      cases this
    rw [e, r0, s0 g]
theorem edge_flat {sg : Int} {m : MD} {l : List Nat} {r : V} (h : EdgeOf sg m l r) : flatV r = true := by
  rcases h with ⟨e, _⟩ | ⟨v, e, _⟩ <;> rw [e] <;> rfl
theorem edges_flat {m : MD} {l : List Nat} {r1 r2 : V} (h1 : EdgeOf (-1) m l r1) (h2 : EdgeOf 1 m l r2) : [r1, r2].all flatV = true := by
  rw [List.all_cons, List.all_cons, edge_flat h1, edge_flat h2]
  rfl
theorem edges_in {m : MD} {l : List Nat} {r1 r2 : V} {p : Prop} [Decidable p] (h1 : EdgeOf (-1) m l r1) (h2 : EdgeOf 1 m l r2) (h : p ↔ (r1 ≠ .non ∧ r2 ≠ .non)) : decide p = !inV .non [r1, r2] := by
  rcases h1 with ⟨e, _⟩ | ⟨v, e, _⟩ <;> rcases h2 with ⟨e', _⟩ | ⟨v', e', _⟩ <;> subst e <;> subst e'
  · rw [decide_eq_false (fun z => (h.mp z).1 rfl)]; rfl
  · rw [decide_eq_false (fun z => (h.mp z).1 rfl)]; rfl
  · rw [decide_eq_false (fun z => (h.mp z).2 rfl)]; rfl
  · rw [decide_eq_true (h.mpr ⟨(fun z => by cases z), (fun z => by cases z)⟩)]; rfl
def Trn (K : PySem.W.Frag) (C : Addr) (H : Hp) (a d mc I L : Addr) (m : MD) (ps : List Nat) (us : List V) (qss : List (List Nat)) : Prop := Stg K C H a d mc I m ps ∧ RowOk K H a ∧ H L = some (.lst us) ∧ NsAt K H us qss ∧ a ≠ L
theorem Trn.same {K : PySem.W.Frag} {C : Addr} {H H' : Hp} {a d mc I L : Addr} {m : MD} {ps : List Nat} {us : List V} {qss : List (List Nat)} (h : Trn K C H a d mc I L m ps us qss) (z : Same H H') : Trn K C H' a d mc I L m ps us qss :=
  let ⟨h1, h2, h3, h4, h5⟩ := h; ⟨h1.same z, h2.same z, z _ _ h3, h4.tups (same_tups z), h5⟩
theorem Trn.keep {K : PySem.W.Frag} {C : Addr} {H H' : Hp} {a d mc I L : Addr} {m : MD} {ps : List Nat} {us : List V} {qss : List (List Nat)} {l : List V} (h : Trn K C H a d mc I L m ps us qss) (k : Keep a H H') (e : H a = some (.lst l)) (r : RowOk K H' a) : Trn K C H' a d mc I L m ps us qss :=
  let ⟨h1, _, h3, h4, h5⟩ := h; ⟨h1.keep k e, r, k _ _ h5.symm h3, h4.tups (k.tups e), h5⟩
theorem mend_lev {m : MD} {ps qs : List Nat} (g : goodB m ps qs = true) (lt : ∀ p ∈ ps, p < m.ss.length) : Lev (selS (mendS m.ss (numG (subS m.ss ps qs) m.n) qs) ps) := by
  refine ⟨fun n => (numG (subS m.ss ps qs) m.n n).getD 0, fun s hs => ?_⟩
  obtain ⟨p, hp, e⟩ := selS_mem.mp hs
  have ei : m.ss[p]? = some (m.ss[p]'(lt p hp)) := List.getElem?_eq_getElem (lt p hp)
  rw [mendS_at ei] at e
  generalize m.ss[p]'(lt p hp) = s0 at ei e
  by_cases c : p ∈ qs
  · rw [if_pos c] at e
    cases e
    show (numG (subS m.ss ps qs) m.n s0.b).getD 0 + ((numG (subS m.ss ps qs) m.n s0.e).getD 0 - (numG (subS m.ss ps qs) m.n s0.b).getD 0) = (numG (subS m.ss ps qs) m.n s0.e).getD 0
    omega
  · rw [if_neg c] at e
    cases e
    have := of_decide_eq_true (List.all_eq_true.mp g _ (subS_mem.mpr ⟨p, hp, c, ei⟩))
    show (numG (subS m.ss ps qs) m.n s.b).getD 0 + s.g = (numG (subS m.ss ps qs) m.n s.e).getD 0
    omega
theorem mend_bd {ss : List Stp} {f : LF} {qs : List Nat} {N : Nat} (h : ∀ s ∈ ss, s.b < N ∧ s.e < N) : ∀ s ∈ mendS ss f qs, s.b < N ∧ s.e < N := fun s hs => by
  obtain ⟨p, lp, e⟩ := List.getElem_of_mem hs
  have lp' : p < ss.length := by rw [mendS_len] at lp; exact lp
  have e' : (mendS ss f qs)[p]? = some s := by rw [List.getElem?_eq_getElem lp, e]
  rw [mendS_at (List.getElem?_eq_getElem lp')] at e'
  have b := h _ (List.getElem_mem lp')
  generalize ss[p]'lp' = s0 at e' b
  by_cases c : p ∈ qs
  · rw [if_pos c] at e'
    cases e'
    exact b
  · rw [if_neg c] at e'
    cases e'
    exact b
def d3 (s : Stp) : PyData := .tuple [.int (s.b : Nat), .str ⟨#[s.c]⟩, .int (s.e : Nat)]
def d4 (s : Stp) : PyData := .tuple [.int (s.b : Nat), .str ⟨#[s.c]⟩, .int (s.e : Nat), .int s.g]
theorem dp3 {K : PySem.W.Frag} {H : Hp} {p : Addr} {s : Stp} (h : SqT K H p ((stpV s).take 3)) : Dp K H (.ref p) (d3 s) := .tup h (.cons (.int _) (.cons (.str _) (.cons (.int _) .nil)))
theorem dp4 {K : PySem.W.Frag} {H : Hp} {p : Addr} {s : Stp} (h : SqT K H p (stpV s)) : Dp K H (.ref p) (d4 s) := .tup h (.cons (.int _) (.cons (.str _) (.cons (.int _) (.cons (.int _) .nil))))
theorem d3_sh {s : Stp} (h : s.c ≤ 100) : SeqAt.shaped (d3 s) = true := by
  show ((true && ((#[s.c].all (· < 0x110000)) && (true && true))) && decide (max _ (max _ (max _ _)) + 1 ≤ 64)) = true
  simp [PyData.depth, PyData.depthAll]
  omega
theorem d4_sh {s : Stp} (h : s.c ≤ 100) : SeqAt.shaped (d4 s) = true := by
  show ((true && ((#[s.c].all (· < 0x110000)) && (true && (true && true)))) && decide (max _ (max _ (max _ (max _ _))) + 1 ≤ 64)) = true
  simp [PyData.depth, PyData.depthAll]
  omega
/-- the sets due so far -/
def DueAt (m : MD) (ps : List Nat) (i : Nat) (qss : List (List Nat)) : Prop := (qss = [] ∧ ∀ k, k < i → setsL m ps k = []) ∨ ∃ r, r < i ∧ (∀ k, k < r → setsL m ps k = []) ∧ setsL m ps r ≠ [] ∧ qss = setsL m ps r
def sp_law (K : PySem.W.Frag) : Sp := fun vs H Q _ => ∃ (sc : Addr) (ns : List Int), vs = [.ref sc] ∧ ScAt K H sc (ns.map V.int) ∧ ns.length ≤ 63 ∧ ∀ H', Q (.bl true) H'
section
variable {P : Program} {w : World} {K : PySem.W.Frag} {mg : Str → Option Value} {base : Heap}
theorem ok_law (T : Txt K mg) : FnOk P w K mg base (L2.CX P w) 20 T.a_law T.fd_law ["_law_script"] (sp_law K) := by
  refine T.F_law.okX sc_law (fun vs H Q E h => ?_) (fun cdv A outer s H vs Q E hr h => ?_)
  · obtain ⟨sc, ns, rfl, _⟩ := h
    rfl
  · obtain ⟨sc, ns, rfl, hsc, hns, k⟩ := h
    refine ⟨_, (PSs.nox (pss_cons (ps_set (i := 1) sc_law.nd rfl (Or.inr rfl) (pe_lst (pa_cons (pv 0) (pa_cons pe_int (pa_cons pe_int (pa_cons pe_int pa_nil))))))
  (pss_cons (ps_set (i := 2) sc_law.nd rfl (Or.inl rfl) (pe_call (ok_law_few T) (hr.mono (by decide)) (by rfl) T.m_law_few T.k_law_few T.b_law_few .nil passL (pa_cons (pv 1) (pa_cons (pe_ix ix_list (pe_lst (pa_cons pe_int (pa_cons (pe_op op_pow pe_int pe_int) pa_nil))) (pe_call (ok_law_taken T) (hr.mono (by decide)) (by rfl) T.m_law_taken T.k_law_taken T.b_law_taken .nil passL (pa_cons (pv 1) (pa_cons pe_int pa_nil))) (fun _ _ => rfl)) pa_nil))))
  (C8.pss_cut (ps_if (pt_cmpR op_eq (pe_call (ok_law_taken T) (hr.mono (by decide)) (by rfl) T.m_law_taken T.k_law_taken T.b_law_taken .nil passL (pa_cons (pv 1) (pa_cons pe_int pa_nil))) pe_int (nomark _))
  (pss_cons (ps_set (i := 2) sc_law.nd rfl (Or.inl rfl) (pe_call (ok_law_parts T) (hr.mono (by decide)) (by rfl) T.m_law_parts T.k_law_parts T.b_law_parts .nil passL (pa_cons (pv 1) (pa_cons pe_int (pa_cons pe_int pa_nil)))))
  (pss_one (ps_set (i := 2) sc_law.nd rfl (Or.inl rfl) (pe_disp (pps_cons pe_str (pe_dget (hu_of hr) (pv 2) pe_str (fun _ _ => rfl)) (pps_cons pe_str (pe_slice sl_tupA (pe_dget (hu_of hr) (pv 2) pe_str (fun _ _ => rfl)) po_none (po_some pe_int)) (pps_cons pe_str (pe_tup pa_nil) pps_nil))) (by rfl) (by rfl) (fun z => by cases z) (by decide)))))
  pss_nil)
  (pss_cons (ps_par3 (i := 3) (j := 4) (l := 5) (by rfl) sc_law.nd rfl rfl rfl (by decide) (by decide) (by decide) rfl rfl rfl (pa_cons (pe_call (ok_law_machine T) (hr.mono (by decide)) (by rfl) T.m_law_machine T.k_law_machine T.b_law_machine .nil passL (pa_cons (pv 2) pa_nil)) (pa_cons (pe_call (ok_law_inner T) (hr.mono (by decide)) (by rfl) T.m_law_inner T.k_law_inner T.b_law_inner .nil passL (pa_cons (pv 2) pa_nil)) (pa_cons (pe_lst pa_nil) pa_nil))) (by rfl))
  (C8.pss_cut (ps_for PassesOwn.never rfl (pi_range1 (by rfl) T.z_range (pa_cons (pe_op op_add (pe_callB call_len_seq (by rfl) T.z_len PySem.boot_len (pa_cons (pv 4) pa_nil)) pe_int) pa_nil)) (pg_name (i := 6) sc_law.nd rfl (Or.inl rfl))
  (pss_one (ps_if (pt_cmpR (op_eqD hr.units) (pv 5) (pe_lst pa_nil) (nomark _))
  (pss_one (ps_for PassesOwn.never rfl (pi_list (pe_call (ok_law_subsets T) (hr.mono (by decide)) (by rfl) T.m_law_subsets T.k_law_subsets T.b_law_subsets .nil passL (pa_cons (pv 4) (pa_cons (pv 6) pa_nil)))) (pg_name (i := 7) sc_law.nd rfl (Or.inr rfl))
  (pss_one (ps_if (pt_val (pe_call (ok_law_level T) (hr.mono (by decide)) (by rfl) T.m_law_level T.k_law_level T.b_law_level .nil passL (pa_cons (pv 2) (pa_cons (pe_lc (own := [("_law_at", 10)]) (g := (gName 10)) rfl sc_law.nd (pi_list (pv 4)) (blkOk_by (own := [("_law_at", 10)]) (N := ["_law_script", "_law_row", "_law_d", "_law_machine_here", "_law_inner_here", "_law_due", "_law_size", "_law_some", "_law_turn", "_law_steps", "_law_at", "_law_other"]) (sc := defScope s_law) (by decide +kernel)) (fun _ _ _ _ _ => (pg_name (i := 10) sc_law.nd rfl (Or.inl rfl))) (fun _ _ _ _ _ => (pts_one (pt_cmpR (show OpR _ _ (rIn K true) from op_notIn_seq) (pv 10) (pv 7) (by rfl)))) (fun _ _ _ _ _ => (pv 10))) pa_nil))))
  (pss_one (ps_expr (pe_bm PySem.F.plainAttrs_list PySem.F.slot_list_append PySem.F.type_list_append mt_append (pv 5) (pa_cons (pv 7) pa_nil))))
  pss_nil))))
  pss_nil)))
  (C8.pss_cut (ps_if (PW.pt (pw_or (pt_cmpR (op_neD hr.units) (pe_call (ok_mends T) (hr.mono (by decide)) (by rfl) T.m_mends T.k_mends T.b_mends .nil passL (pa_cons (pv 3) pa_nil)) (pv 5) (nomark _)) (pw_or1 (pt_cmpR op_ne (pe_cmpR (op_eqD hr.units) (pv 5) (pe_lst (pa_cons (pe_tup pa_nil) pa_nil)) (nomark _)) (pe_cmpR op_notIn_seq pe_non (pe_call (ok_bounds T) (hr.mono (by decide)) (by rfl) T.m_bounds T.k_bounds T.b_bounds .nil passL (pa_cons (pv 3) pa_nil)) (by rfl)) (nomark _)))))
  (pss_one (ps_ret pe_bl))
  pss_nil)
  (pss_cons (ps_for PassesOwn.never rfl (pi_range1 (by rfl) T.z_range (pa_cons pe_int pa_nil)) (pg_name (i := 8) sc_law.nd rfl (Or.inl rfl))
  (pss_cons (ps_set (i := 7) sc_law.nd rfl (Or.inr rfl) (pe_callTy call_tuple_of (by rfl) T.z_tuple PySem.Pv.boot_tuple (pa_cons (pe_lc (own := [("_law_at", 10)]) (g := (gName 10)) rfl sc_law.nd (pi_range1 (by rfl) T.z_range (pa_cons (pe_callB call_len_seq (by rfl) T.z_len PySem.boot_len (pa_cons (pe_dget (hu_of hr) (pv 2) pe_str (fun _ _ => rfl)) pa_nil)) pa_nil)) (blkOk_by (own := [("_law_at", 10)]) (N := ["_law_script", "_law_row", "_law_d", "_law_machine_here", "_law_inner_here", "_law_due", "_law_size", "_law_some", "_law_turn", "_law_steps", "_law_at", "_law_other"]) (sc := defScope s_law) (by decide +kernel)) (fun _ _ _ _ _ => (pg_name (i := 10) sc_law.nd rfl (Or.inl rfl))) (fun _ _ _ _ _ => (pts_one (pt_cmpR op_eq (pe_call (ok_law_taken T) (hr.mono (by decide)) (by rfl) T.m_law_taken T.k_law_taken T.b_law_taken .nil passL (pa_cons (pv 1) (pa_cons pe_int pa_nil))) pe_int (nomark _)))) (fun _ _ _ _ _ => (pv 10))) pa_nil)))
  (C8.pss_cut (ps_if (pt_cmpR op_lt (pv 8) pe_int (nomark _))
  (pss_one (ps_set (i := 7) sc_law.nd rfl (Or.inr rfl) (pe_ix ix_list (pv 5) (pe_call (ok_law_taken T) (hr.mono (by decide)) (by rfl) T.m_law_taken T.k_law_taken T.b_law_taken .nil passL (pa_cons (pv 1) (pa_cons (pe_callB call_len_seq (by rfl) T.z_len PySem.boot_len (pa_cons (pv 5) pa_nil)) pa_nil))) (fun _ _ => rfl))))
  pss_nil)
  (pss_cons (ps_set (i := 9) sc_law.nd rfl (Or.inl rfl) (pe_call (ok_mended T) (hr.mono (by decide)) (by rfl) T.m_mended T.k_mended T.b_mended .nil passL (pa_cons (pv 3) (pa_cons (pv 7) pa_nil))))
  (pss_cons (ps_if (pt_cmpR op_ne (pe_cmp (pc_notN (pv 9))) (pe_call (ok_law_level T) (hr.mono (by decide)) (by rfl) T.m_law_level T.k_law_level T.b_law_level .nil passL (pa_cons (pv 2) (pa_cons (pe_lc (own := [("_law_at", 10)]) (g := (gName 10)) rfl sc_law.nd (pi_list (pv 4)) (blkOk_by (own := [("_law_at", 10)]) (N := ["_law_script", "_law_row", "_law_d", "_law_machine_here", "_law_inner_here", "_law_due", "_law_size", "_law_some", "_law_turn", "_law_steps", "_law_at", "_law_other"]) (sc := defScope s_law) (by decide +kernel)) (fun _ _ _ _ _ => (pg_name (i := 10) sc_law.nd rfl (Or.inl rfl))) (fun _ _ _ _ _ => (pts_one (pt_cmpR (show OpR _ _ (rIn K true) from op_notIn_seq) (pv 10) (pv 7) (by rfl)))) (fun _ _ _ _ _ => (pv 10))) pa_nil))) (nomark _))
  (pss_one (ps_ret pe_bl))
  pss_nil)
  (pss_one (ps_if (pt_cmp (pc_notN (pv 9)))
  (pss_cons (ps_if (PW.pt (pw_or (pt_not (pt_val (pe_callB call_isi (by rfl) T.z_isinstance (by decide +kernel) (pa_cons (pv 9) (pa_cons (pe_bltn (v := .ty "tuple") (by rfl) T.z_tuple (by decide +kernel) rfl) pa_nil))))) (pw_or1 (pt_cmpR op_ne (pe_callB call_len_seq (by rfl) T.z_len PySem.boot_len (pa_cons (pv 9) pa_nil)) (pe_callB call_len_seq (by rfl) T.z_len PySem.boot_len (pa_cons (pe_dget (hu_of hr) (pv 2) pe_str (fun _ _ => rfl)) pa_nil)) (nomark _)))))
  (pss_one (ps_ret pe_bl))
  pss_nil)
  (pss_cons (ps_for PassesOwn.never rfl (pi_range1 (by rfl) T.z_range (pa_cons (pe_callB call_len_seq (by rfl) T.z_len PySem.boot_len (pa_cons (pv 9) pa_nil)) pa_nil)) (pg_name (i := 10) sc_law.nd rfl (Or.inl rfl))
  (pss_one (ps_if (PW.pt (pw_or (pt_cmpR (op_neD hr.units) (pe_slice sl_tupA (pe_ix ix_tup (pv 9) (pv 10) (fun _ _ => rfl)) po_none (po_some pe_int)) (pe_slice sl_tupA (pe_ix ix_tup (pe_dget (hu_of hr) (pv 2) pe_str (fun _ _ => rfl)) (pv 10) (fun _ _ => rfl)) po_none (po_some pe_int)) (nomark _)) (pw_or1 (PW.pt (pw_and (pt_cmpR op_notIn_seq (pv 10) (pv 7) (by rfl)) (pw_and1 (pt_cmpR (op_neD hr.units) (pe_ix ix_tup (pv 9) (pv 10) (fun _ _ => rfl)) (pe_ix ix_tup (pe_dget (hu_of hr) (pv 2) pe_str (fun _ _ => rfl)) (pv 10) (fun _ _ => rfl)) (nomark _))))))))
  (pss_one (ps_ret pe_bl))
  pss_nil)))
  (pss_cons (ps_set (i := 11) sc_law.nd rfl (Or.inl rfl) (pe_disp (pps_cons pe_str (pe_dget (hu_of hr) (pv 2) pe_str (fun _ _ => rfl)) (pps_cons pe_str (pv 9) (pps_cons pe_str (pe_tup pa_nil) pps_nil))) (by rfl) (by rfl) (fun z => by cases z) (by decide)))
  (pss_one (ps_if (pt_not (pt_val (pe_call (ok_law_level T) (hr.mono (by decide)) (by rfl) T.m_law_level T.k_law_level T.b_law_level .nil passL (pa_cons (pv 11) (pa_cons (pv 4) pa_nil)))))
  (pss_one (ps_ret pe_bl))
  pss_nil)))))
  pss_nil)))))))
  (pss_one (ps_ret pe_bl)))))))))), ?_⟩
    walk_at "begin"
    walk_at "go"
    refine ⟨(by decide : 4 ≤ sizeLine), fun a ha => ?_⟩
    have R1 : RowOk K (upd H a (.lst [.ref sc, .int 0, .int 225, .int 0])) a := ⟨sc, ns, 0, 225, 0, upd_same, hsc.same (Same.new ha), hns, by decide, by decide, by decide⟩
    walk_at "go"
    generalize upd H a (.lst [.ref sc, .int 0, .int 225, .int 0]) = H1 at R1 ⊢
    refine k_I ⟨by decide, by decide, by decide⟩ ?_
    walk_at "go"
    refine ⟨(by decide : 2 ≤ sizeLine), fun c hc => ?_⟩
    walk_at "go"
    have nac2 : a ≠ c := R1.ne hc
    refine ⟨a, 2, rfl, by decide, by decide, R1.same (Same.new hc), fun y H3 y0 y1 R3 K3 => ?_⟩
    have ec2 : H3 c = some (.lst [.int 3, .int (10 ^ Int.toNat 29)]) := K3 _ _ nac2.symm upd_same
    obtain ⟨sz, hsz, s0, s1⟩ : ∃ sz : Int, atI [V.int 3, V.int (10 ^ Int.toNat 29)] y = some (.int sz) ∧ 0 ≤ sz ∧ 2 * sz + 1 ≤ 10 ^ 30 := by
      have : y = 0 ∨ y = 1 := by omega
      rcases this with rfl | rfl
      · exact ⟨3, rfl, by decide, by decide⟩
      · exact ⟨10 ^ Int.toNat 29, rfl, by decide, by decide⟩
    refine k_ixL (SqL.of ec2) hsz ?_
    walk_at "go"
    refine ⟨a, sz, rfl, s0, s1, R3, fun d m H4 o l12 hd R4 => ?_⟩
    walk_at "go"
    refine k_cut (fun σ' H' => ∃ d m, m.Ok ∧ m.ss.length ≤ 12 ∧ DAt K H' d m ∧ RowOk K H' a ∧ σ' = [some (.ref sc), some (.ref a), some (.ref d), none, none, none, none, none, none, none, none, none]) ?_ ?_
    · walk_at "go"
      refine ⟨a, 3, rfl, by decide, by decide, R4, fun x H5 x0 x1 R5 K5 => ?_⟩
      obtain ⟨l4, e4⟩ := R4.lst
      have hd5 := hd.keep K5 e4
      walk_at "go"
      refine k_ite (fun c => ?_) (fun c => ?_)
      · walk_at "go"
        refine ⟨a, 6, 3, rfl, by decide, by decide, by decide, by decide, R5, fun d2 m2 H6 o2 _ _ hd2 R6 _ _ => ?_⟩
        obtain ⟨t, u, ed, ⟨us, ht, hu⟩, he⟩ := id hd2
        walk_at "go"
        intro e he3
        have z0 := Same.new (o := .dK []) he3
        have ed0 := z0 _ _ ed
        have ee0 := upd_same (H := H6) (a := e) (o := .dK [])
        have ht0 := (same_tups z0).sq ht
        have hu0 := (same_tups z0).steps hu
        generalize upd H6 e (.dK []) = H7 at z0 ed0 ee0 ht0 hu0 ⊢
        walk_at "go"
        refine ⟨d2, _, rfl, DGet.k (k := .inr "stands") ed0, ?_⟩
        walk_at "go"
        refine ⟨d2, .ref t, rfl, DGet.k (k := .inr "steps") ed0, ?_⟩
        walk_at "go"
        refine k_slT ht0 fun r H8 z3 hr3 => ?_
        rw [show (some (12 : Int)) = some ((12 : Nat) : Int) from rfl, cutV_take] at hr3
        walk_at "go"
        refine ⟨(by decide : 0 ≤ sizeLine), fun u2 hu2 => ?_⟩
        have z4 := z3.trans (Same.new (o := .tup []) hu2)
        have q4 := SqT.of (K := K) (upd_same (H := H8) (a := u2) (o := .tup []))
        have hr4 := (Tups.new (o := .tup []) hu2).sq hr3
        generalize upd H8 u2 (.tup []) = H9 at z4 q4 hr4 ⊢
        walk_at "go"
        refine ⟨z4 _ _ ee0, [(.inr "stands", .int (m2.n : Nat)), (.inr "steps", .ref r), (.inr "ends", .ref u2)], rfl, show 3 ≤ 15 by decide, ?_⟩
        have t3 : Tups H9 (upd H9 e (.dK [(.inr "stands", .int (m2.n : Nat)), (.inr "steps", .ref r), (.inr "ends", .ref u2)])) := Keep.tupsD Keep.at_ (z4 _ _ ee0)
        walk_at "go"
        exact ⟨e, cutM m2 12 [], (cutM_ok o2 12).2, List.length_take_le .., ⟨r, u2, upd_same, ⟨us.take 12, t3.sq hr4, t3.steps (((same_tups z4).steps hu0).take 12)⟩, t3.sq q4⟩, R6.same (Same.mut (z0.trans z4) he3), rfl⟩
      · walk_at "go"
        exact ⟨d, m, o, l12, hd5, R5, rfl⟩
    · clear R1 R3 R4 K3 hd hsz ec2 hc nac2 o l12 s0 s1 ha
      rintro σ H0 ⟨d, m, o, l12, hd, R, rfl⟩
      walk_at "go"
      refine ⟨d, m, rfl, hd, o, fun mc H1 z1 hmc hm => ?_⟩
      walk_at "go"
      refine ⟨d, m, rfl, hd.same z1, o, fun I ps H2 z2 hI eI pl => ?_⟩
      walk_at "go"
      refine ⟨(by decide : 0 ≤ sizeLine), fun L hL => ?_⟩
      walk_at "go"
      have z3 := Same.new (o := .lst []) hL
      have z13 := (z1.trans z2).trans z3
      have R3 := R.same z13
      have S3 : Stg K T.c_Machine (upd H2 L (.lst [])) a d mc I m ps := ⟨hd.same z13, hm.same (z2.trans z3), z3 _ _ eI, (R.same z1).ne hI⟩
      have eL := upd_same (H := H2) (a := L) (o := .lst [])
      have hL2 : H2 L = none := hL
      have naL : a ≠ L := (R.same (z1.trans z2)).ne hL
      have nIL : I ≠ L := ne_of_none eI hL
      have S2 : Stg K T.c_Machine H2 a d mc I m ps := ⟨hd.same (z1.trans z2), hm.same z2, eI, (R.same z1).ne hI⟩
      have R2 := R.same (z1.trans z2)
      generalize upd H2 L (.lst []) = H3 at z3 R3 S3 eL ⊢
      clear hm hd z13 hmc hI
      have lps : ps.length ≤ 12 := Nat.le_trans pl.len l12
      have lnp : (nats ps).length = ps.length := List.length_map _
      have n8 := o.n8
      have bd : ∀ s ∈ m.ss, s.b < m.n ∧ s.e < m.n := fun s hs => ⟨(o.ok s hs).b, (o.ok s hs).e⟩
      refine k_cut (fun σ' H' => ∃ us qss a6 a7 a8 a9 a10 a11, Same H2 H' ∧ H' L = some (.lst us) ∧ NsAt K H' us qss ∧ DueAt m ps (ps.length + 1) qss ∧ σ' = [some (.ref sc), some (.ref a), some (.ref d), some (.ref mc), some (.ref I), some (.ref L), a6, a7, a8, a9, a10, a11]) ?_ ?_
      · walk_at "go"
        refine ⟨I, nats ps, rfl, .inl (SqL.of S3.2.2.1), ?_⟩
        walk_at "go"
        refine k_rg (by omega) (by omega) ?_
        refine for_range (lo := 0) (n := (((nats ps).length : Int) + 1).toNat) (fun i σ H' => ∃ us qss a6 a7 a8 a9 a10 a11, Same H2 H' ∧ H' L = some (.lst us) ∧ NsAt K H' us qss ∧ DueAt m ps i qss ∧ σ = [some (.ref sc), some (.ref a), some (.ref d), some (.ref mc), some (.ref I), some (.ref L), a6, a7, a8, a9, a10, a11])
          ⟨_, _, _, _, _, _, _, _, z3, eL, .nil, .inl ⟨rfl, fun k h => absurd h (Nat.not_lt_zero _)⟩, rfl⟩ ?_ ?_
        · rintro i σ H4 hi ⟨us, qss, a6, a7, a8, a9, a10, a11, z4, eL4, hn4, due, rfl⟩
          have il : i ≤ ps.length := by rw [lnp] at hi; omega
          have z0 : (0 + (i : Nat) : Int) = ((i : Nat) : Int) := by omega
          rw [z0]
          walk_at "go"
          refine ⟨(by decide : 0 ≤ sizeLine), fun c hc => ?_⟩
          have z5 := z4.trans (Same.new (o := .lst []) hc)
          have eL5 : (upd H4 c (.lst [])) L = some (.lst us) := by rw [upd_ne (ne_of_none eL4 hc)]; exact eL4
          have hn5 := hn4.tups (Tups.new (o := .lst []) hc)
          refine k_eqD (dpNs eL5 hn5) (dpNs (upd_same (H := H4) (a := c) (o := .lst [])) .nil) (dNs_sh _) (dNs_sh _) ?_
          rw [dNs_nil]
          generalize upd H4 c (.lst []) = H5 at z5 eL5 hn5 ⊢
          have S5 := S2.same z5
          cases qss with
          | cons q0 qs0 =>
            walk_at "go"
            refine iteF ?_
            walk_at "go"
            refine ⟨us, _, _, _, _, _, _, _, z5, eL5, hn5, ?_, rfl⟩
            rcases due with ⟨e, _⟩ | ⟨r, h1, h2⟩
            · cases e
            · exact .inr ⟨r, Nat.lt_succ_of_lt h1, h2⟩
          | nil =>
            have no : ∀ k, k < i → setsL m ps k = [] := by
              rcases due with ⟨_, h⟩ | ⟨r, h1, h2, h3, h4⟩
              · exact h
              · exact absurd h4.symm h3
            clear due hn4 z4 eL4 hc
            walk_at "go"
            refine iteT ?_
            walk_at "go"
            refine ⟨I, ps, i, rfl, S5.2.2.1, pl.up, lps, by omega, fun q us2 H6 z6 hq eq hs => ?_⟩
            have nqL : q ≠ L := (ne_of_none eL5 hq).symm
            refine ⟨q, rfl, ⟨_, SqL.of eq⟩, for_list (xs := us2) (fun j σ H' => ∃ us a7 a8 a9 a10 a11, Same H2 H' ∧ H' q = some (.lst us2) ∧ NsAt K H' us2 (subL ps i) ∧ H' L = some (.lst us) ∧ NsAt K H' us (((subL ps i).take j).filter (goodB m ps)) ∧ σ = [some (.ref sc), some (.ref a), some (.ref d), some (.ref mc), some (.ref I), some (.ref L), some (.int (i : Nat)), a7, a8, a9, a10, a11])
              ⟨us, _, _, _, _, _, z5.trans z6, eq, hs, z6 _ _ eL5, hn5.tups (same_tups z6), rfl⟩ (fun _ _ _ _ ⟨_, _, _, _, _, _, _, e, _⟩ => SqL.of e) ?_ ?_⟩
            · rintro j y σ H7 hy ⟨us7, b7, b8, b9, b10, b11, z7, eq7, hs7, eL7, hn7, rfl⟩
              have jl : j < (subL ps i).length := by rw [← hs7.1]; exact (List.getElem?_eq_some_iff.mp hy).1
              have es : (subL ps i)[j]? = some ((subL ps i)[j]'jl) := List.getElem?_eq_getElem jl
              obtain ⟨qq, eqq, hqq⟩ := hs7.2 _ _ es
              rw [hy] at eqq
              cases eqq
              have small := subL_small pl.up lps (show i ≤ 12 by omega)
              have lus : us7.length < sizeLine := by
                rw [hn7.1]
                exact Nat.lt_of_le_of_lt (Nat.le_trans (List.length_filter_le ..) (Nat.le_trans (List.length_take_le' ..) (Nat.le_of_lt small))) (by decide)
              rw [List.take_add_one, es, List.filter_append]
              generalize (subL ps i)[j]'jl = qs at hqq es
              have S7 := S2.same z7
              walk_at "go"
              refine ⟨I, rfl, ⟨_, SqL.of S7.2.2.1⟩, fun D hD => ?_⟩
              refine lc_list (xs := nats ps) (fun c H' => Same H7 H' ∧ H' D = some (.lst (nats ((ps.take c).filter fun p => decide (p ∉ qs))))) ⟨Same.new hD, upd_same⟩ (fun _ H' _ ⟨z, _⟩ => SqL.of (z _ _ S7.2.2.1)) ?_ ?_
              · rintro c y H8 hy ⟨z8, eD⟩
                obtain ⟨n, en, rfl⟩ := nats_at hy
                rw [List.take_add_one, en, List.filter_append]
                have lD : (nats ((ps.take c).filter fun p => decide (p ∉ qs))).length < sizeLine := by
                  unfold nats
                  rw [List.length_map]
                  exact Nat.lt_of_le_of_lt (Nat.le_trans (List.length_filter_le ..) (Nat.le_trans (List.length_take_le' ..) lps)) (by decide)
                generalize (ps.take c).filter (fun p => decide (p ∉ qs)) = xs at eD lD ⊢
                walk_at "go"
                refine ⟨rfl, ?_⟩
                walk_at "go"
                refine ⟨qq, nats qs, rfl, .inr ((same_tups z8).sq hqq), rfl, flat_nats _, ?_⟩
                rw [inV_nats]
                walk_at "go"
                refine k_iteN (fun c => ?_) (fun c => ?_)
                · rw [show (some n).toList.filter (fun p => decide (p ∉ qs)) = [] by show List.filter _ [n] = _; rw [List.filter_cons, if_neg (by rw [decide_eq_false (fun z => z c)]; decide)]; rfl, List.append_nil]
                  exact ⟨z8, eD⟩
                · rw [show (some n).toList.filter (fun p => decide (p ∉ qs)) = [n] by show List.filter _ [n] = _; rw [List.filter_cons, if_pos (decide_eq_true c)]; rfl]
                  walk_at "go"
                  exact ⟨_, eD, lD, Same.mut z8 hD, by rw [upd_same, nats_snoc]⟩
              · rintro H8 ⟨z8, eD⟩
                rw [lnp, List.take_length] at eD
                walk_at "go"
                refine ⟨d, D, m.n, m.ss, _, rfl, .of (S7.1.same z8), n8, bd, o.len, eD, fun p hp => pl.lt p (List.mem_filter.mp hp).1, Nat.le_trans (List.length_filter_le ..) (Nat.le_trans lps (by decide)), fun b H9 z9 hb => ?_⟩
                rw [← subS_sel, ← good_lev o] at hb
                have eb : b = goodB m ps qs := Bool.eq_iff_iff.mpr hb
                have z79 := z8.trans z9
                walk_at "go"
                refine k_bool (fun c => ?_) (fun c => ?_)
                · walk_at "go"
                  have eL9 := z79 _ _ eL7
                  rw [show (some qs).toList.filter (goodB m ps) = [qs] by show List.filter _ [qs] = _; rw [List.filter_cons, if_pos (by rw [← eb, c])]; rfl]
                  refine ⟨.inl ⟨rfl, _, SqL.of eL9⟩, ?_⟩
                  walk_at "go"
                  refine k_append eL9 lus ?_
                  have tL := Tups.lst (o := .lst (us7 ++ [V.ref qq])) eL9
                  exact ⟨us7 ++ [V.ref qq], _, _, _, _, _, Same.mut (z7.trans z79) hL2, by rw [upd_ne nqL]; exact z79 _ _ eq7, (hs7.tups (same_tups z79)).tups tL, upd_same, ((hn7.tups (same_tups z79)).snoc ((same_tups z79).sq hqq)).tups tL, rfl⟩
                · walk_at "go"
                  rw [show (some qs).toList.filter (goodB m ps) = [] by show List.filter _ [qs] = _; rw [List.filter_cons, if_neg (by rw [← eb, c]; decide)]; rfl, List.append_nil]
                  exact ⟨us7, _, _, _, _, _, z7.trans z79, z79 _ _ eq7, hs7.tups (same_tups z79), z79 _ _ eL7, hn7.tups (same_tups z79), rfl⟩
            · rintro σ H7 ⟨us7, b7, b8, b9, b10, b11, z7, eq7, hs7, eL7, hn7, rfl⟩
              rw [hs7.1, List.take_length] at hn7
              refine ⟨us7, setsL m ps i, _, _, _, _, _, _, z7, eL7, hn7, ?_, rfl⟩
              by_cases ne : setsL m ps i = []
              · refine .inl ⟨ne, fun k hk => ?_⟩
                rcases Nat.lt_succ_iff_lt_or_eq.mp hk with h | h
                · exact no k h
                · rw [h]; exact ne
              · exact .inr ⟨i, Nat.lt_succ_self _, no, ne, rfl⟩
        · rintro σ H4 ⟨us, qss, a6, a7, a8, a9, a10, a11, z4, eL4, hn4, due, rfl⟩
          rw [show (((nats ps).length : Int) + 1).toNat = ps.length + 1 by rw [lnp]; omega] at due
          exact ⟨us, qss, _, _, _, _, _, _, z4, eL4, hn4, due, rfl⟩
      · rintro σ H4 ⟨us, qss, a6, a7, a8, a9, a10, a11, z4, eL4, hn4, due, rfl⟩
        have im : IsMends m ps qss := by
          rcases due with ⟨_, h⟩ | ⟨r, h1, h2, h3, h4⟩
          · have := h ps.length (Nat.lt_succ_self _)
            rw [setsL_full pl.up lps] at this
            cases this
          · exact ⟨r, Nat.lt_succ_iff.mp h1, h2, h3, h4⟩
        have S4 := S2.same z4
        have R4 := R2.same z4
        clear due
        walk_at "go"
        refine k_cut (fun σ' H' => Same H4 H' ∧ σ' = [some (.ref sc), some (.ref a), some (.ref d), some (.ref mc), some (.ref I), some (.ref L), a6, a7, a8, a9, a10, a11]) ?_ ?_
        · walk_at "go"
          refine ⟨mc, m, rfl, S4.2.1, o, l12, fun M us2 H5 ps' qss' z5 hM eM pl' im' hn5 => ?_⟩
          have eps : ps' = ps := asc_eq pl'.up pl.up fun n => (pl'.mem n).trans (pl.mem n).symm
          subst eps
          have eqq : qss' = qss := im'.uniq im
          subst eqq
          have hn45 := hn4.tups (same_tups z5)
          walk_at "go"
          refine k_neD (dpNs eM hn5) (dpNs (z5 _ _ eL4) hn45) (dNs_sh _) (dNs_sh _) ?_
          rw [q_refl (dNs_sh _)]
          walk_at "go"
          refine iteF ?_
          walk_at "go"
          refine ⟨(by decide : 0 ≤ sizeLine), fun e0 h0 => ?_⟩
          walk_at "go"
          have z6 := z5.trans (Same.new (o := .tup []) h0)
          have q6 := SqT.of (K := K) (upd_same (H := H5) (a := e0) (o := .tup []))
          generalize upd H5 e0 (.tup []) = H6 at z6 q6 ⊢
          refine ⟨(by decide : 1 ≤ sizeLine), fun F hF => ?_⟩
          have z7 := z6.trans (Same.new (o := .lst [V.ref e0]) hF)
          have eF := upd_same (H := H6) (a := F) (o := .lst [V.ref e0])
          have n7 : NsAt K (upd H6 F (.lst [V.ref e0])) [V.ref e0] [[]] := NsAt.nil.snoc ((Tups.new hF).sq q6)
          refine k_eqD (dpNs (z7 _ _ eL4) (hn4.tups (same_tups z7))) (dpNs eF n7) (dNs_sh _) (dNs_sh _) ?_
          rw [dNs_one]
          generalize upd H6 F (.lst [V.ref e0]) = H7 at z7 eF n7 ⊢
          walk_at "go"
          refine ⟨mc, m, rfl, (S4.same z7).2.1, o, fun l r1 r2 q H8 hl z8 hq eq e1 e2 => ?_⟩
          have bl := bounds_lev o hl e1 e2
          have mo := (im.one o pl).trans bl.symm
          have eb : decide (qss' = [[]]) = !inV .non [r1, r2] := edges_in e1 e2 mo
          show rIn K true V.non (.ref q) H8 _
          refine ⟨q, [r1, r2], rfl, .inr (SqT.of eq), rfl, edges_flat e1 e2, ?_⟩
          rw [eb]
          show rNe (V.bl (!inV .non [r1, r2])) (V.bl (!inV .non [r1, r2])) H8 _
          walk_at "go"
          refine k_no (by rw [decide_eq_true rfl]; rfl) ?_
          walk_at "go"
          exact ⟨z7.trans z8, rfl⟩
        · rintro σ H5 ⟨z5, rfl⟩
          walk_at "go"
          have tr : Trn K T.c_Machine H5 a d mc I L m ps us qss := ⟨S4.same z5, R4.same z5, z5 _ _ eL4, hn4.tups (same_tups z5), naL⟩
          clear z5 S4 R4 hn4 eL4 z4 S2 R2 S3 R3 z3 eL z1 z2 eI hL hL2 nIL R
          refine k_rg (by decide) (by decide) ?_
          refine for_range (lo := 0) (n := 5) (fun i σ H' => ∃ a6 a7 a8 a9 a10 a11, Trn K T.c_Machine H' a d mc I L m ps us qss ∧ σ = [some (.ref sc), some (.ref a), some (.ref d), some (.ref mc), some (.ref I), some (.ref L), a6, a7, a8, a9, a10, a11])
            ⟨_, _, _, _, _, _, tr, rfl⟩ ?_ ?_
          · clear tr
            rintro i σ H5 hi ⟨a6, a7, a8, a9, a10, a11, tr, rfl⟩
            have S5 := tr.1
            have R5 := tr.2.1
            obtain ⟨lr5, er5⟩ := R5.lst
            obtain ⟨t, u, ed, ⟨ts, ht, hu⟩, _⟩ := id S5.1
            have lts : ts.length = m.ss.length := hu.1
            walk_at "go"
            refine ⟨d, .ref t, rfl, DGet.k (k := .inr "steps") ed, ?_⟩
            walk_at "go"
            refine ⟨t, ts, rfl, .inr ht, ?_⟩
            walk_at "go"
            refine k_rg (by omega) (by omega) fun B hB => ?_
            have nB : a ≠ B := R5.ne hB
            rw [lts]
            refine lc_range (lo := 0) (n := (((m.ss.length : Nat) : Int)).toNat) (fun i H' => Keep a H5 H' ∧ RowOk K H' a ∧ ∃ es : List Nat, H' B = some (.lst (nats es)) ∧ es.length ≤ i ∧ (∀ e ∈ es, e < i) ∧ es.Pairwise (· < ·))
              ⟨Keep.new hB, R5.same (Same.new hB), [], upd_same, Nat.le_refl _, fun _ h => absurd h (by simp), .nil⟩ ?_ ?_
            · rintro i H6 hi ⟨K6, R6, es, eB, h1, h2, h3⟩
              have il : i < m.ss.length := hi
              walk_at "go"
              refine ⟨rfl, ?_⟩
              walk_at "go"
              refine ⟨a, 2, rfl, by omega, by decide, R6, fun x H7 _ _ R7 K7 => ?_⟩
              have eB7 := K7 _ _ nB.symm eB
              walk_at "go"
              refine k_ite (fun c => ?_) (fun c => ?_)
              · walk_at "go"
                have z0 : (0 + (i : Nat) : Int) = ((i : Nat) : Int) := by omega
                rw [z0]
                refine ⟨_, eB7, ?_, (K6.trans K7).mut hB, R7.keep nB eB7 Keep.at_, es ++ [i], by rw [upd_same, nats_snoc], by rw [List.length_append, List.length_singleton]; omega, fun e he => ?_, ?_⟩
                · have : (nats es).length < 100 := by unfold nats; rw [List.length_map]; omega
                  exact Nat.lt_trans this (by decide)
                · rcases List.mem_append.mp he with he | he
                  · have := h2 e he; omega
                  · have := List.mem_singleton.mp he; omega
                · refine List.pairwise_append.mpr ⟨h3, List.pairwise_singleton _ _, fun e he f hf => ?_⟩
                  have := List.mem_singleton.mp hf
                  have := h2 e he
                  omega
              · exact ⟨K6.trans K7, R7, es, eB7, by omega, fun e he => by have := h2 e he; omega, h3⟩
            · rintro H6 ⟨K6, R6, es, eB, h1, h2, h3⟩
              rw [show ((m.ss.length : Nat) : Int).toNat = m.ss.length from rfl] at h1 h2
              walk_at "go"
              refine ⟨B, _, rfl, .inl ⟨SqL.of eB, fun q hq => ?_⟩⟩
              walk_at "go"
              have tr6 := (tr.keep K6 er5 R6).same (Same.new (o := .tup (nats es)) hq)
              have sq := SqT.of (K := K) (upd_same (H := H6) (a := q) (o := .tup (nats es)))
              generalize upd H6 q (.tup (nats es)) = H7 at tr6 sq ⊢
              clear K6 R6 eB hq hB nB R5 S5 er5 ed ht hu tr
              refine k_cut (fun σ' H' => ∃ t qs b6 b8 b9 b10 b11, Trn K T.c_Machine H' a d mc I L m ps us qss ∧ SqT K H' t (nats qs) ∧ (∀ q ∈ qs, q < m.ss.length) ∧ qs.Pairwise (· < ·) ∧ σ' = [some (.ref sc), some (.ref a), some (.ref d), some (.ref mc), some (.ref I), some (.ref L), b6, some (.ref t), b8, b9, b10, b11]) ?_ ?_
              · walk_at "go"
                refine k_ite (fun c => ?_) (fun c => ?_)
                · walk_at "go"
                  have qne : qss ≠ [] := by
                    obtain ⟨r, _, _, h2, h3⟩ := im
                    rw [h3]
                    exact h2
                  have lus : us.length = qss.length := tr6.2.2.2.1.1
                  have q0 : 0 < qss.length := by
                    cases qss with
                    | nil => exact absurd rfl qne
                    | cons _ _ => exact Nat.succ_pos _
                  have q1 : qss.length < 1000 := im.small pl.up lps
                  refine ⟨L, us, rfl, .inl (SqL.of tr6.2.2.1), ?_⟩
                  walk_at "go"
                  refine ⟨a, ((us.length : Nat) : Int), rfl, by omega, ?_, tr6.2.1, fun x H8 x0 x1 R8 K8 => ?_⟩
                  · exact Nat.lt_of_lt_of_le (show ((us.length : Nat) : Int).natAbs < 2 ^ 10 by rw [lus]; show qss.length < 1024; omega) (Nat.pow_le_pow_right (by decide) (by decide))
                  obtain ⟨l7, e7⟩ := tr6.2.1.lst
                  have tr8 := tr6.keep K8 e7 R8
                  have xl : x.toNat < qss.length := by omega
                  have ex : qss[x.toNat]? = some (qss[x.toNat]'xl) := List.getElem?_eq_getElem xl
                  obtain ⟨qq, eqq, hqq⟩ := tr8.2.2.2.1.2 _ _ ex
                  have inq := im.sub (List.getElem_mem xl)
                  generalize qss[x.toNat]'xl = qs at hqq inq
                  walk_at "go"
                  refine k_ixL (SqL.of tr8.2.2.1) (v := .ref qq) (at_of (j := x.toNat) (by omega) eqq) ?_
                  walk_at "go"
                  exact ⟨qq, qs, _, _, _, _, _, tr8, hqq, fun q hq => pl.lt q (subL_in inq.choose_spec q hq), subL_up inq.choose_spec, rfl⟩
                · walk_at "go"
                  exact ⟨q, es, _, _, _, _, _, tr6, sq, h2, h3, rfl⟩
              · rintro σ H8 ⟨t, qs, b6, b8, b9, b10, b11, tr8, hq8, lq, uq, rfl⟩
                walk_at "go"
                refine ⟨mc, t, m, qs, rfl, tr8.1.2.1, o, l12, hq8, lq, uq, fun ps' pl' => ?_⟩
                have eps : ps' = ps := asc_eq pl'.up pl.up fun n => (pl'.mem n).trans (pl.mem n).symm
                subst eps
                refine ⟨fun g r H9 z9 hr9 st9 => ?_, fun g H9 z9 => ?_⟩
                · walk_at "go"
                  have tr9 := tr8.same z9
                  have hq9 := (same_tups z9).sq hq8
                  refine ⟨I, rfl, ⟨_, SqL.of tr9.1.2.2.1⟩, fun D hD => ?_⟩
                  refine lc_list (xs := nats ps') (fun c H' => Same H9 H' ∧ H' D = some (.lst (nats ((ps'.take c).filter fun p => decide (p ∉ qs))))) ⟨Same.new hD, upd_same⟩ (fun _ H' _ ⟨z, _⟩ => SqL.of (z _ _ tr9.1.2.2.1)) ?_ ?_
                  · rintro c y H10 hy ⟨z10, eD⟩
                    obtain ⟨n, en, rfl⟩ := nats_at hy
                    rw [List.take_add_one, en, List.filter_append]
                    have lD : (nats ((ps'.take c).filter fun p => decide (p ∉ qs))).length < sizeLine := by
                      unfold nats
                      rw [List.length_map]
                      exact Nat.lt_of_le_of_lt (Nat.le_trans (List.length_filter_le ..) (Nat.le_trans (List.length_take_le' ..) lps)) (by decide)
                    generalize (ps'.take c).filter (fun p => decide (p ∉ qs)) = xs at eD lD ⊢
                    walk_at "go"
                    refine ⟨rfl, ?_⟩
                    walk_at "go"
                    refine ⟨t, nats qs, rfl, .inr ((same_tups z10).sq hq9), rfl, flat_nats _, ?_⟩
                    rw [inV_nats]
                    walk_at "go"
                    refine k_iteN (fun c => ?_) (fun c => ?_)
                    · rw [show (some n).toList.filter (fun p => decide (p ∉ qs)) = [] by show List.filter _ [n] = _; rw [List.filter_cons, if_neg (by rw [decide_eq_false (fun z => z c)]; decide)]; rfl, List.append_nil]
                      exact ⟨z10, eD⟩
                    · rw [show (some n).toList.filter (fun p => decide (p ∉ qs)) = [n] by show List.filter _ [n] = _; rw [List.filter_cons, if_pos (decide_eq_true c)]; rfl]
                      walk_at "go"
                      exact ⟨_, eD, lD, Same.mut z10 hD, by rw [upd_same, nats_snoc]⟩
                  · rintro H10 ⟨z10, eD⟩
                    rw [lnp, List.take_length] at eD
                    walk_at "go"
                    refine ⟨d, D, m.n, m.ss, _, rfl, .of (tr9.1.1.same z10), n8, bd, o.len, eD, fun p hp => pl.lt p (List.mem_filter.mp hp).1, Nat.le_trans (List.length_filter_le ..) (Nat.le_trans lps (by decide)), fun b H11 z11 hb => ?_⟩
                    rw [← subS_sel, ← good_lev o] at hb
                    have eb : b = goodB m ps' qs := Bool.eq_iff_iff.mpr hb
                    have z911 := z10.trans z11
                    rw [show b = true from eb.trans g]
                    walk_at "go"
                    refine k_no (show _ = false from rfl) ?_
                    walk_at "go"
                    refine k_yes (show _ = true from rfl) ?_
                    have tr11 := tr9.same z911
                    have hr11 := (same_tups z911).stAt st9
                    have hq11 := (same_tups z911).sq hq9
                    clear tr9 hq9 eD z10 z11 hb eb hD
                    have ml := mend_lev g pl.lt
                    have mb := mend_bd (f := numG (subS m.ss ps' qs) m.n) (qs := qs) bd
                    obtain ⟨f, ef⟩ : ∃ f, f = numG (subS m.ss ps' qs) m.n := ⟨_, rfl⟩
                    rw [← ef] at hr11 ml mb
                    obtain ⟨vs9, hv9, hs9⟩ := hr11
                    have lv : vs9.length = m.ss.length := hs9.1.trans mendS_len
                    obtain ⟨dt, du, ed, ⟨ts, ht, hu⟩, he⟩ := id tr11.1.1
                    have lts : ts.length = m.ss.length := hu.1
                    clear z9 z911
                    walk_at "go"
                    refine k_isi (.ty _) (ty_tup hv9) (kit_ty (b := "tuple") (r := true) (by decide +kernel)) ?_
                    walk_at "go"
                    refine iteF ?_
                    walk_at "go"
                    refine ⟨r, vs9, rfl, .inr hv9, ?_⟩
                    walk_at "go"
                    refine ⟨d, .ref dt, rfl, DGet.k (k := .inr "steps") ed, ?_⟩
                    walk_at "go"
                    refine ⟨dt, ts, rfl, .inr ht, ?_⟩
                    walk_at "go"
                    refine k_no (by rw [lv, lts, decide_eq_true rfl]; rfl) ?_
                    walk_at "go"
                    refine ⟨r, vs9, rfl, .inr hv9, ?_⟩
                    walk_at "go"
                    refine k_rg (by omega) (by omega) ?_
                    rw [lv]
                    refine for_range (lo := 0) (n := ((m.ss.length : Nat) : Int).toNat) (fun i σ H' => ∃ b6 b8 b10 b11, Same H11 H' ∧ σ = [some (.ref sc), some (.ref a), some (.ref d), some (.ref mc), some (.ref I), some (.ref L), b6, some (.ref t), b8, some (.ref r), b10, b11])
                      ⟨_, _, _, _, Same.refl _, rfl⟩ ?_ ?_
                    · rintro i σ H12 hi ⟨c6, c8, c10, c11, z12, rfl⟩
                      have il : i < m.ss.length := hi
                      have z0 : (0 + (i : Nat) : Int) = ((i : Nat) : Int) := by omega
                      rw [z0]
                      have ei : m.ss[i]? = some (m.ss[i]'il) := List.getElem?_eq_getElem il
                      obtain ⟨q1, eq1, hq1⟩ := hu.2 i _ ei
                      obtain ⟨q2, eq2, hq2⟩ := hs9.2 i _ (mendS_at (f := f) (qs := qs) ei)
                      have o0 := o.ok _ (List.getElem_mem il)
                      generalize m.ss[i]'il = s0 at hq1 hq2 o0 ei
                      have hq2' := (same_tups z12).sq hq2
                      have hv12 := (same_tups z12).sq hv9
                      have ht12 := (same_tups z12).sq ht
                      walk_at "go"
                      refine k_ixT hv12 (v := .ref q2) (at_of (j := i) (by omega) eq2) ?_
                      walk_at "go"
                      refine k_slT hq2' fun u1 H13 z13 hu1 => ?_
                      rw [show (some (3 : Int)) = some ((3 : Nat) : Int) from rfl, cutV_take] at hu1
                      walk_at "go"
                      refine ⟨d, .ref dt, rfl, DGet.k (k := .inr "steps") (z13 _ _ (z12 _ _ ed)), ?_⟩
                      walk_at "go"
                      refine k_ixT ((same_tups z13).sq ht12) (v := .ref q1) (at_of (j := i) (by omega) eq1) ?_
                      walk_at "go"
                      have hq13 := (same_tups (z12.trans z13)).sq hq1
                      refine k_slT hq13 fun u2 H14 z14 hu2 => ?_
                      rw [show (some (3 : Int)) = some ((3 : Nat) : Int) from rfl, cutV_take] at hu2
                      have hu1' := (same_tups z14).sq hu1
                      have z114 := (z12.trans z13).trans z14
                      walk_at "go"
                      refine k_neD (dp3 (s := s0) (by split at hu1' <;> exact hu1')) (dp3 (s := s0) hu2) (d3_sh o0.c') (d3_sh o0.c') ?_
                      rw [q_refl (d3_sh o0.c')]
                      walk_at "go"
                      refine iteF ?_
                      walk_at "go"
                      refine ⟨t, nats qs, rfl, .inr ((same_tups z114).sq hq11), rfl, flat_nats _, ?_⟩
                      rw [inV_nats]
                      walk_at "go"
                      refine k_iteN (fun c => ?_) (fun c => ?_)
                      · refine iteF ?_
                        walk_at "go"
                        exact ⟨_, _, _, _, z114, rfl⟩
                      · rw [if_neg c] at hq2
                        walk_at "go"
                        refine k_ixT ((same_tups z114).sq hv9) (v := .ref q2) (at_of (j := i) (by omega) eq2) ?_
                        walk_at "go"
                        refine ⟨d, .ref dt, rfl, DGet.k (k := .inr "steps") (z114 _ _ ed), ?_⟩
                        walk_at "go"
                        refine k_ixT ((same_tups z114).sq ht) (v := .ref q1) (at_of (j := i) (by omega) eq1) ?_
                        walk_at "go"
                        refine k_neD (dp4 (s := s0) ((same_tups z114).sq hq2)) (dp4 (s := s0) ((same_tups z114).sq hq1)) (d4_sh o0.c') (d4_sh o0.c') ?_
                        rw [q_refl (d4_sh o0.c')]
                        walk_at "go"
                        refine iteF ?_
                        walk_at "go"
                        exact ⟨_, _, _, _, z114, rfl⟩
                    · rintro σ H12 ⟨c6, c8, c10, c11, z12, rfl⟩
                      walk_at "go"
                      intro e he3
                      have z0 := z12.trans (Same.new (o := .dK []) he3)
                      have ee0 := upd_same (H := H12) (a := e) (o := .dK [])
                      have he11 := free_of z12 he3
                      generalize upd H12 e (.dK []) = H13 at z0 ee0 ⊢
                      walk_at "go"
                      refine ⟨d, _, rfl, DGet.k (k := .inr "stands") (z0 _ _ ed), ?_⟩
                      walk_at "go"
                      refine ⟨(by decide : 0 ≤ sizeLine), fun u2 hu2 => ?_⟩
                      have z4 := z0.trans (Same.new (o := .tup []) hu2)
                      have ee4 : (upd H13 u2 (.tup [])) e = some (.dK []) := by rw [upd_ne (ne_of_none ee0 hu2)]; exact ee0
                      generalize upd H13 u2 (.tup []) = H14 at z4 ee4 ⊢
                      walk_at "go"
                      refine ⟨ee4, [(.inr "stands", .int (m.n : Nat)), (.inr "steps", .ref r), (.inr "ends", .ref u2)], rfl, show 3 ≤ 15 by decide, ?_⟩
                      have z5 : Same H11 (upd H14 e (.dK [(.inr "stands", .int (m.n : Nat)), (.inr "steps", .ref r), (.inr "ends", .ref u2)])) := Same.mut z4 he11
                      have tr15 := tr11.same z5
                      have st15 := (same_tups z5).stAt ⟨vs9, hv9, hs9⟩
                      walk_at "go"
                      show sp_level K [.ref e, .ref I] (upd H14 e (.dK [(.inr "stands", .int (m.n : Nat)), (.inr "steps", .ref r), (.inr "ends", .ref u2)])) _ _
                      have ee5 : (upd H14 e (.dK [(.inr "stands", .int (m.n : Nat)), (.inr "steps", .ref r), (.inr "ends", .ref u2)])) e = some (.dK [(.inr "stands", .int (m.n : Nat)), (.inr "steps", .ref r), (.inr "ends", .ref u2)]) := upd_same
                      refine ⟨e, I, m.n, mendS m.ss f qs, ps', rfl, ⟨_, r, ee5, rfl, rfl, st15⟩, n8, mb, by rw [mendS_len]; exact o.len, tr15.1.2.2.1, fun p hp => by rw [mendS_len]; exact pl.lt p hp, Nat.le_trans lps (by decide), fun b H16 z16 hb => ?_⟩
                      rw [hb.mpr ml]
                      walk_at "go"
                      refine iteF ?_
                      walk_at "go"
                      exact ⟨_, _, _, _, _, _, tr15.same z16, rfl⟩
                · walk_at "go"
                  have tr9 := tr8.same z9
                  have hq9 := (same_tups z9).sq hq8
                  refine ⟨I, rfl, ⟨_, SqL.of tr9.1.2.2.1⟩, fun D hD => ?_⟩
                  refine lc_list (xs := nats ps') (fun c H' => Same H9 H' ∧ H' D = some (.lst (nats ((ps'.take c).filter fun p => decide (p ∉ qs))))) ⟨Same.new hD, upd_same⟩ (fun _ H' _ ⟨z, _⟩ => SqL.of (z _ _ tr9.1.2.2.1)) ?_ ?_
                  · rintro c y H10 hy ⟨z10, eD⟩
                    obtain ⟨n, en, rfl⟩ := nats_at hy
                    rw [List.take_add_one, en, List.filter_append]
                    have lD : (nats ((ps'.take c).filter fun p => decide (p ∉ qs))).length < sizeLine := by
                      unfold nats
                      rw [List.length_map]
                      exact Nat.lt_of_le_of_lt (Nat.le_trans (List.length_filter_le ..) (Nat.le_trans (List.length_take_le' ..) lps)) (by decide)
                    generalize (ps'.take c).filter (fun p => decide (p ∉ qs)) = xs at eD lD ⊢
                    walk_at "go"
                    refine ⟨rfl, ?_⟩
                    walk_at "go"
                    refine ⟨t, nats qs, rfl, .inr ((same_tups z10).sq hq9), rfl, flat_nats _, ?_⟩
                    rw [inV_nats]
                    walk_at "go"
                    refine k_iteN (fun c => ?_) (fun c => ?_)
                    · rw [show (some n).toList.filter (fun p => decide (p ∉ qs)) = [] by show List.filter _ [n] = _; rw [List.filter_cons, if_neg (by rw [decide_eq_false (fun z => z c)]; decide)]; rfl, List.append_nil]
                      exact ⟨z10, eD⟩
                    · rw [show (some n).toList.filter (fun p => decide (p ∉ qs)) = [n] by show List.filter _ [n] = _; rw [List.filter_cons, if_pos (decide_eq_true c)]; rfl]
                      walk_at "go"
                      exact ⟨_, eD, lD, Same.mut z10 hD, by rw [upd_same, nats_snoc]⟩
                  · rintro H10 ⟨z10, eD⟩
                    rw [lnp, List.take_length] at eD
                    walk_at "go"
                    refine ⟨d, D, m.n, m.ss, _, rfl, .of (tr9.1.1.same z10), n8, bd, o.len, eD, fun p hp => pl.lt p (List.mem_filter.mp hp).1, Nat.le_trans (List.length_filter_le ..) (Nat.le_trans lps (by decide)), fun b H11 z11 hb => ?_⟩
                    rw [← subS_sel, ← good_lev o] at hb
                    have eb : b = goodB m ps' qs := Bool.eq_iff_iff.mpr hb
                    have z911 := z10.trans z11
                    rw [show b = false from eb.trans g]
                    walk_at "go"
                    refine k_no (show _ = false from rfl) ?_
                    walk_at "go"
                    refine k_no (show _ = false from rfl) ?_
                    walk_at "go"
                    exact ⟨_, _, _, _, _, _, tr9.same z911, rfl⟩
          · rintro σ H5 ⟨a6, a7, a8, a9, a10, a11, tr, rfl⟩
            walk_at "go"
            exact k _
end
/-! ### what the written part says -/
theorem exc_self {K : PySem.W.Frag} {S : Addr} (hb : PySem.W.subIn K (.ref S) (.type "BaseException") = some true) (hc : PySem.W.isClsIn K S = true) (ht : PySem.W.typeIn K (.ref S) = some (.type "type")) (hs : PySem.W.subIn K (.ref S) (.ref S) = some true) : PySem.W.exmOne K (.ref S) (.ref S) = some true := by
  have hc' : (PySem.W.clsIn K S).isSome = true := hc
  unfold PySem.W.exmOne PySem.W.kitCls
  simp only [hb, ht, hc', hs, beq_self_eq_true, Bool.and_self, if_true]
theorem bb_led_to (kV doc pm : Value) (an : Option Addr) (cdv ct : Value) (us : List Value) (hl : us.length = 2) : bindArgs (PySem.W.fnOf "led_to" "led_to" (defArgs s_led_to) (defBody s_led_to) (defScope s_led_to) .none kV doc pm an cdv ct) ⟨us, []⟩ = pure ((["steps", "begins"] : List Str).zip us) := match us, hl with | [_, _], _ => rfl
theorem bb_longer_rows (kV doc pm : Value) (an : Option Addr) (cdv ct : Value) (us : List Value) (hl : us.length = 3) : bindArgs (PySem.W.fnOf "longer_rows" "longer_rows" (defArgs s_longer_rows) (defBody s_longer_rows) (defScope s_longer_rows) .none kV doc pm an cdv ct) ⟨us, []⟩ = pure ((["steps", "sign", "rows"] : List Str).zip us) := match us, hl with | [_, _, _], _ => rfl
theorem bb_improved (kV doc pm : Value) (an : Option Addr) (cdv ct : Value) (us : List Value) (hl : us.length = 2) : bindArgs (PySem.W.fnOf "_improved" "_improved" (defArgs s_improved) (defBody s_improved) (defScope s_improved) .none kV doc pm an cdv ct) ⟨us, []⟩ = pure ((["rows", "best"] : List Str).zip us) := match us, hl with | [_, _], _ => rfl
theorem bb_best_rows (kV doc pm : Value) (an : Option Addr) (cdv ct : Value) (us : List Value) (hl : us.length = 3) : bindArgs (PySem.W.fnOf "best_rows" "best_rows" (defArgs s_best_rows) (defBody s_best_rows) (defScope s_best_rows) .none kV doc pm an cdv ct) ⟨us, []⟩ = pure ((["many", "steps", "sign"] : List Str).zip us) := match us, hl with | [_, _, _], _ => rfl
theorem bb_best_of (kV doc pm : Value) (an : Option Addr) (cdv ct : Value) (us : List Value) (hl : us.length = 4) : bindArgs (PySem.W.fnOf "_best_of" "_best_of" (defArgs s_best_of) (defBody s_best_of) (defScope s_best_of) .none kV doc pm an cdv ct) ⟨us, []⟩ = pure ((["many", "steps", "sign", "stands"] : List Str).zip us) := match us, hl with | [_, _, _, _], _ => rfl
theorem bb_least_and_greatest (kV doc pm : Value) (an : Option Addr) (cdv ct : Value) (us : List Value) (hl : us.length = 3) : bindArgs (PySem.W.fnOf "least_and_greatest" "least_and_greatest" (defArgs s_least_and_greatest) (defBody s_least_and_greatest) (defScope s_least_and_greatest) .none kV doc pm an cdv ct) ⟨us, []⟩ = pure ((["many", "steps", "stands"] : List Str).zip us) := match us, hl with | [_, _, _], _ => rfl
theorem bb_Machine_init (kV doc pm : Value) (an : Option Addr) (cdv ct : Value) (us : List Value) (hl : us.length = 4) : bindArgs (PySem.W.fnOf "__init__" "Machine.__init__" (defArgs s_Machine_init) (defBody s_Machine_init) (defScope s_Machine_init) .none kV doc pm an cdv ct) ⟨us, []⟩ = pure ((["self", "stands", "steps", "ends"] : List Str).zip us) := match us, hl with | [_, _, _, _], _ => rfl
theorem bb_Machine_stands (kV doc pm : Value) (an : Option Addr) (cdv ct : Value) (us : List Value) (hl : us.length = 1) : bindArgs (PySem.W.fnOf "stands" "Machine.stands" (defArgs s_Machine_stands) (defBody s_Machine_stands) (defScope s_Machine_stands) .none kV doc pm an cdv ct) ⟨us, []⟩ = pure ((["self"] : List Str).zip us) := match us, hl with | [_], _ => rfl
theorem bb_Machine_steps (kV doc pm : Value) (an : Option Addr) (cdv ct : Value) (us : List Value) (hl : us.length = 1) : bindArgs (PySem.W.fnOf "steps" "Machine.steps" (defArgs s_Machine_steps) (defBody s_Machine_steps) (defScope s_Machine_steps) .none kV doc pm an cdv ct) ⟨us, []⟩ = pure ((["self"] : List Str).zip us) := match us, hl with | [_], _ => rfl
theorem bb_is_whole_number (kV doc pm : Value) (an : Option Addr) (cdv ct : Value) (us : List Value) (hl : us.length = 1) : bindArgs (PySem.W.fnOf "is_whole_number" "is_whole_number" (defArgs s_is_whole_number) (defBody s_is_whole_number) (defScope s_is_whole_number) .none kV doc pm an cdv ct) ⟨us, []⟩ = pure ((["value"] : List Str).zip us) := match us, hl with | [_], _ => rfl
theorem bb_is_integer_between (kV doc pm : Value) (an : Option Addr) (cdv ct : Value) (us : List Value) (hl : us.length = 3) : bindArgs (PySem.W.fnOf "is_integer_between" "is_integer_between" (defArgs s_is_integer_between) (defBody s_is_integer_between) (defScope s_is_integer_between) .none kV doc pm an cdv ct) ⟨us, []⟩ = pure ((["value", "least", "most"] : List Str).zip us) := match us, hl with | [_, _, _], _ => rfl
theorem bb_is_stand (kV doc pm : Value) (an : Option Addr) (cdv ct : Value) (us : List Value) (hl : us.length = 2) : bindArgs (PySem.W.fnOf "_is_stand" "_is_stand" (defArgs s_is_stand) (defBody s_is_stand) (defScope s_is_stand) .none kV doc pm an cdv ct) ⟨us, []⟩ = pure ((["stands", "value"] : List Str).zip us) := match us, hl with | [_, _], _ => rfl
theorem bb_check_stands (kV doc pm : Value) (an : Option Addr) (cdv ct : Value) (us : List Value) (hl : us.length = 1) : bindArgs (PySem.W.fnOf "_check_stands" "_check_stands" (defArgs s_check_stands) (defBody s_check_stands) (defScope s_check_stands) .none kV doc pm an cdv ct) ⟨us, []⟩ = pure ((["stands"] : List Str).zip us) := match us, hl with | [_], _ => rfl
theorem bb_is_step (kV doc pm : Value) (an : Option Addr) (cdv ct : Value) (us : List Value) (hl : us.length = 2) : bindArgs (PySem.W.fnOf "_is_step" "_is_step" (defArgs s_is_step) (defBody s_is_step) (defScope s_is_step) .none kV doc pm an cdv ct) ⟨us, []⟩ = pure ((["stands", "value"] : List Str).zip us) := match us, hl with | [_, _], _ => rfl
theorem bb_check_steps (kV doc pm : Value) (an : Option Addr) (cdv ct : Value) (us : List Value) (hl : us.length = 2) : bindArgs (PySem.W.fnOf "_check_steps" "_check_steps" (defArgs s_check_steps) (defBody s_check_steps) (defScope s_check_steps) .none kV doc pm an cdv ct) ⟨us, []⟩ = pure ((["stands", "steps"] : List Str).zip us) := match us, hl with | [_, _], _ => rfl
theorem bb_is_ascending (kV doc pm : Value) (an : Option Addr) (cdv ct : Value) (us : List Value) (hl : us.length = 2) : bindArgs (PySem.W.fnOf "is_ascending" "is_ascending" (defArgs s_is_ascending) (defBody s_is_ascending) (defScope s_is_ascending) .none kV doc pm an cdv ct) ⟨us, []⟩ = pure ((["value", "many"] : List Str).zip us) := match us, hl with | [_, _], _ => rfl
theorem bb_check_ends (kV doc pm : Value) (an : Option Addr) (cdv ct : Value) (us : List Value) (hl : us.length = 2) : bindArgs (PySem.W.fnOf "_check_ends" "_check_ends" (defArgs s_check_ends) (defBody s_check_ends) (defScope s_check_ends) .none kV doc pm an cdv ct) ⟨us, []⟩ = pure ((["stands", "ends"] : List Str).zip us) := match us, hl with | [_, _], _ => rfl
theorem bb_check_machine (kV doc pm : Value) (an : Option Addr) (cdv ct : Value) (us : List Value) (hl : us.length = 1) : bindArgs (PySem.W.fnOf "check_machine" "check_machine" (defArgs s_check_machine) (defBody s_check_machine) (defScope s_check_machine) .none kV doc pm an cdv ct) ⟨us, []⟩ = pure ((["value"] : List Str).zip us) := match us, hl with | [_], _ => rfl
theorem bb_reached (kV doc pm : Value) (an : Option Addr) (cdv ct : Value) (us : List Value) (hl : us.length = 1) : bindArgs (PySem.W.fnOf "reached" "reached" (defArgs s_reached) (defBody s_reached) (defScope s_reached) .none kV doc pm an cdv ct) ⟨us, []⟩ = pure ((["machine"] : List Str).zip us) := match us, hl with | [_], _ => rfl
theorem bb_check_steps_mends (kV doc pm : Value) (an : Option Addr) (cdv ct : Value) (us : List Value) (hl : us.length = 1) : bindArgs (PySem.W.fnOf "_check_steps" "_check_steps" (defArgs s_check_steps_mends) (defBody s_check_steps_mends) (defScope s_check_steps_mends) .none kV doc pm an cdv ct) ⟨us, []⟩ = pure ((["machine"] : List Str).zip us) := match us, hl with | [_], _ => rfl
theorem bb_places_on_loops (kV doc pm : Value) (an : Option Addr) (cdv ct : Value) (us : List Value) (hl : us.length = 1) : bindArgs (PySem.W.fnOf "_places_on_loops" "_places_on_loops" (defArgs s_places_on_loops) (defBody s_places_on_loops) (defScope s_places_on_loops) .none kV doc pm an cdv ct) ⟨us, []⟩ = pure ((["machine"] : List Str).zip us) := match us, hl with | [_], _ => rfl
theorem bb_spread (kV doc pm : Value) (an : Option Addr) (cdv ct : Value) (us : List Value) (hl : us.length = 2) : bindArgs (PySem.W.fnOf "_spread" "_spread" (defArgs s_spread) (defBody s_spread) (defScope s_spread) .none kV doc pm an cdv ct) ⟨us, []⟩ = pure ((["numbers", "steps"] : List Str).zip us) := match us, hl with | [_, _], _ => rfl
theorem bb_numbers (kV doc pm : Value) (an : Option Addr) (cdv ct : Value) (us : List Value) (hl : us.length = 2) : bindArgs (PySem.W.fnOf "_numbers" "_numbers" (defArgs s_numbers) (defBody s_numbers) (defScope s_numbers) .none kV doc pm an cdv ct) ⟨us, []⟩ = pure ((["many", "steps"] : List Str).zip us) := match us, hl with | [_, _], _ => rfl
theorem bb_numbers_without (kV doc pm : Value) (an : Option Addr) (cdv ct : Value) (us : List Value) (hl : us.length = 3) : bindArgs (PySem.W.fnOf "_numbers_without" "_numbers_without" (defArgs s_numbers_without) (defBody s_numbers_without) (defScope s_numbers_without) .none kV doc pm an cdv ct) ⟨us, []⟩ = pure ((["machine", "places", "some"] : List Str).zip us) := match us, hl with | [_, _, _], _ => rfl
theorem bb_sets_that_mend (kV doc pm : Value) (an : Option Addr) (cdv ct : Value) (us : List Value) (hl : us.length = 3) : bindArgs (PySem.W.fnOf "_sets_that_mend" "_sets_that_mend" (defArgs s_sets_that_mend) (defBody s_sets_that_mend) (defScope s_sets_that_mend) .none kV doc pm an cdv ct) ⟨us, []⟩ = pure ((["machine", "places", "many"] : List Str).zip us) := match us, hl with | [_, _, _], _ => rfl
theorem bb_mends (kV doc pm : Value) (an : Option Addr) (cdv ct : Value) (us : List Value) (hl : us.length = 1) : bindArgs (PySem.W.fnOf "mends" "mends" (defArgs s_mends) (defBody s_mends) (defScope s_mends) .none kV doc pm an cdv ct) ⟨us, []⟩ = pure ((["machine"] : List Str).zip us) := match us, hl with | [_], _ => rfl
theorem bb_mended (kV doc pm : Value) (an : Option Addr) (cdv ct : Value) (us : List Value) (hl : us.length = 2) : bindArgs (PySem.W.fnOf "mended" "mended" (defArgs s_mended) (defBody s_mended) (defScope s_mended) .none kV doc pm an cdv ct) ⟨us, []⟩ = pure ((["machine", "some"] : List Str).zip us) := match us, hl with | [_, _], _ => rfl
theorem bb_bounds (kV doc pm : Value) (an : Option Addr) (cdv ct : Value) (us : List Value) (hl : us.length = 1) : bindArgs (PySem.W.fnOf "bounds" "bounds" (defArgs s_bounds) (defBody s_bounds) (defScope s_bounds) .none kV doc pm an cdv ct) ⟨us, []⟩ = pure ((["machine"] : List Str).zip us) := match us, hl with | [_], _ => rfl
theorem bb_law_taken (kV doc pm : Value) (an : Option Addr) (cdv ct : Value) (us : List Value) (hl : us.length = 2) : bindArgs (PySem.W.fnOf "_law_taken" "_law_taken" (defArgs s_law_taken) (defBody s_law_taken) (defScope s_law_taken) .none kV doc pm an cdv ct) ⟨us, []⟩ = pure ((["_law_row", "_law_many"] : List Str).zip us) := match us, hl with | [_, _], _ => rfl
theorem bb_law_parts (kV doc pm : Value) (an : Option Addr) (cdv ct : Value) (us : List Value) (hl : us.length = 3) : bindArgs (PySem.W.fnOf "_law_parts" "_law_parts" (defArgs s_law_parts) (defBody s_law_parts) (defScope s_law_parts) .none kV doc pm an cdv ct) ⟨us, []⟩ = pure ((["_law_row", "_law_stands", "_law_size"] : List Str).zip us) := match us, hl with | [_, _, _], _ => rfl
theorem bb_law_machine (kV doc pm : Value) (an : Option Addr) (cdv ct : Value) (us : List Value) (hl : us.length = 1) : bindArgs (PySem.W.fnOf "_law_machine" "_law_machine" (defArgs s_law_machine) (defBody s_law_machine) (defScope s_law_machine) .none kV doc pm an cdv ct) ⟨us, []⟩ = pure ((["_law_d"] : List Str).zip us) := match us, hl with | [_], _ => rfl
theorem bb_law_next (kV doc pm : Value) (an : Option Addr) (cdv ct : Value) (us : List Value) (hl : us.length = 2) : bindArgs (PySem.W.fnOf "_law_next" "_law_next" (defArgs s_law_next) (defBody s_law_next) (defScope s_law_next) .none kV doc pm an cdv ct) ⟨us, []⟩ = pure ((["_law_d", "_law_stand"] : List Str).zip us) := match us, hl with | [_, _], _ => rfl
theorem bb_law_reached (kV doc pm : Value) (an : Option Addr) (cdv ct : Value) (us : List Value) (hl : us.length = 1) : bindArgs (PySem.W.fnOf "_law_reached" "_law_reached" (defArgs s_law_reached) (defBody s_law_reached) (defScope s_law_reached) .none kV doc pm an cdv ct) ⟨us, []⟩ = pure ((["_law_d"] : List Str).zip us) := match us, hl with | [_], _ => rfl
theorem bb_law_inner (kV doc pm : Value) (an : Option Addr) (cdv ct : Value) (us : List Value) (hl : us.length = 1) : bindArgs (PySem.W.fnOf "_law_inner" "_law_inner" (defArgs s_law_inner) (defBody s_law_inner) (defScope s_law_inner) .none kV doc pm an cdv ct) ⟨us, []⟩ = pure ((["_law_d"] : List Str).zip us) := match us, hl with | [_], _ => rfl
theorem bb_law_level (kV doc pm : Value) (an : Option Addr) (cdv ct : Value) (us : List Value) (hl : us.length = 2) : bindArgs (PySem.W.fnOf "_law_level" "_law_level" (defArgs s_law_level) (defBody s_law_level) (defScope s_law_level) .none kV doc pm an cdv ct) ⟨us, []⟩ = pure ((["_law_d", "_law_places"] : List Str).zip us) := match us, hl with | [_, _], _ => rfl
theorem bb_law_subsets (kV doc pm : Value) (an : Option Addr) (cdv ct : Value) (us : List Value) (hl : us.length = 2) : bindArgs (PySem.W.fnOf "_law_subsets" "_law_subsets" (defArgs s_law_subsets) (defBody s_law_subsets) (defScope s_law_subsets) .none kV doc pm an cdv ct) ⟨us, []⟩ = pure ((["_law_things", "_law_size"] : List Str).zip us) := match us, hl with | [_, _], _ => rfl
theorem bb_law_few (kV doc pm : Value) (an : Option Addr) (cdv ct : Value) (us : List Value) (hl : us.length = 2) : bindArgs (PySem.W.fnOf "_law_few" "_law_few" (defArgs s_law_few) (defBody s_law_few) (defScope s_law_few) .none kV doc pm an cdv ct) ⟨us, []⟩ = pure ((["_law_row", "_law_size"] : List Str).zip us) := match us, hl with | [_, _], _ => rfl
theorem bb_law (kV doc pm : Value) (an : Option Addr) (cdv ct : Value) (us : List Value) (hl : us.length = 1) : bindArgs (PySem.W.fnOf "law" "law" (defArgs s_law) (defBody s_law) (defScope s_law) .none kV doc pm an cdv ct) ⟨us, []⟩ = pure ((["_law_script"] : List Str).zip us) := match us, hl with | [_], _ => rfl
set_option maxHeartbeats 0 in
def txt_mk {K : PySem.W.Frag} {h : Heap} {mg : Str → Option Value} (X : K.In h) (G : h.Ns mainGlobals mg)
    {a_led_to : Addr} {od_led_to an_led_to : Option Addr} {sl_led_to : Array (Option Value)} {oc_led_to kV_led_to dc_led_to pm_led_to cd_led_to ct_led_to : Value}
    {a_longer_rows : Addr} {od_longer_rows an_longer_rows : Option Addr} {sl_longer_rows : Array (Option Value)} {oc_longer_rows kV_longer_rows dc_longer_rows pm_longer_rows cd_longer_rows ct_longer_rows : Value}
    {a_improved : Addr} {od_improved an_improved : Option Addr} {sl_improved : Array (Option Value)} {oc_improved kV_improved dc_improved pm_improved cd_improved ct_improved : Value}
    {a_best_rows : Addr} {od_best_rows an_best_rows : Option Addr} {sl_best_rows : Array (Option Value)} {oc_best_rows kV_best_rows dc_best_rows pm_best_rows cd_best_rows ct_best_rows : Value}
    {a_best_of : Addr} {od_best_of an_best_of : Option Addr} {sl_best_of : Array (Option Value)} {oc_best_of kV_best_of dc_best_of pm_best_of cd_best_of ct_best_of : Value}
    {a_least_and_greatest : Addr} {od_least_and_greatest an_least_and_greatest : Option Addr} {sl_least_and_greatest : Array (Option Value)} {oc_least_and_greatest kV_least_and_greatest dc_least_and_greatest pm_least_and_greatest cd_least_and_greatest ct_least_and_greatest : Value}
    {a_Machine_init : Addr} {od_Machine_init an_Machine_init : Option Addr} {sl_Machine_init : Array (Option Value)} {oc_Machine_init kV_Machine_init dc_Machine_init pm_Machine_init cd_Machine_init ct_Machine_init : Value}
    {a_Machine_stands : Addr} {od_Machine_stands an_Machine_stands : Option Addr} {sl_Machine_stands : Array (Option Value)} {oc_Machine_stands kV_Machine_stands dc_Machine_stands pm_Machine_stands cd_Machine_stands ct_Machine_stands : Value}
    {a_Machine_steps : Addr} {od_Machine_steps an_Machine_steps : Option Addr} {sl_Machine_steps : Array (Option Value)} {oc_Machine_steps kV_Machine_steps dc_Machine_steps pm_Machine_steps cd_Machine_steps ct_Machine_steps : Value}
    {a_is_whole_number : Addr} {od_is_whole_number an_is_whole_number : Option Addr} {sl_is_whole_number : Array (Option Value)} {oc_is_whole_number kV_is_whole_number dc_is_whole_number pm_is_whole_number cd_is_whole_number ct_is_whole_number : Value}
    {a_is_integer_between : Addr} {od_is_integer_between an_is_integer_between : Option Addr} {sl_is_integer_between : Array (Option Value)} {oc_is_integer_between kV_is_integer_between dc_is_integer_between pm_is_integer_between cd_is_integer_between ct_is_integer_between : Value}
    {a_is_stand : Addr} {od_is_stand an_is_stand : Option Addr} {sl_is_stand : Array (Option Value)} {oc_is_stand kV_is_stand dc_is_stand pm_is_stand cd_is_stand ct_is_stand : Value}
    {a_check_stands : Addr} {od_check_stands an_check_stands : Option Addr} {sl_check_stands : Array (Option Value)} {oc_check_stands kV_check_stands dc_check_stands pm_check_stands cd_check_stands ct_check_stands : Value}
    {a_is_step : Addr} {od_is_step an_is_step : Option Addr} {sl_is_step : Array (Option Value)} {oc_is_step kV_is_step dc_is_step pm_is_step cd_is_step ct_is_step : Value}
    {a_check_steps : Addr} {od_check_steps an_check_steps : Option Addr} {sl_check_steps : Array (Option Value)} {oc_check_steps kV_check_steps dc_check_steps pm_check_steps cd_check_steps ct_check_steps : Value}
    {a_is_ascending : Addr} {od_is_ascending an_is_ascending : Option Addr} {sl_is_ascending : Array (Option Value)} {oc_is_ascending kV_is_ascending dc_is_ascending pm_is_ascending cd_is_ascending ct_is_ascending : Value}
    {a_check_ends : Addr} {od_check_ends an_check_ends : Option Addr} {sl_check_ends : Array (Option Value)} {oc_check_ends kV_check_ends dc_check_ends pm_check_ends cd_check_ends ct_check_ends : Value}
    {a_check_machine : Addr} {od_check_machine an_check_machine : Option Addr} {sl_check_machine : Array (Option Value)} {oc_check_machine kV_check_machine dc_check_machine pm_check_machine cd_check_machine ct_check_machine : Value}
    {a_reached : Addr} {od_reached an_reached : Option Addr} {sl_reached : Array (Option Value)} {oc_reached kV_reached dc_reached pm_reached cd_reached ct_reached : Value}
    {a_check_steps_mends : Addr} {od_check_steps_mends an_check_steps_mends : Option Addr} {sl_check_steps_mends : Array (Option Value)} {oc_check_steps_mends kV_check_steps_mends dc_check_steps_mends pm_check_steps_mends cd_check_steps_mends ct_check_steps_mends : Value}
    {a_places_on_loops : Addr} {od_places_on_loops an_places_on_loops : Option Addr} {sl_places_on_loops : Array (Option Value)} {oc_places_on_loops kV_places_on_loops dc_places_on_loops pm_places_on_loops cd_places_on_loops ct_places_on_loops : Value}
    {a_spread : Addr} {od_spread an_spread : Option Addr} {sl_spread : Array (Option Value)} {oc_spread kV_spread dc_spread pm_spread cd_spread ct_spread : Value}
    {a_numbers : Addr} {od_numbers an_numbers : Option Addr} {sl_numbers : Array (Option Value)} {oc_numbers kV_numbers dc_numbers pm_numbers cd_numbers ct_numbers : Value}
    {a_numbers_without : Addr} {od_numbers_without an_numbers_without : Option Addr} {sl_numbers_without : Array (Option Value)} {oc_numbers_without kV_numbers_without dc_numbers_without pm_numbers_without cd_numbers_without ct_numbers_without : Value}
    {a_sets_that_mend : Addr} {od_sets_that_mend an_sets_that_mend : Option Addr} {sl_sets_that_mend : Array (Option Value)} {oc_sets_that_mend kV_sets_that_mend dc_sets_that_mend pm_sets_that_mend cd_sets_that_mend ct_sets_that_mend : Value}
    {a_mends : Addr} {od_mends an_mends : Option Addr} {sl_mends : Array (Option Value)} {oc_mends kV_mends dc_mends pm_mends cd_mends ct_mends : Value}
    {a_mended : Addr} {od_mended an_mended : Option Addr} {sl_mended : Array (Option Value)} {oc_mended kV_mended dc_mended pm_mended cd_mended ct_mended : Value}
    {a_bounds : Addr} {od_bounds an_bounds : Option Addr} {sl_bounds : Array (Option Value)} {oc_bounds kV_bounds dc_bounds pm_bounds cd_bounds ct_bounds : Value}
    {a_law_taken : Addr} {od_law_taken an_law_taken : Option Addr} {sl_law_taken : Array (Option Value)} {oc_law_taken kV_law_taken dc_law_taken pm_law_taken cd_law_taken ct_law_taken : Value}
    {a_law_parts : Addr} {od_law_parts an_law_parts : Option Addr} {sl_law_parts : Array (Option Value)} {oc_law_parts kV_law_parts dc_law_parts pm_law_parts cd_law_parts ct_law_parts : Value}
    {a_law_machine : Addr} {od_law_machine an_law_machine : Option Addr} {sl_law_machine : Array (Option Value)} {oc_law_machine kV_law_machine dc_law_machine pm_law_machine cd_law_machine ct_law_machine : Value}
    {a_law_next : Addr} {od_law_next an_law_next : Option Addr} {sl_law_next : Array (Option Value)} {oc_law_next kV_law_next dc_law_next pm_law_next cd_law_next ct_law_next : Value}
    {a_law_reached : Addr} {od_law_reached an_law_reached : Option Addr} {sl_law_reached : Array (Option Value)} {oc_law_reached kV_law_reached dc_law_reached pm_law_reached cd_law_reached ct_law_reached : Value}
    {a_law_inner : Addr} {od_law_inner an_law_inner : Option Addr} {sl_law_inner : Array (Option Value)} {oc_law_inner kV_law_inner dc_law_inner pm_law_inner cd_law_inner ct_law_inner : Value}
    {a_law_level : Addr} {od_law_level an_law_level : Option Addr} {sl_law_level : Array (Option Value)} {oc_law_level kV_law_level dc_law_level pm_law_level cd_law_level ct_law_level : Value}
    {a_law_subsets : Addr} {od_law_subsets an_law_subsets : Option Addr} {sl_law_subsets : Array (Option Value)} {oc_law_subsets kV_law_subsets dc_law_subsets pm_law_subsets cd_law_subsets ct_law_subsets : Value}
    {a_law_few : Addr} {od_law_few an_law_few : Option Addr} {sl_law_few : Array (Option Value)} {oc_law_few kV_law_few dc_law_few pm_law_few cd_law_few ct_law_few : Value}
    {a_law : Addr} {od_law an_law : Option Addr} {sl_law : Array (Option Value)} {oc_law kV_law dc_law pm_law cd_law ct_law : Value}
    {c_Machine : Addr}
    {q_stands : Addr} {rest_stands : List Value}
    {q_steps : Addr} {rest_steps : List Value}
    {t_MOST_STANDS : Tok}
    {t_MOST_GAIN : Tok}
    {a_LETTERS : Addr}
    {t_ENDLESS : Tok}
    {t_MOST_STEPS : Tok}
    (g_led_to : PySem.W.nsIn K mainGlobals "led_to" = some (some (.ref a_led_to)))
    (g_longer_rows : PySem.W.nsIn K mainGlobals "longer_rows" = some (some (.ref a_longer_rows)))
    (g_improved : PySem.W.nsIn K mainGlobals "_improved" = some (some (.ref a_improved)))
    (g_best_rows : PySem.W.nsIn K mainGlobals "best_rows" = some (some (.ref a_best_rows)))
    (g_best_of : PySem.W.nsIn K mainGlobals "_best_of" = some (some (.ref a_best_of)))
    (g_least_and_greatest : PySem.W.nsIn K mainGlobals "least_and_greatest" = some (some (.ref a_least_and_greatest)))
    (g_is_whole_number : PySem.W.nsIn K mainGlobals "is_whole_number" = some (some (.ref a_is_whole_number)))
    (g_is_integer_between : PySem.W.nsIn K mainGlobals "is_integer_between" = some (some (.ref a_is_integer_between)))
    (g_is_stand : PySem.W.nsIn K mainGlobals "_is_stand" = some (some (.ref a_is_stand)))
    (g_check_stands : PySem.W.nsIn K mainGlobals "_check_stands" = some (some (.ref a_check_stands)))
    (g_is_step : PySem.W.nsIn K mainGlobals "_is_step" = some (some (.ref a_is_step)))
    (g_check_steps : PySem.W.nsIn K mainGlobals "check_steps_machines" = some (some (.ref a_check_steps)))
    (g_is_ascending : PySem.W.nsIn K mainGlobals "is_ascending" = some (some (.ref a_is_ascending)))
    (g_check_ends : PySem.W.nsIn K mainGlobals "_check_ends" = some (some (.ref a_check_ends)))
    (g_check_machine : PySem.W.nsIn K mainGlobals "check_machine" = some (some (.ref a_check_machine)))
    (g_reached : PySem.W.nsIn K mainGlobals "reached" = some (some (.ref a_reached)))
    (g_check_steps_mends : PySem.W.nsIn K mainGlobals "check_steps_mends" = some (some (.ref a_check_steps_mends)))
    (g_places_on_loops : PySem.W.nsIn K mainGlobals "_places_on_loops" = some (some (.ref a_places_on_loops)))
    (g_spread : PySem.W.nsIn K mainGlobals "_spread" = some (some (.ref a_spread)))
    (g_numbers : PySem.W.nsIn K mainGlobals "_numbers" = some (some (.ref a_numbers)))
    (g_numbers_without : PySem.W.nsIn K mainGlobals "_numbers_without" = some (some (.ref a_numbers_without)))
    (g_sets_that_mend : PySem.W.nsIn K mainGlobals "_sets_that_mend" = some (some (.ref a_sets_that_mend)))
    (g_mends : PySem.W.nsIn K mainGlobals "mends" = some (some (.ref a_mends)))
    (g_mended : PySem.W.nsIn K mainGlobals "mended" = some (some (.ref a_mended)))
    (g_bounds : PySem.W.nsIn K mainGlobals "bounds" = some (some (.ref a_bounds)))
    (g_law_taken : PySem.W.nsIn K mainGlobals "_law_taken" = some (some (.ref a_law_taken)))
    (g_law_parts : PySem.W.nsIn K mainGlobals "_law_parts" = some (some (.ref a_law_parts)))
    (g_law_machine : PySem.W.nsIn K mainGlobals "_law_machine" = some (some (.ref a_law_machine)))
    (g_law_next : PySem.W.nsIn K mainGlobals "_law_next" = some (some (.ref a_law_next)))
    (g_law_reached : PySem.W.nsIn K mainGlobals "_law_reached" = some (some (.ref a_law_reached)))
    (g_law_inner : PySem.W.nsIn K mainGlobals "_law_inner" = some (some (.ref a_law_inner)))
    (g_law_level : PySem.W.nsIn K mainGlobals "_law_level" = some (some (.ref a_law_level)))
    (g_law_subsets : PySem.W.nsIn K mainGlobals "_law_subsets" = some (some (.ref a_law_subsets)))
    (g_law_few : PySem.W.nsIn K mainGlobals "_law_few" = some (some (.ref a_law_few)))
    (g_law : PySem.W.nsIn K mainGlobals "law" = some (some (.ref a_law)))
    (g_Machine : PySem.W.nsIn K mainGlobals "Machine" = some (some (.ref c_Machine)))
    (g_MOST_STANDS : PySem.W.nsIn K mainGlobals "MOST_STANDS" = some (some (.int 8 t_MOST_STANDS)))
    (g_MOST_GAIN : PySem.W.nsIn K mainGlobals "MOST_GAIN" = some (some (.int 1000000000000000000000000000000 t_MOST_GAIN)))
    (g_LETTERS : PySem.W.nsIn K mainGlobals "LETTERS" = some (some (.ref a_LETTERS)))
    (g_ENDLESS : PySem.W.nsIn K mainGlobals "ENDLESS" = some (some (.str "endless" t_ENDLESS)))
    (g_MOST_STEPS : PySem.W.nsIn K mainGlobals "MOST_STEPS" = some (some (.int 12 t_MOST_STEPS)))
    (g_combinations : PySem.W.nsIn K mainGlobals "combinations" = some (some (.type "itertools.combinations")))
    (zz_all : PySem.W.nsIn K mainGlobals "all" = some none)
    (zz_bool : PySem.W.nsIn K mainGlobals "bool" = some none)
    (zz_enumerate : PySem.W.nsIn K mainGlobals "enumerate" = some none)
    (zz_int : PySem.W.nsIn K mainGlobals "int" = some none)
    (zz_isinstance : PySem.W.nsIn K mainGlobals "isinstance" = some none)
    (zz_len : PySem.W.nsIn K mainGlobals "len" = some none)
    (zz_list : PySem.W.nsIn K mainGlobals "list" = some none)
    (zz_max : PySem.W.nsIn K mainGlobals "max" = some none)
    (zz_range : PySem.W.nsIn K mainGlobals "range" = some none)
    (zz_sorted : PySem.W.nsIn K mainGlobals "sorted" = some none)
    (zz_str : PySem.W.nsIn K mainGlobals "str" = some none)
    (zz_tuple : PySem.W.nsIn K mainGlobals "tuple" = some none)
    (l_led_to : K.lookup a_led_to = some ⟨oc_led_to, od_led_to, .func (PySem.W.fnOf "led_to" "led_to" (defArgs s_led_to) (defBody s_led_to) (defScope s_led_to) .none kV_led_to dc_led_to pm_led_to an_led_to cd_led_to ct_led_to), sl_led_to⟩)
    (c_led_to : PySem.W.codeIn K cd_led_to "led_to" = true)
    (kk_led_to : PySem.W.keepIn K (.ref a_led_to) = true)
    (l_longer_rows : K.lookup a_longer_rows = some ⟨oc_longer_rows, od_longer_rows, .func (PySem.W.fnOf "longer_rows" "longer_rows" (defArgs s_longer_rows) (defBody s_longer_rows) (defScope s_longer_rows) .none kV_longer_rows dc_longer_rows pm_longer_rows an_longer_rows cd_longer_rows ct_longer_rows), sl_longer_rows⟩)
    (c_longer_rows : PySem.W.codeIn K cd_longer_rows "longer_rows" = true)
    (kk_longer_rows : PySem.W.keepIn K (.ref a_longer_rows) = true)
    (l_improved : K.lookup a_improved = some ⟨oc_improved, od_improved, .func (PySem.W.fnOf "_improved" "_improved" (defArgs s_improved) (defBody s_improved) (defScope s_improved) .none kV_improved dc_improved pm_improved an_improved cd_improved ct_improved), sl_improved⟩)
    (c_improved : PySem.W.codeIn K cd_improved "_improved" = true)
    (kk_improved : PySem.W.keepIn K (.ref a_improved) = true)
    (l_best_rows : K.lookup a_best_rows = some ⟨oc_best_rows, od_best_rows, .func (PySem.W.fnOf "best_rows" "best_rows" (defArgs s_best_rows) (defBody s_best_rows) (defScope s_best_rows) .none kV_best_rows dc_best_rows pm_best_rows an_best_rows cd_best_rows ct_best_rows), sl_best_rows⟩)
    (c_best_rows : PySem.W.codeIn K cd_best_rows "best_rows" = true)
    (kk_best_rows : PySem.W.keepIn K (.ref a_best_rows) = true)
    (l_best_of : K.lookup a_best_of = some ⟨oc_best_of, od_best_of, .func (PySem.W.fnOf "_best_of" "_best_of" (defArgs s_best_of) (defBody s_best_of) (defScope s_best_of) .none kV_best_of dc_best_of pm_best_of an_best_of cd_best_of ct_best_of), sl_best_of⟩)
    (c_best_of : PySem.W.codeIn K cd_best_of "_best_of" = true)
    (kk_best_of : PySem.W.keepIn K (.ref a_best_of) = true)
    (l_least_and_greatest : K.lookup a_least_and_greatest = some ⟨oc_least_and_greatest, od_least_and_greatest, .func (PySem.W.fnOf "least_and_greatest" "least_and_greatest" (defArgs s_least_and_greatest) (defBody s_least_and_greatest) (defScope s_least_and_greatest) .none kV_least_and_greatest dc_least_and_greatest pm_least_and_greatest an_least_and_greatest cd_least_and_greatest ct_least_and_greatest), sl_least_and_greatest⟩)
    (c_least_and_greatest : PySem.W.codeIn K cd_least_and_greatest "least_and_greatest" = true)
    (kk_least_and_greatest : PySem.W.keepIn K (.ref a_least_and_greatest) = true)
    (l_Machine_init : K.lookup a_Machine_init = some ⟨oc_Machine_init, od_Machine_init, .func (PySem.W.fnOf "__init__" "Machine.__init__" (defArgs s_Machine_init) (defBody s_Machine_init) (defScope s_Machine_init) .none kV_Machine_init dc_Machine_init pm_Machine_init an_Machine_init cd_Machine_init ct_Machine_init), sl_Machine_init⟩)
    (c_Machine_init : PySem.W.codeIn K cd_Machine_init "Machine.__init__" = true)
    (kk_Machine_init : PySem.W.keepIn K (.ref a_Machine_init) = true)
    (l_Machine_stands : K.lookup a_Machine_stands = some ⟨oc_Machine_stands, od_Machine_stands, .func (PySem.W.fnOf "stands" "Machine.stands" (defArgs s_Machine_stands) (defBody s_Machine_stands) (defScope s_Machine_stands) .none kV_Machine_stands dc_Machine_stands pm_Machine_stands an_Machine_stands cd_Machine_stands ct_Machine_stands), sl_Machine_stands⟩)
    (c_Machine_stands : PySem.W.codeIn K cd_Machine_stands "Machine.stands" = true)
    (kk_Machine_stands : PySem.W.keepIn K (.ref a_Machine_stands) = true)
    (l_Machine_steps : K.lookup a_Machine_steps = some ⟨oc_Machine_steps, od_Machine_steps, .func (PySem.W.fnOf "steps" "Machine.steps" (defArgs s_Machine_steps) (defBody s_Machine_steps) (defScope s_Machine_steps) .none kV_Machine_steps dc_Machine_steps pm_Machine_steps an_Machine_steps cd_Machine_steps ct_Machine_steps), sl_Machine_steps⟩)
    (c_Machine_steps : PySem.W.codeIn K cd_Machine_steps "Machine.steps" = true)
    (kk_Machine_steps : PySem.W.keepIn K (.ref a_Machine_steps) = true)
    (l_is_whole_number : K.lookup a_is_whole_number = some ⟨oc_is_whole_number, od_is_whole_number, .func (PySem.W.fnOf "is_whole_number" "is_whole_number" (defArgs s_is_whole_number) (defBody s_is_whole_number) (defScope s_is_whole_number) .none kV_is_whole_number dc_is_whole_number pm_is_whole_number an_is_whole_number cd_is_whole_number ct_is_whole_number), sl_is_whole_number⟩)
    (c_is_whole_number : PySem.W.codeIn K cd_is_whole_number "is_whole_number" = true)
    (kk_is_whole_number : PySem.W.keepIn K (.ref a_is_whole_number) = true)
    (l_is_integer_between : K.lookup a_is_integer_between = some ⟨oc_is_integer_between, od_is_integer_between, .func (PySem.W.fnOf "is_integer_between" "is_integer_between" (defArgs s_is_integer_between) (defBody s_is_integer_between) (defScope s_is_integer_between) .none kV_is_integer_between dc_is_integer_between pm_is_integer_between an_is_integer_between cd_is_integer_between ct_is_integer_between), sl_is_integer_between⟩)
    (c_is_integer_between : PySem.W.codeIn K cd_is_integer_between "is_integer_between" = true)
    (kk_is_integer_between : PySem.W.keepIn K (.ref a_is_integer_between) = true)
    (l_is_stand : K.lookup a_is_stand = some ⟨oc_is_stand, od_is_stand, .func (PySem.W.fnOf "_is_stand" "_is_stand" (defArgs s_is_stand) (defBody s_is_stand) (defScope s_is_stand) .none kV_is_stand dc_is_stand pm_is_stand an_is_stand cd_is_stand ct_is_stand), sl_is_stand⟩)
    (c_is_stand : PySem.W.codeIn K cd_is_stand "_is_stand" = true)
    (kk_is_stand : PySem.W.keepIn K (.ref a_is_stand) = true)
    (l_check_stands : K.lookup a_check_stands = some ⟨oc_check_stands, od_check_stands, .func (PySem.W.fnOf "_check_stands" "_check_stands" (defArgs s_check_stands) (defBody s_check_stands) (defScope s_check_stands) .none kV_check_stands dc_check_stands pm_check_stands an_check_stands cd_check_stands ct_check_stands), sl_check_stands⟩)
    (c_check_stands : PySem.W.codeIn K cd_check_stands "_check_stands" = true)
    (kk_check_stands : PySem.W.keepIn K (.ref a_check_stands) = true)
    (l_is_step : K.lookup a_is_step = some ⟨oc_is_step, od_is_step, .func (PySem.W.fnOf "_is_step" "_is_step" (defArgs s_is_step) (defBody s_is_step) (defScope s_is_step) .none kV_is_step dc_is_step pm_is_step an_is_step cd_is_step ct_is_step), sl_is_step⟩)
    (c_is_step : PySem.W.codeIn K cd_is_step "_is_step" = true)
    (kk_is_step : PySem.W.keepIn K (.ref a_is_step) = true)
    (l_check_steps : K.lookup a_check_steps = some ⟨oc_check_steps, od_check_steps, .func (PySem.W.fnOf "_check_steps" "_check_steps" (defArgs s_check_steps) (defBody s_check_steps) (defScope s_check_steps) .none kV_check_steps dc_check_steps pm_check_steps an_check_steps cd_check_steps ct_check_steps), sl_check_steps⟩)
    (c_check_steps : PySem.W.codeIn K cd_check_steps "_check_steps" = true)
    (kk_check_steps : PySem.W.keepIn K (.ref a_check_steps) = true)
    (l_is_ascending : K.lookup a_is_ascending = some ⟨oc_is_ascending, od_is_ascending, .func (PySem.W.fnOf "is_ascending" "is_ascending" (defArgs s_is_ascending) (defBody s_is_ascending) (defScope s_is_ascending) .none kV_is_ascending dc_is_ascending pm_is_ascending an_is_ascending cd_is_ascending ct_is_ascending), sl_is_ascending⟩)
    (c_is_ascending : PySem.W.codeIn K cd_is_ascending "is_ascending" = true)
    (kk_is_ascending : PySem.W.keepIn K (.ref a_is_ascending) = true)
    (l_check_ends : K.lookup a_check_ends = some ⟨oc_check_ends, od_check_ends, .func (PySem.W.fnOf "_check_ends" "_check_ends" (defArgs s_check_ends) (defBody s_check_ends) (defScope s_check_ends) .none kV_check_ends dc_check_ends pm_check_ends an_check_ends cd_check_ends ct_check_ends), sl_check_ends⟩)
    (c_check_ends : PySem.W.codeIn K cd_check_ends "_check_ends" = true)
    (kk_check_ends : PySem.W.keepIn K (.ref a_check_ends) = true)
    (l_check_machine : K.lookup a_check_machine = some ⟨oc_check_machine, od_check_machine, .func (PySem.W.fnOf "check_machine" "check_machine" (defArgs s_check_machine) (defBody s_check_machine) (defScope s_check_machine) .none kV_check_machine dc_check_machine pm_check_machine an_check_machine cd_check_machine ct_check_machine), sl_check_machine⟩)
    (c_check_machine : PySem.W.codeIn K cd_check_machine "check_machine" = true)
    (kk_check_machine : PySem.W.keepIn K (.ref a_check_machine) = true)
    (l_reached : K.lookup a_reached = some ⟨oc_reached, od_reached, .func (PySem.W.fnOf "reached" "reached" (defArgs s_reached) (defBody s_reached) (defScope s_reached) .none kV_reached dc_reached pm_reached an_reached cd_reached ct_reached), sl_reached⟩)
    (c_reached : PySem.W.codeIn K cd_reached "reached" = true)
    (kk_reached : PySem.W.keepIn K (.ref a_reached) = true)
    (l_check_steps_mends : K.lookup a_check_steps_mends = some ⟨oc_check_steps_mends, od_check_steps_mends, .func (PySem.W.fnOf "_check_steps" "_check_steps" (defArgs s_check_steps_mends) (defBody s_check_steps_mends) (defScope s_check_steps_mends) .none kV_check_steps_mends dc_check_steps_mends pm_check_steps_mends an_check_steps_mends cd_check_steps_mends ct_check_steps_mends), sl_check_steps_mends⟩)
    (c_check_steps_mends : PySem.W.codeIn K cd_check_steps_mends "_check_steps" = true)
    (kk_check_steps_mends : PySem.W.keepIn K (.ref a_check_steps_mends) = true)
    (l_places_on_loops : K.lookup a_places_on_loops = some ⟨oc_places_on_loops, od_places_on_loops, .func (PySem.W.fnOf "_places_on_loops" "_places_on_loops" (defArgs s_places_on_loops) (defBody s_places_on_loops) (defScope s_places_on_loops) .none kV_places_on_loops dc_places_on_loops pm_places_on_loops an_places_on_loops cd_places_on_loops ct_places_on_loops), sl_places_on_loops⟩)
    (c_places_on_loops : PySem.W.codeIn K cd_places_on_loops "_places_on_loops" = true)
    (kk_places_on_loops : PySem.W.keepIn K (.ref a_places_on_loops) = true)
    (l_spread : K.lookup a_spread = some ⟨oc_spread, od_spread, .func (PySem.W.fnOf "_spread" "_spread" (defArgs s_spread) (defBody s_spread) (defScope s_spread) .none kV_spread dc_spread pm_spread an_spread cd_spread ct_spread), sl_spread⟩)
    (c_spread : PySem.W.codeIn K cd_spread "_spread" = true)
    (kk_spread : PySem.W.keepIn K (.ref a_spread) = true)
    (l_numbers : K.lookup a_numbers = some ⟨oc_numbers, od_numbers, .func (PySem.W.fnOf "_numbers" "_numbers" (defArgs s_numbers) (defBody s_numbers) (defScope s_numbers) .none kV_numbers dc_numbers pm_numbers an_numbers cd_numbers ct_numbers), sl_numbers⟩)
    (c_numbers : PySem.W.codeIn K cd_numbers "_numbers" = true)
    (kk_numbers : PySem.W.keepIn K (.ref a_numbers) = true)
    (l_numbers_without : K.lookup a_numbers_without = some ⟨oc_numbers_without, od_numbers_without, .func (PySem.W.fnOf "_numbers_without" "_numbers_without" (defArgs s_numbers_without) (defBody s_numbers_without) (defScope s_numbers_without) .none kV_numbers_without dc_numbers_without pm_numbers_without an_numbers_without cd_numbers_without ct_numbers_without), sl_numbers_without⟩)
    (c_numbers_without : PySem.W.codeIn K cd_numbers_without "_numbers_without" = true)
    (kk_numbers_without : PySem.W.keepIn K (.ref a_numbers_without) = true)
    (l_sets_that_mend : K.lookup a_sets_that_mend = some ⟨oc_sets_that_mend, od_sets_that_mend, .func (PySem.W.fnOf "_sets_that_mend" "_sets_that_mend" (defArgs s_sets_that_mend) (defBody s_sets_that_mend) (defScope s_sets_that_mend) .none kV_sets_that_mend dc_sets_that_mend pm_sets_that_mend an_sets_that_mend cd_sets_that_mend ct_sets_that_mend), sl_sets_that_mend⟩)
    (c_sets_that_mend : PySem.W.codeIn K cd_sets_that_mend "_sets_that_mend" = true)
    (kk_sets_that_mend : PySem.W.keepIn K (.ref a_sets_that_mend) = true)
    (l_mends : K.lookup a_mends = some ⟨oc_mends, od_mends, .func (PySem.W.fnOf "mends" "mends" (defArgs s_mends) (defBody s_mends) (defScope s_mends) .none kV_mends dc_mends pm_mends an_mends cd_mends ct_mends), sl_mends⟩)
    (c_mends : PySem.W.codeIn K cd_mends "mends" = true)
    (kk_mends : PySem.W.keepIn K (.ref a_mends) = true)
    (l_mended : K.lookup a_mended = some ⟨oc_mended, od_mended, .func (PySem.W.fnOf "mended" "mended" (defArgs s_mended) (defBody s_mended) (defScope s_mended) .none kV_mended dc_mended pm_mended an_mended cd_mended ct_mended), sl_mended⟩)
    (c_mended : PySem.W.codeIn K cd_mended "mended" = true)
    (kk_mended : PySem.W.keepIn K (.ref a_mended) = true)
    (l_bounds : K.lookup a_bounds = some ⟨oc_bounds, od_bounds, .func (PySem.W.fnOf "bounds" "bounds" (defArgs s_bounds) (defBody s_bounds) (defScope s_bounds) .none kV_bounds dc_bounds pm_bounds an_bounds cd_bounds ct_bounds), sl_bounds⟩)
    (c_bounds : PySem.W.codeIn K cd_bounds "bounds" = true)
    (kk_bounds : PySem.W.keepIn K (.ref a_bounds) = true)
    (l_law_taken : K.lookup a_law_taken = some ⟨oc_law_taken, od_law_taken, .func (PySem.W.fnOf "_law_taken" "_law_taken" (defArgs s_law_taken) (defBody s_law_taken) (defScope s_law_taken) .none kV_law_taken dc_law_taken pm_law_taken an_law_taken cd_law_taken ct_law_taken), sl_law_taken⟩)
    (c_law_taken : PySem.W.codeIn K cd_law_taken "_law_taken" = true)
    (kk_law_taken : PySem.W.keepIn K (.ref a_law_taken) = true)
    (l_law_parts : K.lookup a_law_parts = some ⟨oc_law_parts, od_law_parts, .func (PySem.W.fnOf "_law_parts" "_law_parts" (defArgs s_law_parts) (defBody s_law_parts) (defScope s_law_parts) .none kV_law_parts dc_law_parts pm_law_parts an_law_parts cd_law_parts ct_law_parts), sl_law_parts⟩)
    (c_law_parts : PySem.W.codeIn K cd_law_parts "_law_parts" = true)
    (kk_law_parts : PySem.W.keepIn K (.ref a_law_parts) = true)
    (l_law_machine : K.lookup a_law_machine = some ⟨oc_law_machine, od_law_machine, .func (PySem.W.fnOf "_law_machine" "_law_machine" (defArgs s_law_machine) (defBody s_law_machine) (defScope s_law_machine) .none kV_law_machine dc_law_machine pm_law_machine an_law_machine cd_law_machine ct_law_machine), sl_law_machine⟩)
    (c_law_machine : PySem.W.codeIn K cd_law_machine "_law_machine" = true)
    (kk_law_machine : PySem.W.keepIn K (.ref a_law_machine) = true)
    (l_law_next : K.lookup a_law_next = some ⟨oc_law_next, od_law_next, .func (PySem.W.fnOf "_law_next" "_law_next" (defArgs s_law_next) (defBody s_law_next) (defScope s_law_next) .none kV_law_next dc_law_next pm_law_next an_law_next cd_law_next ct_law_next), sl_law_next⟩)
    (c_law_next : PySem.W.codeIn K cd_law_next "_law_next" = true)
    (kk_law_next : PySem.W.keepIn K (.ref a_law_next) = true)
    (l_law_reached : K.lookup a_law_reached = some ⟨oc_law_reached, od_law_reached, .func (PySem.W.fnOf "_law_reached" "_law_reached" (defArgs s_law_reached) (defBody s_law_reached) (defScope s_law_reached) .none kV_law_reached dc_law_reached pm_law_reached an_law_reached cd_law_reached ct_law_reached), sl_law_reached⟩)
    (c_law_reached : PySem.W.codeIn K cd_law_reached "_law_reached" = true)
    (kk_law_reached : PySem.W.keepIn K (.ref a_law_reached) = true)
    (l_law_inner : K.lookup a_law_inner = some ⟨oc_law_inner, od_law_inner, .func (PySem.W.fnOf "_law_inner" "_law_inner" (defArgs s_law_inner) (defBody s_law_inner) (defScope s_law_inner) .none kV_law_inner dc_law_inner pm_law_inner an_law_inner cd_law_inner ct_law_inner), sl_law_inner⟩)
    (c_law_inner : PySem.W.codeIn K cd_law_inner "_law_inner" = true)
    (kk_law_inner : PySem.W.keepIn K (.ref a_law_inner) = true)
    (l_law_level : K.lookup a_law_level = some ⟨oc_law_level, od_law_level, .func (PySem.W.fnOf "_law_level" "_law_level" (defArgs s_law_level) (defBody s_law_level) (defScope s_law_level) .none kV_law_level dc_law_level pm_law_level an_law_level cd_law_level ct_law_level), sl_law_level⟩)
    (c_law_level : PySem.W.codeIn K cd_law_level "_law_level" = true)
    (kk_law_level : PySem.W.keepIn K (.ref a_law_level) = true)
    (l_law_subsets : K.lookup a_law_subsets = some ⟨oc_law_subsets, od_law_subsets, .func (PySem.W.fnOf "_law_subsets" "_law_subsets" (defArgs s_law_subsets) (defBody s_law_subsets) (defScope s_law_subsets) .none kV_law_subsets dc_law_subsets pm_law_subsets an_law_subsets cd_law_subsets ct_law_subsets), sl_law_subsets⟩)
    (c_law_subsets : PySem.W.codeIn K cd_law_subsets "_law_subsets" = true)
    (kk_law_subsets : PySem.W.keepIn K (.ref a_law_subsets) = true)
    (l_law_few : K.lookup a_law_few = some ⟨oc_law_few, od_law_few, .func (PySem.W.fnOf "_law_few" "_law_few" (defArgs s_law_few) (defBody s_law_few) (defScope s_law_few) .none kV_law_few dc_law_few pm_law_few an_law_few cd_law_few ct_law_few), sl_law_few⟩)
    (c_law_few : PySem.W.codeIn K cd_law_few "_law_few" = true)
    (kk_law_few : PySem.W.keepIn K (.ref a_law_few) = true)
    (l_law : K.lookup a_law = some ⟨oc_law, od_law, .func (PySem.W.fnOf "law" "law" (defArgs s_law) (defBody s_law) (defScope s_law) .none kV_law dc_law pm_law an_law cd_law ct_law), sl_law⟩)
    (c_law : PySem.W.codeIn K cd_law "law" = true)
    (kk_law : PySem.W.keepIn K (.ref a_law) = true)
    (pg_Machine : PySem.W.plainGet K c_Machine Str.empty = true)
    (hd_Machine : PySem.W.hasDictIn K c_Machine = true)
    (po_Machine : PySem.W.plainOver K c_Machine = true)
    (sa_Machine : PySem.W.findIn K (.ref c_Machine) "__setattr__" = some (some (.builtin "object.__setattr__")))
    (mi_Machine : PySem.W.makesIn K c_Machine = true)
    (kc_Machine : PySem.W.keepIn K (.ref c_Machine) = true)
    (fi_Machine : PySem.W.findIn K (.ref c_Machine) "__init__" = some (some (.ref a_Machine_init)))
    (if_Machine : PySem.W.isFn K (.ref a_Machine_init) = true)
    (nf_stands : PySem.W.findIn K (.ref c_Machine) "_stands" = some none)
    (nf_steps : PySem.W.findIn K (.ref c_Machine) "_steps" = some none)
    (nf_ends : PySem.W.findIn K (.ref c_Machine) "_ends" = some none)
    (pf_stands : PySem.W.findIn K (.ref c_Machine) "stands" = some (some (.ref q_stands)))
    (pt_stands : PySem.W.specialIn K (.ref q_stands) "__get__" = some (some (.builtin "property.__get__")))
    (pk_stands : PySem.W.takesIn K (.ref q_stands) = some true)
    (pr_stands : PySem.W.recIn K q_stands "property" = some (.ref a_Machine_stands :: rest_stands))
    (pf_steps : PySem.W.findIn K (.ref c_Machine) "steps" = some (some (.ref q_steps)))
    (pt_steps : PySem.W.specialIn K (.ref q_steps) "__get__" = some (some (.builtin "property.__get__")))
    (pk_steps : PySem.W.takesIn K (.ref q_steps) = some true)
    (pr_steps : PySem.W.recIn K q_steps "property" = some (.ref a_Machine_steps :: rest_steps))
    (x_i1_Machine : PySem.W.findIn K (.ref c_Machine) "__class__" = some (some (.builtin "object.__class__")))
    (x_i2_Machine : PySem.W.specialIn K (.builtin "object.__class__") "__get__" = some (some (.builtin "getset_descriptor.__get__")))
    (x_i3_Machine : PySem.W.takesIn K (.builtin "object.__class__") = some true)
    (x_i4_Machine : PySem.W.mroIn K c_Machine (.type "object") = some true)
    (l_LETTERS : ∀ H : Hp, SqT K H a_LETTERS [V.str "a", V.str "b", V.str "c", V.str "d"]) : Txt K mg :=
  Txt.mk (K := K) (mg := mg)
    (a_led_to)
    (_)
    (fun_mk (st := s_led_to) l_led_to c_led_to kk_led_to)
    ((fun_mk (st := s_led_to) l_led_to c_led_to kk_led_to).binds (ps := ["steps", "begins"]) bb_led_to)
    (kk_led_to)
    (PySem.W.mg_of X G g_led_to)
    (a_longer_rows)
    (_)
    (fun_mk (st := s_longer_rows) l_longer_rows c_longer_rows kk_longer_rows)
    ((fun_mk (st := s_longer_rows) l_longer_rows c_longer_rows kk_longer_rows).binds (ps := ["steps", "sign", "rows"]) bb_longer_rows)
    (kk_longer_rows)
    (PySem.W.mg_of X G g_longer_rows)
    (a_improved)
    (_)
    (fun_mk (st := s_improved) l_improved c_improved kk_improved)
    ((fun_mk (st := s_improved) l_improved c_improved kk_improved).binds (ps := ["rows", "best"]) bb_improved)
    (kk_improved)
    (PySem.W.mg_of X G g_improved)
    (a_best_rows)
    (_)
    (fun_mk (st := s_best_rows) l_best_rows c_best_rows kk_best_rows)
    ((fun_mk (st := s_best_rows) l_best_rows c_best_rows kk_best_rows).binds (ps := ["many", "steps", "sign"]) bb_best_rows)
    (kk_best_rows)
    (PySem.W.mg_of X G g_best_rows)
    (a_best_of)
    (_)
    (fun_mk (st := s_best_of) l_best_of c_best_of kk_best_of)
    ((fun_mk (st := s_best_of) l_best_of c_best_of kk_best_of).binds (ps := ["many", "steps", "sign", "stands"]) bb_best_of)
    (kk_best_of)
    (PySem.W.mg_of X G g_best_of)
    (a_least_and_greatest)
    (_)
    (fun_mk (st := s_least_and_greatest) l_least_and_greatest c_least_and_greatest kk_least_and_greatest)
    ((fun_mk (st := s_least_and_greatest) l_least_and_greatest c_least_and_greatest kk_least_and_greatest).binds (ps := ["many", "steps", "stands"]) bb_least_and_greatest)
    (kk_least_and_greatest)
    (PySem.W.mg_of X G g_least_and_greatest)
    (a_Machine_init)
    (_)
    (fun_mk (st := s_Machine_init) l_Machine_init c_Machine_init kk_Machine_init)
    ((fun_mk (st := s_Machine_init) l_Machine_init c_Machine_init kk_Machine_init).binds (ps := ["self", "stands", "steps", "ends"]) bb_Machine_init)
    (kk_Machine_init)
    (a_Machine_stands)
    (_)
    (fun_mk (st := s_Machine_stands) l_Machine_stands c_Machine_stands kk_Machine_stands)
    ((fun_mk (st := s_Machine_stands) l_Machine_stands c_Machine_stands kk_Machine_stands).binds (ps := ["self"]) bb_Machine_stands)
    (kk_Machine_stands)
    (a_Machine_steps)
    (_)
    (fun_mk (st := s_Machine_steps) l_Machine_steps c_Machine_steps kk_Machine_steps)
    ((fun_mk (st := s_Machine_steps) l_Machine_steps c_Machine_steps kk_Machine_steps).binds (ps := ["self"]) bb_Machine_steps)
    (kk_Machine_steps)
    (a_is_whole_number)
    (_)
    (fun_mk (st := s_is_whole_number) l_is_whole_number c_is_whole_number kk_is_whole_number)
    ((fun_mk (st := s_is_whole_number) l_is_whole_number c_is_whole_number kk_is_whole_number).binds (ps := ["value"]) bb_is_whole_number)
    (kk_is_whole_number)
    (PySem.W.mg_of X G g_is_whole_number)
    (a_is_integer_between)
    (_)
    (fun_mk (st := s_is_integer_between) l_is_integer_between c_is_integer_between kk_is_integer_between)
    ((fun_mk (st := s_is_integer_between) l_is_integer_between c_is_integer_between kk_is_integer_between).binds (ps := ["value", "least", "most"]) bb_is_integer_between)
    (kk_is_integer_between)
    (PySem.W.mg_of X G g_is_integer_between)
    (a_is_stand)
    (_)
    (fun_mk (st := s_is_stand) l_is_stand c_is_stand kk_is_stand)
    ((fun_mk (st := s_is_stand) l_is_stand c_is_stand kk_is_stand).binds (ps := ["stands", "value"]) bb_is_stand)
    (kk_is_stand)
    (PySem.W.mg_of X G g_is_stand)
    (a_check_stands)
    (_)
    (fun_mk (st := s_check_stands) l_check_stands c_check_stands kk_check_stands)
    ((fun_mk (st := s_check_stands) l_check_stands c_check_stands kk_check_stands).binds (ps := ["stands"]) bb_check_stands)
    (kk_check_stands)
    (PySem.W.mg_of X G g_check_stands)
    (a_is_step)
    (_)
    (fun_mk (st := s_is_step) l_is_step c_is_step kk_is_step)
    ((fun_mk (st := s_is_step) l_is_step c_is_step kk_is_step).binds (ps := ["stands", "value"]) bb_is_step)
    (kk_is_step)
    (PySem.W.mg_of X G g_is_step)
    (a_check_steps)
    (_)
    (fun_mk (st := s_check_steps) l_check_steps c_check_steps kk_check_steps)
    ((fun_mk (st := s_check_steps) l_check_steps c_check_steps kk_check_steps).binds (ps := ["stands", "steps"]) bb_check_steps)
    (kk_check_steps)
    (PySem.W.mg_of X G g_check_steps)
    (a_is_ascending)
    (_)
    (fun_mk (st := s_is_ascending) l_is_ascending c_is_ascending kk_is_ascending)
    ((fun_mk (st := s_is_ascending) l_is_ascending c_is_ascending kk_is_ascending).binds (ps := ["value", "many"]) bb_is_ascending)
    (kk_is_ascending)
    (PySem.W.mg_of X G g_is_ascending)
    (a_check_ends)
    (_)
    (fun_mk (st := s_check_ends) l_check_ends c_check_ends kk_check_ends)
    ((fun_mk (st := s_check_ends) l_check_ends c_check_ends kk_check_ends).binds (ps := ["stands", "ends"]) bb_check_ends)
    (kk_check_ends)
    (PySem.W.mg_of X G g_check_ends)
    (a_check_machine)
    (_)
    (fun_mk (st := s_check_machine) l_check_machine c_check_machine kk_check_machine)
    ((fun_mk (st := s_check_machine) l_check_machine c_check_machine kk_check_machine).binds (ps := ["value"]) bb_check_machine)
    (kk_check_machine)
    (PySem.W.mg_of X G g_check_machine)
    (a_reached)
    (_)
    (fun_mk (st := s_reached) l_reached c_reached kk_reached)
    ((fun_mk (st := s_reached) l_reached c_reached kk_reached).binds (ps := ["machine"]) bb_reached)
    (kk_reached)
    (PySem.W.mg_of X G g_reached)
    (a_check_steps_mends)
    (_)
    (fun_mk (st := s_check_steps_mends) l_check_steps_mends c_check_steps_mends kk_check_steps_mends)
    ((fun_mk (st := s_check_steps_mends) l_check_steps_mends c_check_steps_mends kk_check_steps_mends).binds (ps := ["machine"]) bb_check_steps_mends)
    (kk_check_steps_mends)
    (PySem.W.mg_of X G g_check_steps_mends)
    (a_places_on_loops)
    (_)
    (fun_mk (st := s_places_on_loops) l_places_on_loops c_places_on_loops kk_places_on_loops)
    ((fun_mk (st := s_places_on_loops) l_places_on_loops c_places_on_loops kk_places_on_loops).binds (ps := ["machine"]) bb_places_on_loops)
    (kk_places_on_loops)
    (PySem.W.mg_of X G g_places_on_loops)
    (a_spread)
    (_)
    (fun_mk (st := s_spread) l_spread c_spread kk_spread)
    ((fun_mk (st := s_spread) l_spread c_spread kk_spread).binds (ps := ["numbers", "steps"]) bb_spread)
    (kk_spread)
    (PySem.W.mg_of X G g_spread)
    (a_numbers)
    (_)
    (fun_mk (st := s_numbers) l_numbers c_numbers kk_numbers)
    ((fun_mk (st := s_numbers) l_numbers c_numbers kk_numbers).binds (ps := ["many", "steps"]) bb_numbers)
    (kk_numbers)
    (PySem.W.mg_of X G g_numbers)
    (a_numbers_without)
    (_)
    (fun_mk (st := s_numbers_without) l_numbers_without c_numbers_without kk_numbers_without)
    ((fun_mk (st := s_numbers_without) l_numbers_without c_numbers_without kk_numbers_without).binds (ps := ["machine", "places", "some"]) bb_numbers_without)
    (kk_numbers_without)
    (PySem.W.mg_of X G g_numbers_without)
    (a_sets_that_mend)
    (_)
    (fun_mk (st := s_sets_that_mend) l_sets_that_mend c_sets_that_mend kk_sets_that_mend)
    ((fun_mk (st := s_sets_that_mend) l_sets_that_mend c_sets_that_mend kk_sets_that_mend).binds (ps := ["machine", "places", "many"]) bb_sets_that_mend)
    (kk_sets_that_mend)
    (PySem.W.mg_of X G g_sets_that_mend)
    (a_mends)
    (_)
    (fun_mk (st := s_mends) l_mends c_mends kk_mends)
    ((fun_mk (st := s_mends) l_mends c_mends kk_mends).binds (ps := ["machine"]) bb_mends)
    (kk_mends)
    (PySem.W.mg_of X G g_mends)
    (a_mended)
    (_)
    (fun_mk (st := s_mended) l_mended c_mended kk_mended)
    ((fun_mk (st := s_mended) l_mended c_mended kk_mended).binds (ps := ["machine", "some"]) bb_mended)
    (kk_mended)
    (PySem.W.mg_of X G g_mended)
    (a_bounds)
    (_)
    (fun_mk (st := s_bounds) l_bounds c_bounds kk_bounds)
    ((fun_mk (st := s_bounds) l_bounds c_bounds kk_bounds).binds (ps := ["machine"]) bb_bounds)
    (kk_bounds)
    (PySem.W.mg_of X G g_bounds)
    (a_law_taken)
    (_)
    (fun_mk (st := s_law_taken) l_law_taken c_law_taken kk_law_taken)
    ((fun_mk (st := s_law_taken) l_law_taken c_law_taken kk_law_taken).binds (ps := ["_law_row", "_law_many"]) bb_law_taken)
    (kk_law_taken)
    (PySem.W.mg_of X G g_law_taken)
    (a_law_parts)
    (_)
    (fun_mk (st := s_law_parts) l_law_parts c_law_parts kk_law_parts)
    ((fun_mk (st := s_law_parts) l_law_parts c_law_parts kk_law_parts).binds (ps := ["_law_row", "_law_stands", "_law_size"]) bb_law_parts)
    (kk_law_parts)
    (PySem.W.mg_of X G g_law_parts)
    (a_law_machine)
    (_)
    (fun_mk (st := s_law_machine) l_law_machine c_law_machine kk_law_machine)
    ((fun_mk (st := s_law_machine) l_law_machine c_law_machine kk_law_machine).binds (ps := ["_law_d"]) bb_law_machine)
    (kk_law_machine)
    (PySem.W.mg_of X G g_law_machine)
    (a_law_next)
    (_)
    (fun_mk (st := s_law_next) l_law_next c_law_next kk_law_next)
    ((fun_mk (st := s_law_next) l_law_next c_law_next kk_law_next).binds (ps := ["_law_d", "_law_stand"]) bb_law_next)
    (kk_law_next)
    (PySem.W.mg_of X G g_law_next)
    (a_law_reached)
    (_)
    (fun_mk (st := s_law_reached) l_law_reached c_law_reached kk_law_reached)
    ((fun_mk (st := s_law_reached) l_law_reached c_law_reached kk_law_reached).binds (ps := ["_law_d"]) bb_law_reached)
    (kk_law_reached)
    (PySem.W.mg_of X G g_law_reached)
    (a_law_inner)
    (_)
    (fun_mk (st := s_law_inner) l_law_inner c_law_inner kk_law_inner)
    ((fun_mk (st := s_law_inner) l_law_inner c_law_inner kk_law_inner).binds (ps := ["_law_d"]) bb_law_inner)
    (kk_law_inner)
    (PySem.W.mg_of X G g_law_inner)
    (a_law_level)
    (_)
    (fun_mk (st := s_law_level) l_law_level c_law_level kk_law_level)
    ((fun_mk (st := s_law_level) l_law_level c_law_level kk_law_level).binds (ps := ["_law_d", "_law_places"]) bb_law_level)
    (kk_law_level)
    (PySem.W.mg_of X G g_law_level)
    (a_law_subsets)
    (_)
    (fun_mk (st := s_law_subsets) l_law_subsets c_law_subsets kk_law_subsets)
    ((fun_mk (st := s_law_subsets) l_law_subsets c_law_subsets kk_law_subsets).binds (ps := ["_law_things", "_law_size"]) bb_law_subsets)
    (kk_law_subsets)
    (PySem.W.mg_of X G g_law_subsets)
    (a_law_few)
    (_)
    (fun_mk (st := s_law_few) l_law_few c_law_few kk_law_few)
    ((fun_mk (st := s_law_few) l_law_few c_law_few kk_law_few).binds (ps := ["_law_row", "_law_size"]) bb_law_few)
    (kk_law_few)
    (PySem.W.mg_of X G g_law_few)
    (a_law)
    (_)
    (fun_mk (st := s_law) l_law c_law kk_law)
    ((fun_mk (st := s_law) l_law c_law kk_law).binds (ps := ["_law_script"]) bb_law)
    (kk_law)
    (PySem.W.mg_of X G g_law)
    (c_Machine)
    (⟨pg_Machine, hd_Machine, po_Machine, sa_Machine⟩)
    (PySem.W.mg_of X G g_Machine)
    (⟨mi_Machine, fi_Machine, if_Machine, kc_Machine⟩)
    (nf_stands)
    (nf_steps)
    (nf_ends)
    (q_stands)
    (⟨pf_stands, pt_stands, pk_stands, ⟨_, pr_stands⟩⟩)
    (q_steps)
    (⟨pf_steps, pt_steps, pk_steps, ⟨_, pr_steps⟩⟩)
    (x_i1_Machine)
    (x_i2_Machine)
    (x_i3_Machine)
    (x_i4_Machine)
    (.int 8 t_MOST_STANDS)
    (PySem.W.mg_of X G g_MOST_STANDS)
    (⟨_, rfl⟩)
    (.int 1000000000000000000000000000000 t_MOST_GAIN)
    (PySem.W.mg_of X G g_MOST_GAIN)
    (⟨_, rfl⟩)
    (a_LETTERS)
    (PySem.W.mg_of X G g_LETTERS)
    (rfl)
    (l_LETTERS)
    (.str "endless" t_ENDLESS)
    (PySem.W.mg_of X G g_ENDLESS)
    (⟨_, rfl⟩)
    (.int 12 t_MOST_STEPS)
    (PySem.W.mg_of X G g_MOST_STEPS)
    (⟨_, rfl⟩)
    (PySem.W.mg_of X G g_combinations)
    (PySem.W.mg_none_of X G zz_all)
    (PySem.W.mg_none_of X G zz_bool)
    (PySem.W.mg_none_of X G zz_enumerate)
    (PySem.W.mg_none_of X G zz_int)
    (PySem.W.mg_none_of X G zz_isinstance)
    (PySem.W.mg_none_of X G zz_len)
    (PySem.W.mg_none_of X G zz_list)
    (PySem.W.mg_none_of X G zz_max)
    (PySem.W.mg_none_of X G zz_range)
    (PySem.W.mg_none_of X G zz_sorted)
    (PySem.W.mg_none_of X G zz_str)
    (PySem.W.mg_none_of X G zz_tuple)
    (fun s v => .of_eq rfl)
theorem all_mk {l : PySem.W.OpenLaw} {w : World} {K : PySem.W.Frag} {mg : Str → Option Value} {fa : Addr} (T : Txt K mg) (hfa : mg "law" = some (.ref fa)) :
    ∃ fd : FuncData, (∀ (s : Shared) (v : Value), BindsTo s fd ⟨[v], []⟩ [("_law_script", v)]) ∧ ∀ base : Heap, K.In base → base.Ns mainGlobals mg → FnOk l.prog w K mg base (L2.CX l.prog w) 20 fa fd ["_law_script"] (sp_law K) := by
  have e := hfa.symm.trans T.m_law
  cases e
  exact ⟨T.fd_law, T.bs_law, fun _ _ _ => ok_law T⟩
/-! ### the head by facts: the names that the law comes to, read off the run's end -/
section
open He
theorem map_join {α β γ δ : Type} {o : Option α} {a : α → β} {b : α → γ} {c : α → δ} {A : β} {B : γ} {C : δ} (h1 : o.map (fun x => a x) = some A) (h2 : o.map (fun x => b x) = some B) (h3 : o.map (fun x => c x) = some C) : o.map (fun x => (a x, b x, c x)) = some (A, B, C) := by
  cases o with
  | none => cases h1
  | some x =>
    have e1 : a x = A := Option.some.inj h1
    have e2 : b x = B := Option.some.inj h2
    have e3 : c x = C := Option.some.inj h3
    show some (a x, b x, c x) = _
    rw [e1, e2, e3]
def asN (g : Addr → Option Obj) (names : List Str) : List Addr := names.filterMap fun x => match PySem.W.nsIn (frG g [mainGlobals]) mainGlobals x with
  | some (some (.ref a)) => some a
  | _ => none
/-- what a function, a class, a table, a property names: a code object's own things are not looked at -/
def refsS (o : Obj) : List Addr := match o.data with
  | .seq its _ => its.toList.flatMap refV
  | .dict es _ => es.toList.flatMap fun e => refV e.val
  | .func fd => refV fd.code
  | .cls cd => cd.ns :: cd.mro.flatMap refV
  | .fields vs => (match o.cls with
    | .type c => (match decide (c = "property") with
      | true => vs.toList.flatMap refV
      | false => [])
    | _ => [])
  | _ => []
def newS (g : Addr → Option Obj) (as : List Addr) : List Addr := as.flatMap fun a => match g a with
  | some o => refsS o
  | none => []
/-- what is new at each step alone goes on -/
def grN (g : Addr → Option Obj) : Nat → List Addr → List Addr
  | 0, as => as
  | n + 1, as => as ++ grN g n (newS g as)
def frK (names : List Str) (n : Nat) (g : Addr → Option Obj) : PySem.W.Frag := frG g (mainGlobals :: cStatics :: grN g n (asN g names))
/-- a def of the text: its function's address as the written part tells it, what it must hold -/
structure FnA where
  ad : PySem.W.Frag → Addr
  name : Str
  qual : Str
  params : Arguments
  body : List Stmt
  scope : Scope
def FnSaid (K : PySem.W.Frag) (d : FnA) : Prop := ∃ oc od osl kV doc pm an cdv ct, K.lookup (d.ad K) = some ⟨oc, od, .func (PySem.W.fnOf d.name d.qual d.params d.body d.scope .none kV doc pm an cdv ct), osl⟩ ∧ PySem.W.codeIn K cdv d.qual = true
abbrev FnT : Type := Str × Str × Arguments × FuncBody × Scope × Addr × List (Str × Addr) × Value × Addr × Bool
def seenA (K : PySem.W.Frag) (d : FnA) : Option FnT := (K.lookup (d.ad K)).bind fun o => match o.data with
  | .func u => some (u.name, u.qualname, u.params, u.body, u.scope, u.globals, u.closure, u.defaults, u.builtins, PySem.W.codeIn K u.code d.qual)
  | _ => none
def wishA (d : FnA) : Option FnT := some (d.name, d.qual, d.params, .stmts d.body, d.scope, mainGlobals, [], .none, builtinsNs, true)
theorem seenA_ok {K : PySem.W.Frag} {d : FnA} (e : seenA K d = wishA d) : FnSaid K d := by
  obtain ⟨o, ho, e2⟩ := Option.bind_eq_some_iff.mp e
  obtain ⟨oc, od, dt, osl⟩ := o
  cases dt with
  | func u =>
    obtain ⟨u1, u2, u3, u4, u5, u6, u7, u8, u9, u10, u11, u12, u13, u14, u15⟩ := u
    have e3 := Option.some.inj e2
    simp only [Prod.mk.injEq] at e3
    obtain ⟨h1, h2, h3, h4, h5, h6, h7, h8, h9, h10⟩ := e3
    subst h1 h2 h3 h4 h5 h6 h7 h8 h9
    exact ⟨oc, od, osl, u9, u10, u11, u12, u13, u14, ho, h10⟩
  | _ => cases e2
abbrev AlF : Type := Bool × List (Option FnT)
def obsF (names : List Str) (n : Nat) (fn : List FnA) (ex : PySem.W.Frag → List Bool) (g : Addr → Option Obj) : AlF := ((ex (frK names n g)).all (fun b => b), fn.map (seenA (frK names n g)))
def valF (fn : List FnA) : AlF := (true, fn.map wishA)
theorem said_of {names : List Str} {n : Nat} {fn : List FnA} {ex : PySem.W.Frag → List Bool} {g : Addr → Option Obj} (e : obsF names n fn ex g = valF fn) : (ex (frK names n g)).all (fun b => b) = true ∧ ∀ (i : Nat) (d : FnA), fn[i]? = some d → FnSaid (frK names n g) d := by
  refine ⟨congrArg (fun z : AlF => z.1) e, fun i d h => ?_⟩
  have e3 : fn.map (seenA (frK names n g)) = fn.map wishA := congrArg (fun z : AlF => z.2) e
  have e2 : (fn.map (seenA (frK names n g)))[i]? = (fn.map wishA)[i]? := by rw [e3]
  rw [List.getElem?_map, List.getElem?_map, h] at e2
  exact seenA_ok (Option.some.inj e2)
def hookF (names : List Str) (n : Nat) (fn : List FnA) (ex : PySem.W.Frag → List Bool) : PySem.W.Hook where
  α := AlF
  obs := fun s => obsF names n fn ex s.heap.get?
  val := fun _ => valF fn
  says := fun _ h => ∃ K : PySem.W.Frag, K.In h ∧ (ex K).all (fun b => b) = true ∧ ∀ (i : Nat) (d : FnA), fn[i]? = some d → FnSaid K d
  of := fun _ _ e => ⟨_, frG_in, said_of e⟩
  keeps := fun _ _ _ ⟨K, hK, c⟩ k => ⟨K, PySem.W.Frag.In.keeps hK k, c⟩
theorem row_ok {l : List Bool} (h : l.all (fun b => b) = true) (i : Nat) {b : Bool} (e : l[i]? = some b) : b = true := List.all_eq_true.mp h b (List.mem_of_getElem? e)
theorem int_k {K : PySem.W.Frag} {x : Str} {i : Int} (c : (Fa.int x i).ok K = true) : ∃ t, PySem.W.nsIn K mainGlobals x = some (some (.int i t)) := by
  have c2 : (match PySem.W.nsIn K mainGlobals x with
    | some (some (.int j _)) => decide (j = i)
    | _ => false) = true := c
  cases e : PySem.W.nsIn K mainGlobals x with
  | none => rw [e] at c2; cases c2
  | some o =>
    rw [e] at c2
    cases o with
    | none => cases c2
    | some v =>
      cases v with
      | int j t =>
        have ej : j = i := of_decide_eq_true c2
        rw [ej]
        exact ⟨t, rfl⟩
      | _ => cases c2
theorem str_k {K : PySem.W.Frag} {x z : Str} (c : (Fa.str x z).ok K = true) : ∃ t, PySem.W.nsIn K mainGlobals x = some (some (.str z t)) := by
  have c2 : (match PySem.W.nsIn K mainGlobals x with
    | some (some (.str y _)) => decide (y = z)
    | _ => false) = true := c
  cases e : PySem.W.nsIn K mainGlobals x with
  | none => rw [e] at c2; cases c2
  | some o =>
    rw [e] at c2
    cases o with
    | none => cases c2
    | some v =>
      cases v with
      | str y t =>
        have ej : y = z := of_decide_eq_true c2
        rw [ej]
        exact ⟨t, rfl⟩
      | _ => cases c2
/-- the getter's function of a property, the base behind an exception's class -/
def pgA (K : PySem.W.Frag) (C p : Str) : Addr := match PySem.W.recIn K (ma K (ga K C) p) "property" with
  | some (.ref a :: _) => a
  | _ => 0
def pgB (K : PySem.W.Frag) (C p : Str) : Bool := match PySem.W.recIn K (ma K (ga K C) p) "property" with
  | some (.ref _ :: _) => true
  | _ => false
theorem pgB_ok {K : PySem.W.Frag} {C p : Str} (h : pgB K C p = true) : ∃ rest, PySem.W.recIn K (ma K (ga K C) p) "property" = some (.ref (pgA K C p) :: rest) := by
  unfold pgB at h
  unfold pgA
  cases e : PySem.W.recIn K (ma K (ga K C) p) "property" with
  | none => rw [e] at h; cases h
  | some l =>
    cases l with
    | nil => rw [e] at h; cases h
    | cons v r =>
      cases v with
      | ref a => exact ⟨r, rfl⟩
      | _ => rw [e] at h; cases h
def fvB (K : PySem.W.Frag) (C : Addr) : Bool := match PySem.W.findCls K (.ref C) (.type "type") "__init__" with
  | some (.val (.builtin b)) => decide (b = "ValueError.__init__")
  | _ => false
theorem fvB_ok {K : PySem.W.Frag} {C : Addr} (h : fvB K C = true) : PySem.W.findCls K (.ref C) (.type "type") "__init__" = some (.val (.builtin "ValueError.__init__")) := by
  unfold fvB at h
  split at h
  · rename_i b e
    rw [e, of_decide_eq_true h]
  · cases h
def exclB (K : PySem.W.Frag) (C : Addr) : Bool := match K.lookup C with
  | some ⟨.type t, _, .cls cd, sl⟩ => (match cd.mro, sl.toList with
    | .ref D :: bm, [_, _, _, _, some (.builtin b), _] => decide (t = "type") && (decide (D = C) && (decide (b = "ValueError.__new__") && (decide (cd.hasDel = false) && (decide (cd.hasDict = true) && PySem.HandSPX.refsVE bm))))
    | _, _ => false)
  | _ => false
theorem exclB_ok {K : PySem.W.Frag} {C : Addr} (h : exclB K C = true) : ∃ nm q N bs bm sn sub ab col dd k0 k1 k2 k3 k5, K.lookup C = some (excClassObj nm q C N bs bm true sn sub ab col dd k0 k1 k2 k3 k5 "ValueError.__new__") ∧ PySem.HandSPX.refsVE bm = true := by
  unfold exclB at h
  split at h
  · rename_i t dd cd sl ho
    split at h
    · rename_i D bm k0 k1 k2 k3 b k5 hm hs
      obtain ⟨h1, h⟩ := ba h
      obtain ⟨h2, h⟩ := ba h
      obtain ⟨h3, h⟩ := ba h
      obtain ⟨h4, h⟩ := ba h
      obtain ⟨h5, h6⟩ := ba h
      obtain ⟨nm, bs, mro, ns, qn, hd, sn, sub, ab, col, del⟩ := cd
      have q1 := of_decide_eq_true h1
      have q2 := of_decide_eq_true h2
      have q3 := of_decide_eq_true h3
      have q4 : del = false := of_decide_eq_true h4
      have q5 : hd = true := of_decide_eq_true h5
      have q6 : mro = .ref D :: bm := hm
      clear h1 h2 h3 h4 h5 hm
      have hsl : sl = #[k0, k1, k2, k3, some (.builtin b), k5] := by
        obtain ⟨l⟩ := sl
        have hs : l = [k0, k1, k2, k3, some (.builtin b), k5] := hs
        rw [hs]
      clear hs
      subst q1 q2 q3 q4 q5 q6 hsl
      exact ⟨nm, qn, ns, bs, bm, sn, sub, ab, col, dd, k0, k1, k2, k3, k5, ho, h6⟩
    · cases h
  · cases h
def nm_0 : List Str := ["led_to", "longer_rows", "_improved", "best_rows", "_best_of", "least_and_greatest", "is_whole_number", "is_integer_between", "_is_stand", "_check_stands", "_is_step", "check_steps_machines", "is_ascending", "_check_ends", "check_machine", "reached", "check_steps_mends", "_places_on_loops", "_spread", "_numbers", "_numbers_without", "_sets_that_mend", "mends", "mended", "bounds", "_law_taken", "_law_parts", "_law_machine", "_law_next", "_law_reached"]
def nm_1 : List Str := ["_law_inner", "_law_level", "_law_subsets", "_law_few", "law", "Machine", "LETTERS"]
def nms : List Str := nm_0 ++ nm_1
def fd_led_to : FnA := ⟨fun K => fAd K ("led_to", none), "led_to", "led_to", defArgs s_led_to, defBody s_led_to, defScope s_led_to⟩
def fd_longer_rows : FnA := ⟨fun K => fAd K ("longer_rows", none), "longer_rows", "longer_rows", defArgs s_longer_rows, defBody s_longer_rows, defScope s_longer_rows⟩
def fd_improved : FnA := ⟨fun K => fAd K ("_improved", none), "_improved", "_improved", defArgs s_improved, defBody s_improved, defScope s_improved⟩
def fd_best_rows : FnA := ⟨fun K => fAd K ("best_rows", none), "best_rows", "best_rows", defArgs s_best_rows, defBody s_best_rows, defScope s_best_rows⟩
def fd_best_of : FnA := ⟨fun K => fAd K ("_best_of", none), "_best_of", "_best_of", defArgs s_best_of, defBody s_best_of, defScope s_best_of⟩
def fd_least_and_greatest : FnA := ⟨fun K => fAd K ("least_and_greatest", none), "least_and_greatest", "least_and_greatest", defArgs s_least_and_greatest, defBody s_least_and_greatest, defScope s_least_and_greatest⟩
def fd_Machine_init : FnA := ⟨fun K => fAd K ("Machine", some "__init__"), "__init__", "Machine.__init__", defArgs s_Machine_init, defBody s_Machine_init, defScope s_Machine_init⟩
def fd_Machine_stands : FnA := ⟨fun K => pgA K "Machine" "stands", "stands", "Machine.stands", defArgs s_Machine_stands, defBody s_Machine_stands, defScope s_Machine_stands⟩
def fd_Machine_steps : FnA := ⟨fun K => pgA K "Machine" "steps", "steps", "Machine.steps", defArgs s_Machine_steps, defBody s_Machine_steps, defScope s_Machine_steps⟩
def fd_is_whole_number : FnA := ⟨fun K => fAd K ("is_whole_number", none), "is_whole_number", "is_whole_number", defArgs s_is_whole_number, defBody s_is_whole_number, defScope s_is_whole_number⟩
def fd_is_integer_between : FnA := ⟨fun K => fAd K ("is_integer_between", none), "is_integer_between", "is_integer_between", defArgs s_is_integer_between, defBody s_is_integer_between, defScope s_is_integer_between⟩
def fd_is_stand : FnA := ⟨fun K => fAd K ("_is_stand", none), "_is_stand", "_is_stand", defArgs s_is_stand, defBody s_is_stand, defScope s_is_stand⟩
def fd_check_stands : FnA := ⟨fun K => fAd K ("_check_stands", none), "_check_stands", "_check_stands", defArgs s_check_stands, defBody s_check_stands, defScope s_check_stands⟩
def fd_is_step : FnA := ⟨fun K => fAd K ("_is_step", none), "_is_step", "_is_step", defArgs s_is_step, defBody s_is_step, defScope s_is_step⟩
def fd_check_steps : FnA := ⟨fun K => fAd K ("check_steps_machines", none), "_check_steps", "_check_steps", defArgs s_check_steps, defBody s_check_steps, defScope s_check_steps⟩
def fd_is_ascending : FnA := ⟨fun K => fAd K ("is_ascending", none), "is_ascending", "is_ascending", defArgs s_is_ascending, defBody s_is_ascending, defScope s_is_ascending⟩
def fd_check_ends : FnA := ⟨fun K => fAd K ("_check_ends", none), "_check_ends", "_check_ends", defArgs s_check_ends, defBody s_check_ends, defScope s_check_ends⟩
def fd_check_machine : FnA := ⟨fun K => fAd K ("check_machine", none), "check_machine", "check_machine", defArgs s_check_machine, defBody s_check_machine, defScope s_check_machine⟩
def fd_reached : FnA := ⟨fun K => fAd K ("reached", none), "reached", "reached", defArgs s_reached, defBody s_reached, defScope s_reached⟩
def fd_check_steps_mends : FnA := ⟨fun K => fAd K ("check_steps_mends", none), "_check_steps", "_check_steps", defArgs s_check_steps_mends, defBody s_check_steps_mends, defScope s_check_steps_mends⟩
def fd_places_on_loops : FnA := ⟨fun K => fAd K ("_places_on_loops", none), "_places_on_loops", "_places_on_loops", defArgs s_places_on_loops, defBody s_places_on_loops, defScope s_places_on_loops⟩
def fd_spread : FnA := ⟨fun K => fAd K ("_spread", none), "_spread", "_spread", defArgs s_spread, defBody s_spread, defScope s_spread⟩
def fd_numbers : FnA := ⟨fun K => fAd K ("_numbers", none), "_numbers", "_numbers", defArgs s_numbers, defBody s_numbers, defScope s_numbers⟩
def fd_numbers_without : FnA := ⟨fun K => fAd K ("_numbers_without", none), "_numbers_without", "_numbers_without", defArgs s_numbers_without, defBody s_numbers_without, defScope s_numbers_without⟩
def fd_sets_that_mend : FnA := ⟨fun K => fAd K ("_sets_that_mend", none), "_sets_that_mend", "_sets_that_mend", defArgs s_sets_that_mend, defBody s_sets_that_mend, defScope s_sets_that_mend⟩
def fd_mends : FnA := ⟨fun K => fAd K ("mends", none), "mends", "mends", defArgs s_mends, defBody s_mends, defScope s_mends⟩
def fd_mended : FnA := ⟨fun K => fAd K ("mended", none), "mended", "mended", defArgs s_mended, defBody s_mended, defScope s_mended⟩
def fd_bounds : FnA := ⟨fun K => fAd K ("bounds", none), "bounds", "bounds", defArgs s_bounds, defBody s_bounds, defScope s_bounds⟩
def fd_law_taken : FnA := ⟨fun K => fAd K ("_law_taken", none), "_law_taken", "_law_taken", defArgs s_law_taken, defBody s_law_taken, defScope s_law_taken⟩
def fd_law_parts : FnA := ⟨fun K => fAd K ("_law_parts", none), "_law_parts", "_law_parts", defArgs s_law_parts, defBody s_law_parts, defScope s_law_parts⟩
def fd_law_machine : FnA := ⟨fun K => fAd K ("_law_machine", none), "_law_machine", "_law_machine", defArgs s_law_machine, defBody s_law_machine, defScope s_law_machine⟩
def fd_law_next : FnA := ⟨fun K => fAd K ("_law_next", none), "_law_next", "_law_next", defArgs s_law_next, defBody s_law_next, defScope s_law_next⟩
def fd_law_reached : FnA := ⟨fun K => fAd K ("_law_reached", none), "_law_reached", "_law_reached", defArgs s_law_reached, defBody s_law_reached, defScope s_law_reached⟩
def fd_law_inner : FnA := ⟨fun K => fAd K ("_law_inner", none), "_law_inner", "_law_inner", defArgs s_law_inner, defBody s_law_inner, defScope s_law_inner⟩
def fd_law_level : FnA := ⟨fun K => fAd K ("_law_level", none), "_law_level", "_law_level", defArgs s_law_level, defBody s_law_level, defScope s_law_level⟩
def fd_law_subsets : FnA := ⟨fun K => fAd K ("_law_subsets", none), "_law_subsets", "_law_subsets", defArgs s_law_subsets, defBody s_law_subsets, defScope s_law_subsets⟩
def fd_law_few : FnA := ⟨fun K => fAd K ("_law_few", none), "_law_few", "_law_few", defArgs s_law_few, defBody s_law_few, defScope s_law_few⟩
def fd_law : FnA := ⟨fun K => fAd K ("law", none), "law", "law", defArgs s_law, defBody s_law, defScope s_law⟩
def fn_0 : List FnA := [fd_led_to, fd_longer_rows, fd_improved, fd_best_rows, fd_best_of, fd_least_and_greatest, fd_Machine_init, fd_Machine_stands, fd_Machine_steps, fd_is_whole_number, fd_is_integer_between, fd_is_stand, fd_check_stands, fd_is_step, fd_check_steps, fd_is_ascending, fd_check_ends, fd_check_machine, fd_reached, fd_check_steps_mends, fd_places_on_loops, fd_spread, fd_numbers, fd_numbers_without, fd_sets_that_mend, fd_mends, fd_mended, fd_bounds, fd_law_taken, fd_law_parts]
def fn_1 : List FnA := [fd_law_machine, fd_law_next, fd_law_reached, fd_law_inner, fd_law_level, fd_law_subsets, fd_law_few, fd_law]
def fns : List FnA := fn_0 ++ fn_1
def ex_0 (K : PySem.W.Frag) : List Bool := [
    decide (PySem.W.nsIn K mainGlobals "led_to" = some (some (.ref (fAd K ("led_to", none))))),
    decide (PySem.W.nsIn K mainGlobals "longer_rows" = some (some (.ref (fAd K ("longer_rows", none))))),
    decide (PySem.W.nsIn K mainGlobals "_improved" = some (some (.ref (fAd K ("_improved", none))))),
    decide (PySem.W.nsIn K mainGlobals "best_rows" = some (some (.ref (fAd K ("best_rows", none))))),
    decide (PySem.W.nsIn K mainGlobals "_best_of" = some (some (.ref (fAd K ("_best_of", none))))),
    decide (PySem.W.nsIn K mainGlobals "least_and_greatest" = some (some (.ref (fAd K ("least_and_greatest", none))))),
    decide (PySem.W.nsIn K mainGlobals "is_whole_number" = some (some (.ref (fAd K ("is_whole_number", none))))),
    decide (PySem.W.nsIn K mainGlobals "is_integer_between" = some (some (.ref (fAd K ("is_integer_between", none))))),
    decide (PySem.W.nsIn K mainGlobals "_is_stand" = some (some (.ref (fAd K ("_is_stand", none))))),
    decide (PySem.W.nsIn K mainGlobals "_check_stands" = some (some (.ref (fAd K ("_check_stands", none))))),
    decide (PySem.W.nsIn K mainGlobals "_is_step" = some (some (.ref (fAd K ("_is_step", none))))),
    decide (PySem.W.nsIn K mainGlobals "check_steps_machines" = some (some (.ref (fAd K ("check_steps_machines", none))))),
    decide (PySem.W.nsIn K mainGlobals "is_ascending" = some (some (.ref (fAd K ("is_ascending", none))))),
    decide (PySem.W.nsIn K mainGlobals "_check_ends" = some (some (.ref (fAd K ("_check_ends", none))))),
    decide (PySem.W.nsIn K mainGlobals "check_machine" = some (some (.ref (fAd K ("check_machine", none))))),
    decide (PySem.W.nsIn K mainGlobals "reached" = some (some (.ref (fAd K ("reached", none))))),
    decide (PySem.W.nsIn K mainGlobals "check_steps_mends" = some (some (.ref (fAd K ("check_steps_mends", none))))),
    decide (PySem.W.nsIn K mainGlobals "_places_on_loops" = some (some (.ref (fAd K ("_places_on_loops", none))))),
    decide (PySem.W.nsIn K mainGlobals "_spread" = some (some (.ref (fAd K ("_spread", none))))),
    decide (PySem.W.nsIn K mainGlobals "_numbers" = some (some (.ref (fAd K ("_numbers", none))))),
    decide (PySem.W.nsIn K mainGlobals "_numbers_without" = some (some (.ref (fAd K ("_numbers_without", none))))),
    decide (PySem.W.nsIn K mainGlobals "_sets_that_mend" = some (some (.ref (fAd K ("_sets_that_mend", none))))),
    decide (PySem.W.nsIn K mainGlobals "mends" = some (some (.ref (fAd K ("mends", none))))),
    decide (PySem.W.nsIn K mainGlobals "mended" = some (some (.ref (fAd K ("mended", none))))),
    decide (PySem.W.nsIn K mainGlobals "bounds" = some (some (.ref (fAd K ("bounds", none)))))]
def ex_1 (K : PySem.W.Frag) : List Bool := [
    decide (PySem.W.nsIn K mainGlobals "_law_taken" = some (some (.ref (fAd K ("_law_taken", none))))),
    decide (PySem.W.nsIn K mainGlobals "_law_parts" = some (some (.ref (fAd K ("_law_parts", none))))),
    decide (PySem.W.nsIn K mainGlobals "_law_machine" = some (some (.ref (fAd K ("_law_machine", none))))),
    decide (PySem.W.nsIn K mainGlobals "_law_next" = some (some (.ref (fAd K ("_law_next", none))))),
    decide (PySem.W.nsIn K mainGlobals "_law_reached" = some (some (.ref (fAd K ("_law_reached", none))))),
    decide (PySem.W.nsIn K mainGlobals "_law_inner" = some (some (.ref (fAd K ("_law_inner", none))))),
    decide (PySem.W.nsIn K mainGlobals "_law_level" = some (some (.ref (fAd K ("_law_level", none))))),
    decide (PySem.W.nsIn K mainGlobals "_law_subsets" = some (some (.ref (fAd K ("_law_subsets", none))))),
    decide (PySem.W.nsIn K mainGlobals "_law_few" = some (some (.ref (fAd K ("_law_few", none))))),
    decide (PySem.W.nsIn K mainGlobals "law" = some (some (.ref (fAd K ("law", none))))),
    decide (PySem.W.nsIn K mainGlobals "Machine" = some (some (.ref (ga K "Machine")))),
    (Fa.int "MOST_STANDS" (8)).ok K,
    (Fa.int "MOST_GAIN" (1000000000000000000000000000000)).ok K,
    decide (PySem.W.nsIn K mainGlobals "LETTERS" = some (some (.ref (ga K "LETTERS")))),
    (Fa.str "ENDLESS" "endless").ok K,
    (Fa.int "MOST_STEPS" (12)).ok K,
    decide (PySem.W.nsIn K mainGlobals "combinations" = some (some (.type "itertools.combinations"))),
    decide (PySem.W.nsIn K mainGlobals "all" = some none),
    decide (PySem.W.nsIn K mainGlobals "bool" = some none),
    decide (PySem.W.nsIn K mainGlobals "enumerate" = some none),
    decide (PySem.W.nsIn K mainGlobals "int" = some none),
    decide (PySem.W.nsIn K mainGlobals "isinstance" = some none),
    decide (PySem.W.nsIn K mainGlobals "len" = some none),
    decide (PySem.W.nsIn K mainGlobals "list" = some none),
    decide (PySem.W.nsIn K mainGlobals "max" = some none)]
def ex_2 (K : PySem.W.Frag) : List Bool := [
    decide (PySem.W.nsIn K mainGlobals "range" = some none),
    decide (PySem.W.nsIn K mainGlobals "sorted" = some none),
    decide (PySem.W.nsIn K mainGlobals "str" = some none),
    decide (PySem.W.nsIn K mainGlobals "tuple" = some none),
    decide (PySem.W.keepIn K (.ref (fAd K ("led_to", none))) = true),
    decide (PySem.W.keepIn K (.ref (fAd K ("longer_rows", none))) = true),
    decide (PySem.W.keepIn K (.ref (fAd K ("_improved", none))) = true),
    decide (PySem.W.keepIn K (.ref (fAd K ("best_rows", none))) = true),
    decide (PySem.W.keepIn K (.ref (fAd K ("_best_of", none))) = true),
    decide (PySem.W.keepIn K (.ref (fAd K ("least_and_greatest", none))) = true),
    decide (PySem.W.keepIn K (.ref (fAd K ("Machine", some "__init__"))) = true),
    decide (PySem.W.keepIn K (.ref (pgA K "Machine" "stands")) = true),
    decide (PySem.W.keepIn K (.ref (pgA K "Machine" "steps")) = true),
    decide (PySem.W.keepIn K (.ref (fAd K ("is_whole_number", none))) = true),
    decide (PySem.W.keepIn K (.ref (fAd K ("is_integer_between", none))) = true),
    decide (PySem.W.keepIn K (.ref (fAd K ("_is_stand", none))) = true),
    decide (PySem.W.keepIn K (.ref (fAd K ("_check_stands", none))) = true),
    decide (PySem.W.keepIn K (.ref (fAd K ("_is_step", none))) = true),
    decide (PySem.W.keepIn K (.ref (fAd K ("check_steps_machines", none))) = true),
    decide (PySem.W.keepIn K (.ref (fAd K ("is_ascending", none))) = true),
    decide (PySem.W.keepIn K (.ref (fAd K ("_check_ends", none))) = true),
    decide (PySem.W.keepIn K (.ref (fAd K ("check_machine", none))) = true),
    decide (PySem.W.keepIn K (.ref (fAd K ("reached", none))) = true),
    decide (PySem.W.keepIn K (.ref (fAd K ("check_steps_mends", none))) = true),
    decide (PySem.W.keepIn K (.ref (fAd K ("_places_on_loops", none))) = true)]
def ex_3 (K : PySem.W.Frag) : List Bool := [
    decide (PySem.W.keepIn K (.ref (fAd K ("_spread", none))) = true),
    decide (PySem.W.keepIn K (.ref (fAd K ("_numbers", none))) = true),
    decide (PySem.W.keepIn K (.ref (fAd K ("_numbers_without", none))) = true),
    decide (PySem.W.keepIn K (.ref (fAd K ("_sets_that_mend", none))) = true),
    decide (PySem.W.keepIn K (.ref (fAd K ("mends", none))) = true),
    decide (PySem.W.keepIn K (.ref (fAd K ("mended", none))) = true),
    decide (PySem.W.keepIn K (.ref (fAd K ("bounds", none))) = true),
    decide (PySem.W.keepIn K (.ref (fAd K ("_law_taken", none))) = true),
    decide (PySem.W.keepIn K (.ref (fAd K ("_law_parts", none))) = true),
    decide (PySem.W.keepIn K (.ref (fAd K ("_law_machine", none))) = true),
    decide (PySem.W.keepIn K (.ref (fAd K ("_law_next", none))) = true),
    decide (PySem.W.keepIn K (.ref (fAd K ("_law_reached", none))) = true),
    decide (PySem.W.keepIn K (.ref (fAd K ("_law_inner", none))) = true),
    decide (PySem.W.keepIn K (.ref (fAd K ("_law_level", none))) = true),
    decide (PySem.W.keepIn K (.ref (fAd K ("_law_subsets", none))) = true),
    decide (PySem.W.keepIn K (.ref (fAd K ("_law_few", none))) = true),
    decide (PySem.W.keepIn K (.ref (fAd K ("law", none))) = true),
    decide (PySem.W.plainGet K (ga K "Machine") Str.empty = true),
    decide (PySem.W.hasDictIn K (ga K "Machine") = true),
    decide (PySem.W.plainOver K (ga K "Machine") = true),
    decide (PySem.W.findIn K (.ref (ga K "Machine")) "__setattr__" = some (some (.builtin "object.__setattr__"))),
    decide (PySem.W.makesIn K (ga K "Machine") = true),
    decide (PySem.W.keepIn K (.ref (ga K "Machine")) = true),
    decide (PySem.W.findIn K (.ref (ga K "Machine")) "__init__" = some (some (.ref (fAd K ("Machine", some "__init__"))))),
    decide (PySem.W.isFn K (.ref (fAd K ("Machine", some "__init__"))) = true)]
def ex_4 (K : PySem.W.Frag) : List Bool := [
    decide (PySem.W.findIn K (.ref (ga K "Machine")) "_stands" = some none),
    decide (PySem.W.findIn K (.ref (ga K "Machine")) "_steps" = some none),
    decide (PySem.W.findIn K (.ref (ga K "Machine")) "_ends" = some none),
    decide (PySem.W.findIn K (.ref (ga K "Machine")) "stands" = some (some (.ref (ma K (ga K "Machine") "stands")))),
    decide (PySem.W.specialIn K (.ref (ma K (ga K "Machine") "stands")) "__get__" = some (some (.builtin "property.__get__"))),
    decide (PySem.W.takesIn K (.ref (ma K (ga K "Machine") "stands")) = some true),
    pgB K "Machine" "stands",
    decide (PySem.W.findIn K (.ref (ga K "Machine")) "steps" = some (some (.ref (ma K (ga K "Machine") "steps")))),
    decide (PySem.W.specialIn K (.ref (ma K (ga K "Machine") "steps")) "__get__" = some (some (.builtin "property.__get__"))),
    decide (PySem.W.takesIn K (.ref (ma K (ga K "Machine") "steps")) = some true),
    pgB K "Machine" "steps",
    decide (PySem.W.findIn K (.ref (ga K "Machine")) "__class__" = some (some (.builtin "object.__class__"))),
    decide (PySem.W.specialIn K (.builtin "object.__class__") "__get__" = some (some (.builtin "getset_descriptor.__get__"))),
    decide (PySem.W.takesIn K (.builtin "object.__class__") = some true),
    decide (PySem.W.mroIn K (ga K "Machine") (.type "object") = some true),
    tupB K "LETTERS" [.str "a", .str "b", .str "c", .str "d"]]
def exs (K : PySem.W.Frag) : List Bool := [(ex_0 K).all fun b => b, (ex_1 K).all fun b => b, (ex_2 K).all fun b => b, (ex_3 K).all fun b => b, (ex_4 K).all fun b => b]
theorem txt_of {K : PySem.W.Frag} {h : Heap} {mg : Str → Option Value} (X : K.In h) (G : h.Ns mainGlobals mg) (he : (exs K).all (fun b => b) = true) (hf : ∀ (i : Nat) (d : FnA), fns[i]? = some d → FnSaid K d) : Nonempty (Txt K mg) := by
  have e0 := row_ok he 0 (b := (ex_0 K).all fun b => b) rfl
  have e1 := row_ok he 1 (b := (ex_1 K).all fun b => b) rfl
  have e2 := row_ok he 2 (b := (ex_2 K).all fun b => b) rfl
  have e3 := row_ok he 3 (b := (ex_3 K).all fun b => b) rfl
  have e4 := row_ok he 4 (b := (ex_4 K).all fun b => b) rfl
  obtain ⟨oc_led_to, od_led_to, sl_led_to, kV_led_to, dc_led_to, pm_led_to, an_led_to, cd_led_to, ct_led_to, l_led_to, c_led_to⟩ := hf 0 fd_led_to rfl
  obtain ⟨oc_longer_rows, od_longer_rows, sl_longer_rows, kV_longer_rows, dc_longer_rows, pm_longer_rows, an_longer_rows, cd_longer_rows, ct_longer_rows, l_longer_rows, c_longer_rows⟩ := hf 1 fd_longer_rows rfl
  obtain ⟨oc_improved, od_improved, sl_improved, kV_improved, dc_improved, pm_improved, an_improved, cd_improved, ct_improved, l_improved, c_improved⟩ := hf 2 fd_improved rfl
  obtain ⟨oc_best_rows, od_best_rows, sl_best_rows, kV_best_rows, dc_best_rows, pm_best_rows, an_best_rows, cd_best_rows, ct_best_rows, l_best_rows, c_best_rows⟩ := hf 3 fd_best_rows rfl
  obtain ⟨oc_best_of, od_best_of, sl_best_of, kV_best_of, dc_best_of, pm_best_of, an_best_of, cd_best_of, ct_best_of, l_best_of, c_best_of⟩ := hf 4 fd_best_of rfl
  obtain ⟨oc_least_and_greatest, od_least_and_greatest, sl_least_and_greatest, kV_least_and_greatest, dc_least_and_greatest, pm_least_and_greatest, an_least_and_greatest, cd_least_and_greatest, ct_least_and_greatest, l_least_and_greatest, c_least_and_greatest⟩ := hf 5 fd_least_and_greatest rfl
  obtain ⟨oc_Machine_init, od_Machine_init, sl_Machine_init, kV_Machine_init, dc_Machine_init, pm_Machine_init, an_Machine_init, cd_Machine_init, ct_Machine_init, l_Machine_init, c_Machine_init⟩ := hf 6 fd_Machine_init rfl
  obtain ⟨oc_Machine_stands, od_Machine_stands, sl_Machine_stands, kV_Machine_stands, dc_Machine_stands, pm_Machine_stands, an_Machine_stands, cd_Machine_stands, ct_Machine_stands, l_Machine_stands, c_Machine_stands⟩ := hf 7 fd_Machine_stands rfl
  obtain ⟨oc_Machine_steps, od_Machine_steps, sl_Machine_steps, kV_Machine_steps, dc_Machine_steps, pm_Machine_steps, an_Machine_steps, cd_Machine_steps, ct_Machine_steps, l_Machine_steps, c_Machine_steps⟩ := hf 8 fd_Machine_steps rfl
  obtain ⟨oc_is_whole_number, od_is_whole_number, sl_is_whole_number, kV_is_whole_number, dc_is_whole_number, pm_is_whole_number, an_is_whole_number, cd_is_whole_number, ct_is_whole_number, l_is_whole_number, c_is_whole_number⟩ := hf 9 fd_is_whole_number rfl
  obtain ⟨oc_is_integer_between, od_is_integer_between, sl_is_integer_between, kV_is_integer_between, dc_is_integer_between, pm_is_integer_between, an_is_integer_between, cd_is_integer_between, ct_is_integer_between, l_is_integer_between, c_is_integer_between⟩ := hf 10 fd_is_integer_between rfl
  obtain ⟨oc_is_stand, od_is_stand, sl_is_stand, kV_is_stand, dc_is_stand, pm_is_stand, an_is_stand, cd_is_stand, ct_is_stand, l_is_stand, c_is_stand⟩ := hf 11 fd_is_stand rfl
  obtain ⟨oc_check_stands, od_check_stands, sl_check_stands, kV_check_stands, dc_check_stands, pm_check_stands, an_check_stands, cd_check_stands, ct_check_stands, l_check_stands, c_check_stands⟩ := hf 12 fd_check_stands rfl
  obtain ⟨oc_is_step, od_is_step, sl_is_step, kV_is_step, dc_is_step, pm_is_step, an_is_step, cd_is_step, ct_is_step, l_is_step, c_is_step⟩ := hf 13 fd_is_step rfl
  obtain ⟨oc_check_steps, od_check_steps, sl_check_steps, kV_check_steps, dc_check_steps, pm_check_steps, an_check_steps, cd_check_steps, ct_check_steps, l_check_steps, c_check_steps⟩ := hf 14 fd_check_steps rfl
  obtain ⟨oc_is_ascending, od_is_ascending, sl_is_ascending, kV_is_ascending, dc_is_ascending, pm_is_ascending, an_is_ascending, cd_is_ascending, ct_is_ascending, l_is_ascending, c_is_ascending⟩ := hf 15 fd_is_ascending rfl
  obtain ⟨oc_check_ends, od_check_ends, sl_check_ends, kV_check_ends, dc_check_ends, pm_check_ends, an_check_ends, cd_check_ends, ct_check_ends, l_check_ends, c_check_ends⟩ := hf 16 fd_check_ends rfl
  obtain ⟨oc_check_machine, od_check_machine, sl_check_machine, kV_check_machine, dc_check_machine, pm_check_machine, an_check_machine, cd_check_machine, ct_check_machine, l_check_machine, c_check_machine⟩ := hf 17 fd_check_machine rfl
  obtain ⟨oc_reached, od_reached, sl_reached, kV_reached, dc_reached, pm_reached, an_reached, cd_reached, ct_reached, l_reached, c_reached⟩ := hf 18 fd_reached rfl
  obtain ⟨oc_check_steps_mends, od_check_steps_mends, sl_check_steps_mends, kV_check_steps_mends, dc_check_steps_mends, pm_check_steps_mends, an_check_steps_mends, cd_check_steps_mends, ct_check_steps_mends, l_check_steps_mends, c_check_steps_mends⟩ := hf 19 fd_check_steps_mends rfl
  obtain ⟨oc_places_on_loops, od_places_on_loops, sl_places_on_loops, kV_places_on_loops, dc_places_on_loops, pm_places_on_loops, an_places_on_loops, cd_places_on_loops, ct_places_on_loops, l_places_on_loops, c_places_on_loops⟩ := hf 20 fd_places_on_loops rfl
  obtain ⟨oc_spread, od_spread, sl_spread, kV_spread, dc_spread, pm_spread, an_spread, cd_spread, ct_spread, l_spread, c_spread⟩ := hf 21 fd_spread rfl
  obtain ⟨oc_numbers, od_numbers, sl_numbers, kV_numbers, dc_numbers, pm_numbers, an_numbers, cd_numbers, ct_numbers, l_numbers, c_numbers⟩ := hf 22 fd_numbers rfl
  obtain ⟨oc_numbers_without, od_numbers_without, sl_numbers_without, kV_numbers_without, dc_numbers_without, pm_numbers_without, an_numbers_without, cd_numbers_without, ct_numbers_without, l_numbers_without, c_numbers_without⟩ := hf 23 fd_numbers_without rfl
  obtain ⟨oc_sets_that_mend, od_sets_that_mend, sl_sets_that_mend, kV_sets_that_mend, dc_sets_that_mend, pm_sets_that_mend, an_sets_that_mend, cd_sets_that_mend, ct_sets_that_mend, l_sets_that_mend, c_sets_that_mend⟩ := hf 24 fd_sets_that_mend rfl
  obtain ⟨oc_mends, od_mends, sl_mends, kV_mends, dc_mends, pm_mends, an_mends, cd_mends, ct_mends, l_mends, c_mends⟩ := hf 25 fd_mends rfl
  obtain ⟨oc_mended, od_mended, sl_mended, kV_mended, dc_mended, pm_mended, an_mended, cd_mended, ct_mended, l_mended, c_mended⟩ := hf 26 fd_mended rfl
  obtain ⟨oc_bounds, od_bounds, sl_bounds, kV_bounds, dc_bounds, pm_bounds, an_bounds, cd_bounds, ct_bounds, l_bounds, c_bounds⟩ := hf 27 fd_bounds rfl
  obtain ⟨oc_law_taken, od_law_taken, sl_law_taken, kV_law_taken, dc_law_taken, pm_law_taken, an_law_taken, cd_law_taken, ct_law_taken, l_law_taken, c_law_taken⟩ := hf 28 fd_law_taken rfl
  obtain ⟨oc_law_parts, od_law_parts, sl_law_parts, kV_law_parts, dc_law_parts, pm_law_parts, an_law_parts, cd_law_parts, ct_law_parts, l_law_parts, c_law_parts⟩ := hf 29 fd_law_parts rfl
  obtain ⟨oc_law_machine, od_law_machine, sl_law_machine, kV_law_machine, dc_law_machine, pm_law_machine, an_law_machine, cd_law_machine, ct_law_machine, l_law_machine, c_law_machine⟩ := hf 30 fd_law_machine rfl
  obtain ⟨oc_law_next, od_law_next, sl_law_next, kV_law_next, dc_law_next, pm_law_next, an_law_next, cd_law_next, ct_law_next, l_law_next, c_law_next⟩ := hf 31 fd_law_next rfl
  obtain ⟨oc_law_reached, od_law_reached, sl_law_reached, kV_law_reached, dc_law_reached, pm_law_reached, an_law_reached, cd_law_reached, ct_law_reached, l_law_reached, c_law_reached⟩ := hf 32 fd_law_reached rfl
  obtain ⟨oc_law_inner, od_law_inner, sl_law_inner, kV_law_inner, dc_law_inner, pm_law_inner, an_law_inner, cd_law_inner, ct_law_inner, l_law_inner, c_law_inner⟩ := hf 33 fd_law_inner rfl
  obtain ⟨oc_law_level, od_law_level, sl_law_level, kV_law_level, dc_law_level, pm_law_level, an_law_level, cd_law_level, ct_law_level, l_law_level, c_law_level⟩ := hf 34 fd_law_level rfl
  obtain ⟨oc_law_subsets, od_law_subsets, sl_law_subsets, kV_law_subsets, dc_law_subsets, pm_law_subsets, an_law_subsets, cd_law_subsets, ct_law_subsets, l_law_subsets, c_law_subsets⟩ := hf 35 fd_law_subsets rfl
  obtain ⟨oc_law_few, od_law_few, sl_law_few, kV_law_few, dc_law_few, pm_law_few, an_law_few, cd_law_few, ct_law_few, l_law_few, c_law_few⟩ := hf 36 fd_law_few rfl
  obtain ⟨oc_law, od_law, sl_law, kV_law, dc_law, pm_law, an_law, cd_law, ct_law, l_law, c_law⟩ := hf 37 fd_law rfl
  obtain ⟨t_MOST_STANDS, g_MOST_STANDS⟩ := int_k (row_ok e1 11 (b := (Fa.int "MOST_STANDS" (8)).ok K) rfl)
  obtain ⟨t_MOST_GAIN, g_MOST_GAIN⟩ := int_k (row_ok e1 12 (b := (Fa.int "MOST_GAIN" (1000000000000000000000000000000)).ok K) rfl)
  obtain ⟨t_ENDLESS, g_ENDLESS⟩ := str_k (row_ok e1 14 (b := (Fa.str "ENDLESS" "endless").ok K) rfl)
  obtain ⟨t_MOST_STEPS, g_MOST_STEPS⟩ := int_k (row_ok e1 15 (b := (Fa.int "MOST_STEPS" (12)).ok K) rfl)
  obtain ⟨rest_stands, pr_stands⟩ := pgB_ok (row_ok e4 6 (b := pgB K "Machine" "stands") rfl)
  obtain ⟨rest_steps, pr_steps⟩ := pgB_ok (row_ok e4 10 (b := pgB K "Machine" "steps") rfl)
  exact ⟨txt_mk X G
    (of_decide_eq_true (row_ok e0 0 (b := decide (PySem.W.nsIn K mainGlobals "led_to" = some (some (.ref (fAd K ("led_to", none)))))) rfl))
    (of_decide_eq_true (row_ok e0 1 (b := decide (PySem.W.nsIn K mainGlobals "longer_rows" = some (some (.ref (fAd K ("longer_rows", none)))))) rfl))
    (of_decide_eq_true (row_ok e0 2 (b := decide (PySem.W.nsIn K mainGlobals "_improved" = some (some (.ref (fAd K ("_improved", none)))))) rfl))
    (of_decide_eq_true (row_ok e0 3 (b := decide (PySem.W.nsIn K mainGlobals "best_rows" = some (some (.ref (fAd K ("best_rows", none)))))) rfl))
    (of_decide_eq_true (row_ok e0 4 (b := decide (PySem.W.nsIn K mainGlobals "_best_of" = some (some (.ref (fAd K ("_best_of", none)))))) rfl))
    (of_decide_eq_true (row_ok e0 5 (b := decide (PySem.W.nsIn K mainGlobals "least_and_greatest" = some (some (.ref (fAd K ("least_and_greatest", none)))))) rfl))
    (of_decide_eq_true (row_ok e0 6 (b := decide (PySem.W.nsIn K mainGlobals "is_whole_number" = some (some (.ref (fAd K ("is_whole_number", none)))))) rfl))
    (of_decide_eq_true (row_ok e0 7 (b := decide (PySem.W.nsIn K mainGlobals "is_integer_between" = some (some (.ref (fAd K ("is_integer_between", none)))))) rfl))
    (of_decide_eq_true (row_ok e0 8 (b := decide (PySem.W.nsIn K mainGlobals "_is_stand" = some (some (.ref (fAd K ("_is_stand", none)))))) rfl))
    (of_decide_eq_true (row_ok e0 9 (b := decide (PySem.W.nsIn K mainGlobals "_check_stands" = some (some (.ref (fAd K ("_check_stands", none)))))) rfl))
    (of_decide_eq_true (row_ok e0 10 (b := decide (PySem.W.nsIn K mainGlobals "_is_step" = some (some (.ref (fAd K ("_is_step", none)))))) rfl))
    (of_decide_eq_true (row_ok e0 11 (b := decide (PySem.W.nsIn K mainGlobals "check_steps_machines" = some (some (.ref (fAd K ("check_steps_machines", none)))))) rfl))
    (of_decide_eq_true (row_ok e0 12 (b := decide (PySem.W.nsIn K mainGlobals "is_ascending" = some (some (.ref (fAd K ("is_ascending", none)))))) rfl))
    (of_decide_eq_true (row_ok e0 13 (b := decide (PySem.W.nsIn K mainGlobals "_check_ends" = some (some (.ref (fAd K ("_check_ends", none)))))) rfl))
    (of_decide_eq_true (row_ok e0 14 (b := decide (PySem.W.nsIn K mainGlobals "check_machine" = some (some (.ref (fAd K ("check_machine", none)))))) rfl))
    (of_decide_eq_true (row_ok e0 15 (b := decide (PySem.W.nsIn K mainGlobals "reached" = some (some (.ref (fAd K ("reached", none)))))) rfl))
    (of_decide_eq_true (row_ok e0 16 (b := decide (PySem.W.nsIn K mainGlobals "check_steps_mends" = some (some (.ref (fAd K ("check_steps_mends", none)))))) rfl))
    (of_decide_eq_true (row_ok e0 17 (b := decide (PySem.W.nsIn K mainGlobals "_places_on_loops" = some (some (.ref (fAd K ("_places_on_loops", none)))))) rfl))
    (of_decide_eq_true (row_ok e0 18 (b := decide (PySem.W.nsIn K mainGlobals "_spread" = some (some (.ref (fAd K ("_spread", none)))))) rfl))
    (of_decide_eq_true (row_ok e0 19 (b := decide (PySem.W.nsIn K mainGlobals "_numbers" = some (some (.ref (fAd K ("_numbers", none)))))) rfl))
    (of_decide_eq_true (row_ok e0 20 (b := decide (PySem.W.nsIn K mainGlobals "_numbers_without" = some (some (.ref (fAd K ("_numbers_without", none)))))) rfl))
    (of_decide_eq_true (row_ok e0 21 (b := decide (PySem.W.nsIn K mainGlobals "_sets_that_mend" = some (some (.ref (fAd K ("_sets_that_mend", none)))))) rfl))
    (of_decide_eq_true (row_ok e0 22 (b := decide (PySem.W.nsIn K mainGlobals "mends" = some (some (.ref (fAd K ("mends", none)))))) rfl))
    (of_decide_eq_true (row_ok e0 23 (b := decide (PySem.W.nsIn K mainGlobals "mended" = some (some (.ref (fAd K ("mended", none)))))) rfl))
    (of_decide_eq_true (row_ok e0 24 (b := decide (PySem.W.nsIn K mainGlobals "bounds" = some (some (.ref (fAd K ("bounds", none)))))) rfl))
    (of_decide_eq_true (row_ok e1 0 (b := decide (PySem.W.nsIn K mainGlobals "_law_taken" = some (some (.ref (fAd K ("_law_taken", none)))))) rfl))
    (of_decide_eq_true (row_ok e1 1 (b := decide (PySem.W.nsIn K mainGlobals "_law_parts" = some (some (.ref (fAd K ("_law_parts", none)))))) rfl))
    (of_decide_eq_true (row_ok e1 2 (b := decide (PySem.W.nsIn K mainGlobals "_law_machine" = some (some (.ref (fAd K ("_law_machine", none)))))) rfl))
    (of_decide_eq_true (row_ok e1 3 (b := decide (PySem.W.nsIn K mainGlobals "_law_next" = some (some (.ref (fAd K ("_law_next", none)))))) rfl))
    (of_decide_eq_true (row_ok e1 4 (b := decide (PySem.W.nsIn K mainGlobals "_law_reached" = some (some (.ref (fAd K ("_law_reached", none)))))) rfl))
    (of_decide_eq_true (row_ok e1 5 (b := decide (PySem.W.nsIn K mainGlobals "_law_inner" = some (some (.ref (fAd K ("_law_inner", none)))))) rfl))
    (of_decide_eq_true (row_ok e1 6 (b := decide (PySem.W.nsIn K mainGlobals "_law_level" = some (some (.ref (fAd K ("_law_level", none)))))) rfl))
    (of_decide_eq_true (row_ok e1 7 (b := decide (PySem.W.nsIn K mainGlobals "_law_subsets" = some (some (.ref (fAd K ("_law_subsets", none)))))) rfl))
    (of_decide_eq_true (row_ok e1 8 (b := decide (PySem.W.nsIn K mainGlobals "_law_few" = some (some (.ref (fAd K ("_law_few", none)))))) rfl))
    (of_decide_eq_true (row_ok e1 9 (b := decide (PySem.W.nsIn K mainGlobals "law" = some (some (.ref (fAd K ("law", none)))))) rfl))
    (of_decide_eq_true (row_ok e1 10 (b := decide (PySem.W.nsIn K mainGlobals "Machine" = some (some (.ref (ga K "Machine"))))) rfl))
    g_MOST_STANDS
    g_MOST_GAIN
    (of_decide_eq_true (row_ok e1 13 (b := decide (PySem.W.nsIn K mainGlobals "LETTERS" = some (some (.ref (ga K "LETTERS"))))) rfl))
    g_ENDLESS
    g_MOST_STEPS
    (of_decide_eq_true (row_ok e1 16 (b := decide (PySem.W.nsIn K mainGlobals "combinations" = some (some (.type "itertools.combinations")))) rfl))
    (of_decide_eq_true (row_ok e1 17 (b := decide (PySem.W.nsIn K mainGlobals "all" = some none)) rfl))
    (of_decide_eq_true (row_ok e1 18 (b := decide (PySem.W.nsIn K mainGlobals "bool" = some none)) rfl))
    (of_decide_eq_true (row_ok e1 19 (b := decide (PySem.W.nsIn K mainGlobals "enumerate" = some none)) rfl))
    (of_decide_eq_true (row_ok e1 20 (b := decide (PySem.W.nsIn K mainGlobals "int" = some none)) rfl))
    (of_decide_eq_true (row_ok e1 21 (b := decide (PySem.W.nsIn K mainGlobals "isinstance" = some none)) rfl))
    (of_decide_eq_true (row_ok e1 22 (b := decide (PySem.W.nsIn K mainGlobals "len" = some none)) rfl))
    (of_decide_eq_true (row_ok e1 23 (b := decide (PySem.W.nsIn K mainGlobals "list" = some none)) rfl))
    (of_decide_eq_true (row_ok e1 24 (b := decide (PySem.W.nsIn K mainGlobals "max" = some none)) rfl))
    (of_decide_eq_true (row_ok e2 0 (b := decide (PySem.W.nsIn K mainGlobals "range" = some none)) rfl))
    (of_decide_eq_true (row_ok e2 1 (b := decide (PySem.W.nsIn K mainGlobals "sorted" = some none)) rfl))
    (of_decide_eq_true (row_ok e2 2 (b := decide (PySem.W.nsIn K mainGlobals "str" = some none)) rfl))
    (of_decide_eq_true (row_ok e2 3 (b := decide (PySem.W.nsIn K mainGlobals "tuple" = some none)) rfl))
    l_led_to
    c_led_to
    (of_decide_eq_true (row_ok e2 4 (b := decide (PySem.W.keepIn K (.ref (fAd K ("led_to", none))) = true)) rfl))
    l_longer_rows
    c_longer_rows
    (of_decide_eq_true (row_ok e2 5 (b := decide (PySem.W.keepIn K (.ref (fAd K ("longer_rows", none))) = true)) rfl))
    l_improved
    c_improved
    (of_decide_eq_true (row_ok e2 6 (b := decide (PySem.W.keepIn K (.ref (fAd K ("_improved", none))) = true)) rfl))
    l_best_rows
    c_best_rows
    (of_decide_eq_true (row_ok e2 7 (b := decide (PySem.W.keepIn K (.ref (fAd K ("best_rows", none))) = true)) rfl))
    l_best_of
    c_best_of
    (of_decide_eq_true (row_ok e2 8 (b := decide (PySem.W.keepIn K (.ref (fAd K ("_best_of", none))) = true)) rfl))
    l_least_and_greatest
    c_least_and_greatest
    (of_decide_eq_true (row_ok e2 9 (b := decide (PySem.W.keepIn K (.ref (fAd K ("least_and_greatest", none))) = true)) rfl))
    l_Machine_init
    c_Machine_init
    (of_decide_eq_true (row_ok e2 10 (b := decide (PySem.W.keepIn K (.ref (fAd K ("Machine", some "__init__"))) = true)) rfl))
    l_Machine_stands
    c_Machine_stands
    (of_decide_eq_true (row_ok e2 11 (b := decide (PySem.W.keepIn K (.ref (pgA K "Machine" "stands")) = true)) rfl))
    l_Machine_steps
    c_Machine_steps
    (of_decide_eq_true (row_ok e2 12 (b := decide (PySem.W.keepIn K (.ref (pgA K "Machine" "steps")) = true)) rfl))
    l_is_whole_number
    c_is_whole_number
    (of_decide_eq_true (row_ok e2 13 (b := decide (PySem.W.keepIn K (.ref (fAd K ("is_whole_number", none))) = true)) rfl))
    l_is_integer_between
    c_is_integer_between
    (of_decide_eq_true (row_ok e2 14 (b := decide (PySem.W.keepIn K (.ref (fAd K ("is_integer_between", none))) = true)) rfl))
    l_is_stand
    c_is_stand
    (of_decide_eq_true (row_ok e2 15 (b := decide (PySem.W.keepIn K (.ref (fAd K ("_is_stand", none))) = true)) rfl))
    l_check_stands
    c_check_stands
    (of_decide_eq_true (row_ok e2 16 (b := decide (PySem.W.keepIn K (.ref (fAd K ("_check_stands", none))) = true)) rfl))
    l_is_step
    c_is_step
    (of_decide_eq_true (row_ok e2 17 (b := decide (PySem.W.keepIn K (.ref (fAd K ("_is_step", none))) = true)) rfl))
    l_check_steps
    c_check_steps
    (of_decide_eq_true (row_ok e2 18 (b := decide (PySem.W.keepIn K (.ref (fAd K ("check_steps_machines", none))) = true)) rfl))
    l_is_ascending
    c_is_ascending
    (of_decide_eq_true (row_ok e2 19 (b := decide (PySem.W.keepIn K (.ref (fAd K ("is_ascending", none))) = true)) rfl))
    l_check_ends
    c_check_ends
    (of_decide_eq_true (row_ok e2 20 (b := decide (PySem.W.keepIn K (.ref (fAd K ("_check_ends", none))) = true)) rfl))
    l_check_machine
    c_check_machine
    (of_decide_eq_true (row_ok e2 21 (b := decide (PySem.W.keepIn K (.ref (fAd K ("check_machine", none))) = true)) rfl))
    l_reached
    c_reached
    (of_decide_eq_true (row_ok e2 22 (b := decide (PySem.W.keepIn K (.ref (fAd K ("reached", none))) = true)) rfl))
    l_check_steps_mends
    c_check_steps_mends
    (of_decide_eq_true (row_ok e2 23 (b := decide (PySem.W.keepIn K (.ref (fAd K ("check_steps_mends", none))) = true)) rfl))
    l_places_on_loops
    c_places_on_loops
    (of_decide_eq_true (row_ok e2 24 (b := decide (PySem.W.keepIn K (.ref (fAd K ("_places_on_loops", none))) = true)) rfl))
    l_spread
    c_spread
    (of_decide_eq_true (row_ok e3 0 (b := decide (PySem.W.keepIn K (.ref (fAd K ("_spread", none))) = true)) rfl))
    l_numbers
    c_numbers
    (of_decide_eq_true (row_ok e3 1 (b := decide (PySem.W.keepIn K (.ref (fAd K ("_numbers", none))) = true)) rfl))
    l_numbers_without
    c_numbers_without
    (of_decide_eq_true (row_ok e3 2 (b := decide (PySem.W.keepIn K (.ref (fAd K ("_numbers_without", none))) = true)) rfl))
    l_sets_that_mend
    c_sets_that_mend
    (of_decide_eq_true (row_ok e3 3 (b := decide (PySem.W.keepIn K (.ref (fAd K ("_sets_that_mend", none))) = true)) rfl))
    l_mends
    c_mends
    (of_decide_eq_true (row_ok e3 4 (b := decide (PySem.W.keepIn K (.ref (fAd K ("mends", none))) = true)) rfl))
    l_mended
    c_mended
    (of_decide_eq_true (row_ok e3 5 (b := decide (PySem.W.keepIn K (.ref (fAd K ("mended", none))) = true)) rfl))
    l_bounds
    c_bounds
    (of_decide_eq_true (row_ok e3 6 (b := decide (PySem.W.keepIn K (.ref (fAd K ("bounds", none))) = true)) rfl))
    l_law_taken
    c_law_taken
    (of_decide_eq_true (row_ok e3 7 (b := decide (PySem.W.keepIn K (.ref (fAd K ("_law_taken", none))) = true)) rfl))
    l_law_parts
    c_law_parts
    (of_decide_eq_true (row_ok e3 8 (b := decide (PySem.W.keepIn K (.ref (fAd K ("_law_parts", none))) = true)) rfl))
    l_law_machine
    c_law_machine
    (of_decide_eq_true (row_ok e3 9 (b := decide (PySem.W.keepIn K (.ref (fAd K ("_law_machine", none))) = true)) rfl))
    l_law_next
    c_law_next
    (of_decide_eq_true (row_ok e3 10 (b := decide (PySem.W.keepIn K (.ref (fAd K ("_law_next", none))) = true)) rfl))
    l_law_reached
    c_law_reached
    (of_decide_eq_true (row_ok e3 11 (b := decide (PySem.W.keepIn K (.ref (fAd K ("_law_reached", none))) = true)) rfl))
    l_law_inner
    c_law_inner
    (of_decide_eq_true (row_ok e3 12 (b := decide (PySem.W.keepIn K (.ref (fAd K ("_law_inner", none))) = true)) rfl))
    l_law_level
    c_law_level
    (of_decide_eq_true (row_ok e3 13 (b := decide (PySem.W.keepIn K (.ref (fAd K ("_law_level", none))) = true)) rfl))
    l_law_subsets
    c_law_subsets
    (of_decide_eq_true (row_ok e3 14 (b := decide (PySem.W.keepIn K (.ref (fAd K ("_law_subsets", none))) = true)) rfl))
    l_law_few
    c_law_few
    (of_decide_eq_true (row_ok e3 15 (b := decide (PySem.W.keepIn K (.ref (fAd K ("_law_few", none))) = true)) rfl))
    l_law
    c_law
    (of_decide_eq_true (row_ok e3 16 (b := decide (PySem.W.keepIn K (.ref (fAd K ("law", none))) = true)) rfl))
    (of_decide_eq_true (row_ok e3 17 (b := decide (PySem.W.plainGet K (ga K "Machine") Str.empty = true)) rfl))
    (of_decide_eq_true (row_ok e3 18 (b := decide (PySem.W.hasDictIn K (ga K "Machine") = true)) rfl))
    (of_decide_eq_true (row_ok e3 19 (b := decide (PySem.W.plainOver K (ga K "Machine") = true)) rfl))
    (of_decide_eq_true (row_ok e3 20 (b := decide (PySem.W.findIn K (.ref (ga K "Machine")) "__setattr__" = some (some (.builtin "object.__setattr__")))) rfl))
    (of_decide_eq_true (row_ok e3 21 (b := decide (PySem.W.makesIn K (ga K "Machine") = true)) rfl))
    (of_decide_eq_true (row_ok e3 22 (b := decide (PySem.W.keepIn K (.ref (ga K "Machine")) = true)) rfl))
    (of_decide_eq_true (row_ok e3 23 (b := decide (PySem.W.findIn K (.ref (ga K "Machine")) "__init__" = some (some (.ref (fAd K ("Machine", some "__init__")))))) rfl))
    (of_decide_eq_true (row_ok e3 24 (b := decide (PySem.W.isFn K (.ref (fAd K ("Machine", some "__init__"))) = true)) rfl))
    (of_decide_eq_true (row_ok e4 0 (b := decide (PySem.W.findIn K (.ref (ga K "Machine")) "_stands" = some none)) rfl))
    (of_decide_eq_true (row_ok e4 1 (b := decide (PySem.W.findIn K (.ref (ga K "Machine")) "_steps" = some none)) rfl))
    (of_decide_eq_true (row_ok e4 2 (b := decide (PySem.W.findIn K (.ref (ga K "Machine")) "_ends" = some none)) rfl))
    (of_decide_eq_true (row_ok e4 3 (b := decide (PySem.W.findIn K (.ref (ga K "Machine")) "stands" = some (some (.ref (ma K (ga K "Machine") "stands"))))) rfl))
    (of_decide_eq_true (row_ok e4 4 (b := decide (PySem.W.specialIn K (.ref (ma K (ga K "Machine") "stands")) "__get__" = some (some (.builtin "property.__get__")))) rfl))
    (of_decide_eq_true (row_ok e4 5 (b := decide (PySem.W.takesIn K (.ref (ma K (ga K "Machine") "stands")) = some true)) rfl))
    pr_stands
    (of_decide_eq_true (row_ok e4 7 (b := decide (PySem.W.findIn K (.ref (ga K "Machine")) "steps" = some (some (.ref (ma K (ga K "Machine") "steps"))))) rfl))
    (of_decide_eq_true (row_ok e4 8 (b := decide (PySem.W.specialIn K (.ref (ma K (ga K "Machine") "steps")) "__get__" = some (some (.builtin "property.__get__")))) rfl))
    (of_decide_eq_true (row_ok e4 9 (b := decide (PySem.W.takesIn K (.ref (ma K (ga K "Machine") "steps")) = some true)) rfl))
    pr_steps
    (of_decide_eq_true (row_ok e4 11 (b := decide (PySem.W.findIn K (.ref (ga K "Machine")) "__class__" = some (some (.builtin "object.__class__")))) rfl))
    (of_decide_eq_true (row_ok e4 12 (b := decide (PySem.W.specialIn K (.builtin "object.__class__") "__get__" = some (some (.builtin "getset_descriptor.__get__")))) rfl))
    (of_decide_eq_true (row_ok e4 13 (b := decide (PySem.W.takesIn K (.builtin "object.__class__") = some true)) rfl))
    (of_decide_eq_true (row_ok e4 14 (b := decide (PySem.W.mroIn K (ga K "Machine") (.type "object") = some true)) rfl))
    (fun H => tupB_ok (row_ok e4 15 (b := tupB K "LETTERS" [.str "a", .str "b", .str "c", .str "d"]) rfl) H)⟩
end
/-! ### the run of the top -/
open PySem.W PySem.Calls PyProof.Rows in
abbrev R : PySem.W.OpenRow := PySem.W.OpenLaw.row PySem.Challenge.rw_staytallies_k25_whole_mends
abbrev qv : Program := PySem.W.view R.prog [0, 56]
def lo_0 : List Str := ["TallyError", "BadStands", "BadSteps", "BadEnds", "BadMachine", "BadSet", "TooMany", "ENDLESS", "led_to", "longer_rows", "_improved", "best_rows", "_best_of", "least_and_greatest", "MOST_STANDS", "MOST_GAIN", "LETTERS", "Machine", "is_whole_number", "is_integer_between", "_is_stand", "_check_stands", "_is_step", "_check_steps", "check_steps_machines", "is_ascending", "_check_ends", "check_machine", "reached", "MOST_STEPS"]
def lo_1 : List Str := ["check_steps_mends", "_places_on_loops", "_spread", "_numbers", "_numbers_without", "_sets_that_mend", "mends", "mended", "bounds", "_law_taken", "_law_parts", "_law_machine", "_law_next", "_law_reached", "_law_inner", "_law_level", "_law_subsets", "_law_few"]
def los : List Str := lo_0 ++ lo_1
abbrev hk : PySem.W.Hook := hookF nms 4 fns exs
def ob (s : PySem.W.SharedT) : AlF := obsF nms 4 fns exs (HandSHeadRun.getT s)
theorem ob_eq (s : PySem.W.SharedT) : ob s = hk.obs s.abs := by
  have e : HandSHeadRun.getT s = s.abs.heap.get? := funext (HandSHeadRun.getT_eq s)
  show obsF nms 4 fns exs (HandSHeadRun.getT s) = obsF nms 4 fns exs s.abs.heap.get?
  rw [e]
set_option maxHeartbeats 0 in
theorem run_at1 (w : World) : (HandSHeadRun.wholeF (fun p => HandSHeadRun.stepQ (HandSHeadRun.denQ HandSHeadRun.tabQ) p w) HandSHeadRun.fenceQ 20000 R.prog).map (fun x => HandSHeadRun.looksF R.prog x.1.heap x.2.abs) = some true := by
  kernel_rfl
set_option maxHeartbeats 0 in
theorem run_at2 (w : World) : (HandSHeadRun.wholeF (fun p => HandSHeadRun.stepQ (HandSHeadRun.denQ HandSHeadRun.tabQ) p w) HandSHeadRun.fenceQ 20000 R.prog).map (fun x => HandSHeadRun.seenQ qv los (PySem.importedModules R.prog.main.body) (fun s => PySem.W.xlAt qv [] s && PySem.W.recOk R.toRowW.records s) x.2.abs) = some (PySem.W.openGood qv los) := by
  kernel_rfl
set_option maxHeartbeats 0 in
theorem run_at3 (w : World) : (HandSHeadRun.wholeF (fun p => HandSHeadRun.stepQ (HandSHeadRun.denQ HandSHeadRun.tabQ) p w) HandSHeadRun.fenceQ 20000 R.prog).map (fun x => ob x.2) = some (valF fns) := by
  kernel_rfl
theorem run_at (w : World) : HandSHeadRun.RunEqI R qv hk ob 20000 los w := by
  delta HandSHeadRun.RunEqI
  exact map_join (run_at1 w) (run_at2 w) (run_at3 w)
theorem walkH {l : PySem.W.OpenLaw} {q : Program} {loose : List Str} {XP : (Str → Option Value) → Heap → Prop} {YP : World → Heap → Prop} {d : DefRec} (hn : l.most = some 63) (hdf : d.params.defaults = [])
    (F : ∀ (w : World) (mg : Str → Option Value) (fa : Addr) (h : Heap), YP w h → h.Ns mainGlobals mg → mg d.name = some (.ref fa) → ∃ K : PySem.W.Frag, K.In h ∧
      ∃ fd : FuncData, (∀ (s : Shared) (u : Value), BindsTo s fd ⟨[u], []⟩ [("_law_script", u)]) ∧ ∀ base : Heap, K.In base → base.Ns mainGlobals mg → FnOk l.prog w K mg base (L2.CX l.prog w) 20 fa fd ["_law_script"] (sp_law K)) :
    PySem.W.WalkO q loose XP YP l.row.toRowW d [] (fun f vs => PySem.call f vs) := by
  refine Att.attach_call hn hdf fun w s₀ s₁ mg mb fa o pm cd doc a vs ns G Y ho hd hcd hmg hobj hints hlen hg => ?_
  obtain ⟨K, KX, fd, hb, hF⟩ := F w mg fa _ Y G.T.g hmg
  refine law_call KX G.T.g G.T.b G.T.builtins G.T.nolimit hg hobj hints (Nat.le_trans hlen (by decide)) ⟨rfl, by decide, by decide⟩ hF hb (fun H hO hS => ⟨a, ns, rfl, by
      rcases hS with (e | ⟨o, e⟩) | h
      · rcases hO a with z | ⟨_, _, z⟩
        · rw [e] at z; cases z
        · rw [e] at z; cases z
      · exact .inl ⟨o, e⟩
      · exact .inr fun _ => .inr h, hlen, fun _ => rfl⟩) fun H e s' h => ?_
  obtain ⟨_, _, _, _, _, _, _, _, _, _, _, _, z⟩ := h
  exact z.elim
end Sv
open PySem PySem.W PySem.Calls PyProof.Rows in
set_option maxRecDepth 100000 in
set_option maxHeartbeats 0 in
theorem PySem.Challenge.cw_staytallies_k25_whole_mends_holds : PySem.Challenge.rw_staytallies_k25_whole_mends.Holds := by
  w_on; o_law
  refine HandSHeadRun.head_imp (r := Sv.R) (q := Sv.qv) (H := Sv.hk) (ob := Sv.ob) (M := 20000) (loose := Sv.los) (d := HandSHeadRun.topDef Sv.R.prog 56) (kwd := []) Sv.ob_eq Sv.run_at (by kernel_rfl) (by kernel_rfl) (by kernel_rfl) (by rfl) (by first | assumption | decide +kernel) (by decide +kernel) ⟨rfl, rfl, rfl, rfl, rfl, by decide +kernel⟩ ?hw ?hc
  case hw => w_witness2
  case hc =>
    refine Sv.walkH (l := PySem.Challenge.rw_staytallies_k25_whole_mends) rfl (by kernel_rfl) ?F
    intro w mg fa h Y G hmg
    obtain ⟨K, KX, he, hf⟩ := Y
    have hmg2 : mg "law" = some (.ref fa) := by
      have e : (HandSHeadRun.topDef Sv.R.prog 56).name = ("law" : PySem.Str) := by kernel_rfl
      rw [← e]
      exact hmg
    obtain ⟨T⟩ := Sv.txt_of KX G he hf
    exact ⟨K, KX, Sv.all_mk T hmg2⟩
#print axioms PySem.Challenge.cw_staytallies_k25_whole_mends_holds
