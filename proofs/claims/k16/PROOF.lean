import PyProof.Rows.All
import Wide.All
import OpenK.AllK
import Wide.FinOn
import HandS.ForMost
import HandS.ForExc
import HandS.Wide
import HandS.Property
import HandS.IsInst
import HandS.TupAny
import HandS.TupLe
import HandS.Style
import HandS.Flow
import HandS.ExcInit
import HandS.ExcField
import HandS.FStr
import HandS.OwnEq
import KE.GoesMore
import HandS.Codes
import HandS.DictComp
import HandS.Walk
import HandS.SortInts
import HandS.TupMul
import HandS.Gcd
import PySem.Challenge.RW_staytallies_k16_whole_means
set_option Elab.async false
set_option linter.all false
set_option maxRecDepth 100000
set_option maxHeartbeats 4000000
namespace Sv
open PySem L2
def top (i : Nat) : Stmt := PySem.Challenge.pw_staytallies_k16_whole_means.main.body.getD i (.Pass ⟨0, 0, 0, 0⟩)
abbrev s_led_to : Stmt := (top 9)
abbrev s_longer_rows : Stmt := (top 10)
abbrev s_improved : Stmt := (top 11)
abbrev s_best_rows : Stmt := (top 12)
abbrev s_shortest_rows : Stmt := (top 13)
abbrev s_best_loops : Stmt := (top 14)
abbrev s_Machine_init : Stmt := (inClass (top 19) 0)
abbrev s_Machine_stands : Stmt := (inClass (top 19) 1)
abbrev s_Machine_steps : Stmt := (inClass (top 19) 2)
abbrev s_Machine_ends : Stmt := (inClass (top 19) 3)
abbrev s_is_whole_number : Stmt := (top 20)
abbrev s_is_integer_between : Stmt := (top 21)
abbrev s_is_stand : Stmt := (top 22)
abbrev s_check_stands : Stmt := (top 23)
abbrev s_is_step : Stmt := (top 24)
abbrev s_check_steps : Stmt := (top 25)
abbrev s_is_ascending : Stmt := (top 26)
abbrev s_check_ends : Stmt := (top 27)
abbrev s_check_machine : Stmt := (top 28)
abbrev s_moves_of : Stmt := (top 29)
abbrev s_way : Stmt := (top 30)
abbrev s_gain_of_loop : Stmt := (top 31)
abbrev s_reached : Stmt := (top 32)
abbrev s_best_loop : Stmt := (top 34)
abbrev s_fraction : Stmt := (top 35)
abbrev s_best_mean : Stmt := (top 36)
abbrev s_greatest_mean : Stmt := (top 37)
abbrev s_least_mean : Stmt := (top 38)
abbrev s_steps_over : Stmt := (top 39)
abbrev s_numbers : Stmt := (top 40)
abbrev s_mean_paper : Stmt := (top 41)
abbrev s_is_fraction : Stmt := (top 42)
abbrev s_is_mean_of : Stmt := (top 43)
abbrev s_bars_greater : Stmt := (top 44)
abbrev s_right_mean : Stmt := (top 45)
abbrev s_law_taken : Stmt := (top 47)
abbrev s_law_parts : Stmt := (top 48)
abbrev s_law_machine : Stmt := (top 49)
abbrev s_law_next : Stmt := (top 50)
abbrev s_law_way : Stmt := (top 51)
abbrev s_law_reached : Stmt := (top 52)
abbrev s_law_mean : Stmt := (top 53)
abbrev s_law_gcd : Stmt := (top 54)
abbrev s_law_fraction : Stmt := (top 55)
abbrev s_law_is_mean : Stmt := (top 56)
abbrev s_law : Stmt := (top 57)
theorem sc_led_to : FnScope ["steps", "begins", "found", "waiting", "stand", "begun", "_", "end"] ["steps", "begins"] (defScope s_led_to) := ⟨rfl, rfl, rfl, by decide +kernel, rfl, by decide +kernel, by decide +kernel⟩
theorem sc_longer_rows : FnScope ["steps", "sign", "rows", "longer", "begun", "letter", "end", "gain", "tally", "row"] ["steps", "sign", "rows"] (defScope s_longer_rows) := ⟨rfl, rfl, rfl, by decide +kernel, rfl, by decide +kernel, by decide +kernel⟩
theorem sc_improved : FnScope ["rows", "best", "stand"] ["rows", "best"] (defScope s_improved) := ⟨rfl, rfl, rfl, by decide +kernel, rfl, by decide +kernel, by decide +kernel⟩
theorem sc_best_rows : FnScope ["many", "steps", "sign", "best", "rows", "_", "improved", "stand", "endless"] ["many", "steps", "sign"] (defScope s_best_rows) := ⟨rfl, rfl, rfl, by decide +kernel, rfl, by decide +kernel, by decide +kernel⟩
theorem sc_shortest_rows : FnScope ["many", "steps", "best", "stand"] ["many", "steps"] (defScope s_shortest_rows) := ⟨rfl, rfl, rfl, by decide +kernel, rfl, by decide +kernel, by decide +kernel⟩
theorem sc_best_loops : FnScope ["many", "steps", "stand", "sign", "loops", "rows", "_"] ["many", "steps", "stand", "sign"] (defScope s_best_loops) := ⟨rfl, rfl, rfl, by decide +kernel, rfl, by decide +kernel, by decide +kernel⟩
theorem sc_Machine_init : FnScope ["self", "stands", "steps", "ends"] ["self", "stands", "steps", "ends"] (defScope s_Machine_init) := ⟨rfl, rfl, rfl, by decide +kernel, rfl, by decide +kernel, by decide +kernel⟩
theorem sc_Machine_stands : FnScope ["self"] ["self"] (defScope s_Machine_stands) := ⟨rfl, rfl, rfl, by decide +kernel, rfl, by decide +kernel, by decide +kernel⟩
theorem sc_Machine_steps : FnScope ["self"] ["self"] (defScope s_Machine_steps) := ⟨rfl, rfl, rfl, by decide +kernel, rfl, by decide +kernel, by decide +kernel⟩
theorem sc_Machine_ends : FnScope ["self"] ["self"] (defScope s_Machine_ends) := ⟨rfl, rfl, rfl, by decide +kernel, rfl, by decide +kernel, by decide +kernel⟩
theorem sc_is_whole_number : FnScope ["value"] ["value"] (defScope s_is_whole_number) := ⟨rfl, rfl, rfl, by decide +kernel, rfl, by decide +kernel, by decide +kernel⟩
theorem sc_is_integer_between : FnScope ["value", "least", "most"] ["value", "least", "most"] (defScope s_is_integer_between) := ⟨rfl, rfl, rfl, by decide +kernel, rfl, by decide +kernel, by decide +kernel⟩
theorem sc_is_stand : FnScope ["stands", "value"] ["stands", "value"] (defScope s_is_stand) := ⟨rfl, rfl, rfl, by decide +kernel, rfl, by decide +kernel, by decide +kernel⟩
theorem sc_check_stands : FnScope ["stands"] ["stands"] (defScope s_check_stands) := ⟨rfl, rfl, rfl, by decide +kernel, rfl, by decide +kernel, by decide +kernel⟩
theorem sc_is_step : FnScope ["stands", "value", "begun", "letter", "end", "gain"] ["stands", "value"] (defScope s_is_step) := ⟨rfl, rfl, rfl, by decide +kernel, rfl, by decide +kernel, by decide +kernel⟩
theorem sc_check_steps : FnScope ["stands", "steps", "index", "step"] ["stands", "steps"] (defScope s_check_steps) := ⟨rfl, rfl, rfl, by decide +kernel, rfl, by decide +kernel, by decide +kernel⟩
theorem sc_is_ascending : FnScope ["value", "many", "least", "number"] ["value", "many"] (defScope s_is_ascending) := ⟨rfl, rfl, rfl, by decide +kernel, rfl, by decide +kernel, by decide +kernel⟩
theorem sc_check_ends : FnScope ["stands", "ends"] ["stands", "ends"] (defScope s_check_ends) := ⟨rfl, rfl, rfl, by decide +kernel, rfl, by decide +kernel, by decide +kernel⟩
theorem sc_check_machine : FnScope ["value"] ["value"] (defScope s_check_machine) := ⟨rfl, rfl, rfl, by decide +kernel, rfl, by decide +kernel, by decide +kernel⟩
theorem sc_moves_of : FnScope ["machine", "begun", "letter", "end", "gain"] ["machine"] (defScope s_moves_of) := ⟨rfl, rfl, rfl, by decide +kernel, rfl, by decide +kernel, by decide +kernel⟩
theorem sc_way : FnScope ["machine", "stand", "value", "moves", "sums", "letter", "gain"] ["machine", "stand", "value"] (defScope s_way) := ⟨rfl, rfl, rfl, by decide +kernel, rfl, by decide +kernel, by decide +kernel⟩
theorem sc_gain_of_loop : FnScope ["machine", "lead", "loop", "place", "back"] ["machine", "lead", "loop"] (defScope s_gain_of_loop) := ⟨rfl, rfl, rfl, by decide +kernel, rfl, by decide +kernel, by decide +kernel⟩
theorem sc_reached : FnScope ["machine"] ["machine"] (defScope s_reached) := ⟨rfl, rfl, rfl, by decide +kernel, rfl, by decide +kernel, by decide +kernel⟩
theorem sc_best_loop : FnScope ["machine", "sign", "best", "stand", "gain", "loop"] ["machine", "sign"] (defScope s_best_loop) := ⟨rfl, rfl, rfl, by decide +kernel, rfl, by decide +kernel, by decide +kernel⟩
theorem sc_fraction : FnScope ["over", "under", "common"] ["over", "under"] (defScope s_fraction) := ⟨rfl, rfl, rfl, by decide +kernel, rfl, by decide +kernel, by decide +kernel⟩
theorem sc_best_mean : FnScope ["machine", "sign", "best"] ["machine", "sign"] (defScope s_best_mean) := ⟨rfl, rfl, rfl, by decide +kernel, rfl, by decide +kernel, by decide +kernel⟩
theorem sc_greatest_mean : FnScope ["machine"] ["machine"] (defScope s_greatest_mean) := ⟨rfl, rfl, rfl, by decide +kernel, rfl, by decide +kernel, by decide +kernel⟩
theorem sc_least_mean : FnScope ["machine"] ["machine"] (defScope s_least_mean) := ⟨rfl, rfl, rfl, by decide +kernel, rfl, by decide +kernel, by decide +kernel⟩
theorem sc_steps_over : FnScope ["machine", "over", "under", "begun", "letter", "end", "gain"] ["machine", "over", "under"] (defScope s_steps_over) := ⟨rfl, rfl, rfl, by decide +kernel, rfl, by decide +kernel, by decide +kernel⟩
theorem sc_numbers : FnScope ["machine", "over", "under", "best", "stand"] ["machine", "over", "under"] (defScope s_numbers) := ⟨rfl, rfl, rfl, by decide +kernel, rfl, by decide +kernel, by decide +kernel⟩
theorem sc_mean_paper : FnScope ["machine", "best", "stand", "gain", "loop", "over", "under", "lead"] ["machine"] (defScope s_mean_paper) := ⟨rfl, rfl, rfl, by decide +kernel, rfl, by decide +kernel, by decide +kernel⟩
theorem sc_is_fraction : FnScope ["value", "over", "under"] ["value"] (defScope s_is_fraction) := ⟨rfl, rfl, rfl, by decide +kernel, rfl, by decide +kernel, by decide +kernel⟩
theorem sc_is_mean_of : FnScope ["machine", "mean", "lead", "loop", "gain"] ["machine", "mean", "lead", "loop"] (defScope s_is_mean_of) := ⟨rfl, rfl, rfl, by decide +kernel, rfl, by decide +kernel, by decide +kernel⟩
theorem sc_bars_greater : FnScope ["machine", "mean", "numbers", "stands", "over", "under", "begun", "_", "end", "gain", "stand"] ["machine", "mean", "numbers"] (defScope s_bars_greater) := ⟨rfl, rfl, rfl, by decide +kernel, rfl, by decide +kernel, by decide +kernel⟩
theorem sc_right_mean : FnScope ["machine", "value", "mean", "lead", "loop", "numbers"] ["machine", "value"] (defScope s_right_mean) := ⟨rfl, rfl, rfl, by decide +kernel, rfl, by decide +kernel, by decide +kernel⟩
theorem sc_law_taken : FnScope ["_law_row", "_law_many", "_law_found", "_law_cell"] ["_law_row", "_law_many"] (defScope s_law_taken) := ⟨rfl, rfl, rfl, by decide +kernel, rfl, by decide +kernel, by decide +kernel⟩
theorem sc_law_parts : FnScope ["_law_row", "_law_stands", "_law_size", "_law_many", "_law_kind", "_law_heights", "_law_steps", "_law_letters", "_law_begun", "_law_letter", "_law_end", "_law_gain", "_law_ends", "_law_stand"] ["_law_row", "_law_stands", "_law_size"] (defScope s_law_parts) := ⟨rfl, rfl, rfl, by decide +kernel, rfl, by decide +kernel, by decide +kernel⟩
theorem sc_law_machine : FnScope ["_law_d"] ["_law_d"] (defScope s_law_machine) := ⟨rfl, rfl, rfl, by decide +kernel, rfl, by decide +kernel, by decide +kernel⟩
theorem sc_law_next : FnScope ["_law_d", "_law_stand", "_law_begun", "_law_letter", "_law_end", "_law_gain"] ["_law_d", "_law_stand"] (defScope s_law_next) := ⟨rfl, rfl, rfl, by decide +kernel, rfl, by decide +kernel, by decide +kernel⟩
theorem sc_law_way : FnScope ["_law_d", "_law_word", "_law_stand", "_law_tally", "_law_letter", "_law_some", "_law_step"] ["_law_d", "_law_word", "_law_stand"] (defScope s_law_way) := ⟨rfl, rfl, rfl, by decide +kernel, rfl, by decide +kernel, by decide +kernel⟩
theorem sc_law_reached : FnScope ["_law_d", "_law_found", "_law_stand", "_law_here", "_law_letter", "_law_end", "_law_gain"] ["_law_d"] (defScope s_law_reached) := ⟨rfl, rfl, rfl, by decide +kernel, rfl, by decide +kernel, by decide +kernel⟩
theorem sc_law_mean : FnScope ["_law_d", "_law_sign", "_law_best", "_law_first", "_law_here", "_law_length", "_law_later", "_law_stand", "_law_letter", "_law_end", "_law_gain"] ["_law_d", "_law_sign"] (defScope s_law_mean) := ⟨rfl, rfl, rfl, by decide +kernel, rfl, by decide +kernel, by decide +kernel⟩
theorem sc_law_gcd : FnScope ["_law_one", "_law_other"] ["_law_one", "_law_other"] (defScope s_law_gcd) := ⟨rfl, rfl, rfl, by decide +kernel, rfl, by decide +kernel, by decide +kernel⟩
theorem sc_law_fraction : FnScope ["_law_pair", "_law_sign", "_law_by"] ["_law_pair", "_law_sign"] (defScope s_law_fraction) := ⟨rfl, rfl, rfl, by decide +kernel, rfl, by decide +kernel, by decide +kernel⟩
theorem sc_law_is_mean : FnScope ["_law_d", "_law_value", "_law_over", "_law_under", "_law_lead", "_law_loop", "_law_numbers", "_law_told", "_law_end", "_law_stands", "_law_stand", "_law_begun", "_law_letter", "_law_there", "_law_gain"] ["_law_d", "_law_value"] (defScope s_law_is_mean) := ⟨rfl, rfl, rfl, by decide +kernel, rfl, by decide +kernel, by decide +kernel⟩
theorem sc_law : FnScope ["_law_script", "_law_row", "_law_turn", "_law_d", "_law_machine_here", "_law_due", "_law_value"] ["_law_script"] (defScope s_law) := ⟨rfl, rfl, rfl, by decide +kernel, rfl, by decide +kernel, by decide +kernel⟩
structure Txt (K : PySem.W.Frag) (mg : Str → Option Value) : Type where
  a_led_to : Addr
  fd_led_to : FuncData
  F_led_to : Fun K "led_to" "led_to" s_led_to a_led_to fd_led_to
  b_led_to : Binds K fd_led_to ["steps", "begins"] []
  k_led_to : PySem.W.keepIn K (.ref a_led_to) = true
  m_led_to : mg "led_to" = some (.ref a_led_to)
  a_longer_rows : Addr
  fd_longer_rows : FuncData
  F_longer_rows : Fun K "longer_rows" "longer_rows" s_longer_rows a_longer_rows fd_longer_rows
  b_longer_rows : Binds K fd_longer_rows ["steps", "sign", "rows"] []
  k_longer_rows : PySem.W.keepIn K (.ref a_longer_rows) = true
  m_longer_rows : mg "longer_rows" = some (.ref a_longer_rows)
  a_improved : Addr
  fd_improved : FuncData
  F_improved : Fun K "_improved" "_improved" s_improved a_improved fd_improved
  b_improved : Binds K fd_improved ["rows", "best"] []
  k_improved : PySem.W.keepIn K (.ref a_improved) = true
  m_improved : mg "_improved" = some (.ref a_improved)
  a_best_rows : Addr
  fd_best_rows : FuncData
  F_best_rows : Fun K "best_rows" "best_rows" s_best_rows a_best_rows fd_best_rows
  b_best_rows : Binds K fd_best_rows ["many", "steps", "sign"] []
  k_best_rows : PySem.W.keepIn K (.ref a_best_rows) = true
  m_best_rows : mg "best_rows" = some (.ref a_best_rows)
  a_shortest_rows : Addr
  fd_shortest_rows : FuncData
  F_shortest_rows : Fun K "shortest_rows" "shortest_rows" s_shortest_rows a_shortest_rows fd_shortest_rows
  b_shortest_rows : Binds K fd_shortest_rows ["many", "steps"] []
  k_shortest_rows : PySem.W.keepIn K (.ref a_shortest_rows) = true
  m_shortest_rows : mg "shortest_rows" = some (.ref a_shortest_rows)
  a_best_loops : Addr
  fd_best_loops : FuncData
  F_best_loops : Fun K "best_loops" "best_loops" s_best_loops a_best_loops fd_best_loops
  b_best_loops : Binds K fd_best_loops ["many", "steps", "stand", "sign"] []
  k_best_loops : PySem.W.keepIn K (.ref a_best_loops) = true
  m_best_loops : mg "best_loops" = some (.ref a_best_loops)
  a_Machine_init : Addr
  fd_Machine_init : FuncData
  F_Machine_init : Fun K "__init__" "Machine.__init__" s_Machine_init a_Machine_init fd_Machine_init
  b_Machine_init : Binds K fd_Machine_init ["self", "stands", "steps", "ends"] []
  k_Machine_init : PySem.W.keepIn K (.ref a_Machine_init) = true
  a_Machine_stands : Addr
  fd_Machine_stands : FuncData
  F_Machine_stands : Fun K "stands" "Machine.stands" s_Machine_stands a_Machine_stands fd_Machine_stands
  b_Machine_stands : Binds K fd_Machine_stands ["self"] []
  k_Machine_stands : PySem.W.keepIn K (.ref a_Machine_stands) = true
  a_Machine_steps : Addr
  fd_Machine_steps : FuncData
  F_Machine_steps : Fun K "steps" "Machine.steps" s_Machine_steps a_Machine_steps fd_Machine_steps
  b_Machine_steps : Binds K fd_Machine_steps ["self"] []
  k_Machine_steps : PySem.W.keepIn K (.ref a_Machine_steps) = true
  a_Machine_ends : Addr
  fd_Machine_ends : FuncData
  F_Machine_ends : Fun K "ends" "Machine.ends" s_Machine_ends a_Machine_ends fd_Machine_ends
  b_Machine_ends : Binds K fd_Machine_ends ["self"] []
  k_Machine_ends : PySem.W.keepIn K (.ref a_Machine_ends) = true
  a_is_whole_number : Addr
  fd_is_whole_number : FuncData
  F_is_whole_number : Fun K "is_whole_number" "is_whole_number" s_is_whole_number a_is_whole_number fd_is_whole_number
  b_is_whole_number : Binds K fd_is_whole_number ["value"] []
  k_is_whole_number : PySem.W.keepIn K (.ref a_is_whole_number) = true
  m_is_whole_number : mg "is_whole_number" = some (.ref a_is_whole_number)
  a_is_integer_between : Addr
  fd_is_integer_between : FuncData
  F_is_integer_between : Fun K "is_integer_between" "is_integer_between" s_is_integer_between a_is_integer_between fd_is_integer_between
  b_is_integer_between : Binds K fd_is_integer_between ["value", "least", "most"] []
  k_is_integer_between : PySem.W.keepIn K (.ref a_is_integer_between) = true
  m_is_integer_between : mg "is_integer_between" = some (.ref a_is_integer_between)
  a_is_stand : Addr
  fd_is_stand : FuncData
  F_is_stand : Fun K "_is_stand" "_is_stand" s_is_stand a_is_stand fd_is_stand
  b_is_stand : Binds K fd_is_stand ["stands", "value"] []
  k_is_stand : PySem.W.keepIn K (.ref a_is_stand) = true
  m_is_stand : mg "_is_stand" = some (.ref a_is_stand)
  a_check_stands : Addr
  fd_check_stands : FuncData
  F_check_stands : Fun K "_check_stands" "_check_stands" s_check_stands a_check_stands fd_check_stands
  b_check_stands : Binds K fd_check_stands ["stands"] []
  k_check_stands : PySem.W.keepIn K (.ref a_check_stands) = true
  m_check_stands : mg "_check_stands" = some (.ref a_check_stands)
  a_is_step : Addr
  fd_is_step : FuncData
  F_is_step : Fun K "_is_step" "_is_step" s_is_step a_is_step fd_is_step
  b_is_step : Binds K fd_is_step ["stands", "value"] []
  k_is_step : PySem.W.keepIn K (.ref a_is_step) = true
  m_is_step : mg "_is_step" = some (.ref a_is_step)
  a_check_steps : Addr
  fd_check_steps : FuncData
  F_check_steps : Fun K "_check_steps" "_check_steps" s_check_steps a_check_steps fd_check_steps
  b_check_steps : Binds K fd_check_steps ["stands", "steps"] []
  k_check_steps : PySem.W.keepIn K (.ref a_check_steps) = true
  m_check_steps : mg "_check_steps" = some (.ref a_check_steps)
  a_is_ascending : Addr
  fd_is_ascending : FuncData
  F_is_ascending : Fun K "is_ascending" "is_ascending" s_is_ascending a_is_ascending fd_is_ascending
  b_is_ascending : Binds K fd_is_ascending ["value", "many"] []
  k_is_ascending : PySem.W.keepIn K (.ref a_is_ascending) = true
  m_is_ascending : mg "is_ascending" = some (.ref a_is_ascending)
  a_check_ends : Addr
  fd_check_ends : FuncData
  F_check_ends : Fun K "_check_ends" "_check_ends" s_check_ends a_check_ends fd_check_ends
  b_check_ends : Binds K fd_check_ends ["stands", "ends"] []
  k_check_ends : PySem.W.keepIn K (.ref a_check_ends) = true
  m_check_ends : mg "_check_ends" = some (.ref a_check_ends)
  a_check_machine : Addr
  fd_check_machine : FuncData
  F_check_machine : Fun K "check_machine" "check_machine" s_check_machine a_check_machine fd_check_machine
  b_check_machine : Binds K fd_check_machine ["value"] []
  k_check_machine : PySem.W.keepIn K (.ref a_check_machine) = true
  m_check_machine : mg "check_machine" = some (.ref a_check_machine)
  a_moves_of : Addr
  fd_moves_of : FuncData
  F_moves_of : Fun K "moves_of" "moves_of" s_moves_of a_moves_of fd_moves_of
  b_moves_of : Binds K fd_moves_of ["machine"] []
  k_moves_of : PySem.W.keepIn K (.ref a_moves_of) = true
  m_moves_of : mg "moves_of" = some (.ref a_moves_of)
  a_way : Addr
  fd_way : FuncData
  F_way : Fun K "way" "way" s_way a_way fd_way
  b_way : Binds K fd_way ["machine", "stand", "value"] []
  k_way : PySem.W.keepIn K (.ref a_way) = true
  m_way : mg "way" = some (.ref a_way)
  a_gain_of_loop : Addr
  fd_gain_of_loop : FuncData
  F_gain_of_loop : Fun K "gain_of_loop" "gain_of_loop" s_gain_of_loop a_gain_of_loop fd_gain_of_loop
  b_gain_of_loop : Binds K fd_gain_of_loop ["machine", "lead", "loop"] []
  k_gain_of_loop : PySem.W.keepIn K (.ref a_gain_of_loop) = true
  m_gain_of_loop : mg "gain_of_loop" = some (.ref a_gain_of_loop)
  a_reached : Addr
  fd_reached : FuncData
  F_reached : Fun K "reached" "reached" s_reached a_reached fd_reached
  b_reached : Binds K fd_reached ["machine"] []
  k_reached : PySem.W.keepIn K (.ref a_reached) = true
  m_reached : mg "reached" = some (.ref a_reached)
  a_best_loop : Addr
  fd_best_loop : FuncData
  F_best_loop : Fun K "_best_loop" "_best_loop" s_best_loop a_best_loop fd_best_loop
  b_best_loop : Binds K fd_best_loop ["machine", "sign"] []
  k_best_loop : PySem.W.keepIn K (.ref a_best_loop) = true
  m_best_loop : mg "_best_loop" = some (.ref a_best_loop)
  a_fraction : Addr
  fd_fraction : FuncData
  F_fraction : Fun K "_fraction" "_fraction" s_fraction a_fraction fd_fraction
  b_fraction : Binds K fd_fraction ["over", "under"] []
  k_fraction : PySem.W.keepIn K (.ref a_fraction) = true
  m_fraction : mg "_fraction" = some (.ref a_fraction)
  a_best_mean : Addr
  fd_best_mean : FuncData
  F_best_mean : Fun K "_best_mean" "_best_mean" s_best_mean a_best_mean fd_best_mean
  b_best_mean : Binds K fd_best_mean ["machine", "sign"] []
  k_best_mean : PySem.W.keepIn K (.ref a_best_mean) = true
  m_best_mean : mg "_best_mean" = some (.ref a_best_mean)
  a_greatest_mean : Addr
  fd_greatest_mean : FuncData
  F_greatest_mean : Fun K "greatest_mean" "greatest_mean" s_greatest_mean a_greatest_mean fd_greatest_mean
  b_greatest_mean : Binds K fd_greatest_mean ["machine"] []
  k_greatest_mean : PySem.W.keepIn K (.ref a_greatest_mean) = true
  m_greatest_mean : mg "greatest_mean" = some (.ref a_greatest_mean)
  a_least_mean : Addr
  fd_least_mean : FuncData
  F_least_mean : Fun K "least_mean" "least_mean" s_least_mean a_least_mean fd_least_mean
  b_least_mean : Binds K fd_least_mean ["machine"] []
  k_least_mean : PySem.W.keepIn K (.ref a_least_mean) = true
  m_least_mean : mg "least_mean" = some (.ref a_least_mean)
  a_steps_over : Addr
  fd_steps_over : FuncData
  F_steps_over : Fun K "_steps_over" "_steps_over" s_steps_over a_steps_over fd_steps_over
  b_steps_over : Binds K fd_steps_over ["machine", "over", "under"] []
  k_steps_over : PySem.W.keepIn K (.ref a_steps_over) = true
  m_steps_over : mg "_steps_over" = some (.ref a_steps_over)
  a_numbers : Addr
  fd_numbers : FuncData
  F_numbers : Fun K "_numbers" "_numbers" s_numbers a_numbers fd_numbers
  b_numbers : Binds K fd_numbers ["machine", "over", "under"] []
  k_numbers : PySem.W.keepIn K (.ref a_numbers) = true
  m_numbers : mg "_numbers" = some (.ref a_numbers)
  a_mean_paper : Addr
  fd_mean_paper : FuncData
  F_mean_paper : Fun K "mean_paper" "mean_paper" s_mean_paper a_mean_paper fd_mean_paper
  b_mean_paper : Binds K fd_mean_paper ["machine"] []
  k_mean_paper : PySem.W.keepIn K (.ref a_mean_paper) = true
  m_mean_paper : mg "mean_paper" = some (.ref a_mean_paper)
  a_is_fraction : Addr
  fd_is_fraction : FuncData
  F_is_fraction : Fun K "_is_fraction" "_is_fraction" s_is_fraction a_is_fraction fd_is_fraction
  b_is_fraction : Binds K fd_is_fraction ["value"] []
  k_is_fraction : PySem.W.keepIn K (.ref a_is_fraction) = true
  m_is_fraction : mg "_is_fraction" = some (.ref a_is_fraction)
  a_is_mean_of : Addr
  fd_is_mean_of : FuncData
  F_is_mean_of : Fun K "_is_mean_of" "_is_mean_of" s_is_mean_of a_is_mean_of fd_is_mean_of
  b_is_mean_of : Binds K fd_is_mean_of ["machine", "mean", "lead", "loop"] []
  k_is_mean_of : PySem.W.keepIn K (.ref a_is_mean_of) = true
  m_is_mean_of : mg "_is_mean_of" = some (.ref a_is_mean_of)
  a_bars_greater : Addr
  fd_bars_greater : FuncData
  F_bars_greater : Fun K "_bars_greater" "_bars_greater" s_bars_greater a_bars_greater fd_bars_greater
  b_bars_greater : Binds K fd_bars_greater ["machine", "mean", "numbers"] []
  k_bars_greater : PySem.W.keepIn K (.ref a_bars_greater) = true
  m_bars_greater : mg "_bars_greater" = some (.ref a_bars_greater)
  a_right_mean : Addr
  fd_right_mean : FuncData
  F_right_mean : Fun K "right_mean" "right_mean" s_right_mean a_right_mean fd_right_mean
  b_right_mean : Binds K fd_right_mean ["machine", "value"] []
  k_right_mean : PySem.W.keepIn K (.ref a_right_mean) = true
  m_right_mean : mg "right_mean" = some (.ref a_right_mean)
  a_law_taken : Addr
  fd_law_taken : FuncData
  F_law_taken : Fun K "_law_taken" "_law_taken" s_law_taken a_law_taken fd_law_taken
  b_law_taken : Binds K fd_law_taken ["_law_row", "_law_many"] []
  k_law_taken : PySem.W.keepIn K (.ref a_law_taken) = true
  m_law_taken : mg "_law_taken" = some (.ref a_law_taken)
  a_law_parts : Addr
  fd_law_parts : FuncData
  F_law_parts : Fun K "_law_parts" "_law_parts" s_law_parts a_law_parts fd_law_parts
  b_law_parts : Binds K fd_law_parts ["_law_row", "_law_stands", "_law_size"] []
  k_law_parts : PySem.W.keepIn K (.ref a_law_parts) = true
  m_law_parts : mg "_law_parts" = some (.ref a_law_parts)
  a_law_machine : Addr
  fd_law_machine : FuncData
  F_law_machine : Fun K "_law_machine" "_law_machine" s_law_machine a_law_machine fd_law_machine
  b_law_machine : Binds K fd_law_machine ["_law_d"] []
  k_law_machine : PySem.W.keepIn K (.ref a_law_machine) = true
  m_law_machine : mg "_law_machine" = some (.ref a_law_machine)
  a_law_next : Addr
  fd_law_next : FuncData
  F_law_next : Fun K "_law_next" "_law_next" s_law_next a_law_next fd_law_next
  b_law_next : Binds K fd_law_next ["_law_d", "_law_stand"] []
  k_law_next : PySem.W.keepIn K (.ref a_law_next) = true
  m_law_next : mg "_law_next" = some (.ref a_law_next)
  a_law_way : Addr
  fd_law_way : FuncData
  F_law_way : Fun K "_law_way" "_law_way" s_law_way a_law_way fd_law_way
  b_law_way : Binds K fd_law_way ["_law_d", "_law_word", "_law_stand"] []
  k_law_way : PySem.W.keepIn K (.ref a_law_way) = true
  m_law_way : mg "_law_way" = some (.ref a_law_way)
  a_law_reached : Addr
  fd_law_reached : FuncData
  F_law_reached : Fun K "_law_reached" "_law_reached" s_law_reached a_law_reached fd_law_reached
  b_law_reached : Binds K fd_law_reached ["_law_d"] []
  k_law_reached : PySem.W.keepIn K (.ref a_law_reached) = true
  m_law_reached : mg "_law_reached" = some (.ref a_law_reached)
  a_law_mean : Addr
  fd_law_mean : FuncData
  F_law_mean : Fun K "_law_mean" "_law_mean" s_law_mean a_law_mean fd_law_mean
  b_law_mean : Binds K fd_law_mean ["_law_d", "_law_sign"] []
  k_law_mean : PySem.W.keepIn K (.ref a_law_mean) = true
  m_law_mean : mg "_law_mean" = some (.ref a_law_mean)
  a_law_gcd : Addr
  fd_law_gcd : FuncData
  F_law_gcd : Fun K "_law_gcd" "_law_gcd" s_law_gcd a_law_gcd fd_law_gcd
  b_law_gcd : Binds K fd_law_gcd ["_law_one", "_law_other"] []
  k_law_gcd : PySem.W.keepIn K (.ref a_law_gcd) = true
  m_law_gcd : mg "_law_gcd" = some (.ref a_law_gcd)
  a_law_fraction : Addr
  fd_law_fraction : FuncData
  F_law_fraction : Fun K "_law_fraction" "_law_fraction" s_law_fraction a_law_fraction fd_law_fraction
  b_law_fraction : Binds K fd_law_fraction ["_law_pair", "_law_sign"] []
  k_law_fraction : PySem.W.keepIn K (.ref a_law_fraction) = true
  m_law_fraction : mg "_law_fraction" = some (.ref a_law_fraction)
  a_law_is_mean : Addr
  fd_law_is_mean : FuncData
  F_law_is_mean : Fun K "_law_is_mean" "_law_is_mean" s_law_is_mean a_law_is_mean fd_law_is_mean
  b_law_is_mean : Binds K fd_law_is_mean ["_law_d", "_law_value"] []
  k_law_is_mean : PySem.W.keepIn K (.ref a_law_is_mean) = true
  m_law_is_mean : mg "_law_is_mean" = some (.ref a_law_is_mean)
  a_law : Addr
  fd_law : FuncData
  F_law : Fun K "law" "law" s_law a_law fd_law
  b_law : Binds K fd_law ["_law_script"] []
  k_law : PySem.W.keepIn K (.ref a_law) = true
  m_law : mg "law" = some (.ref a_law)
  c_Machine : Addr
  cl_Machine : Cls K c_Machine
  m_Machine : mg "Machine" = some (.ref c_Machine)
  mk_Machine : Mk K c_Machine a_Machine_init
  n__stands : NoAttr K c_Machine "_stands"
  n__steps : NoAttr K c_Machine "_steps"
  n__ends : NoAttr K c_Machine "_ends"
  q_stands : Addr
  p_stands : PropOf K c_Machine "stands" q_stands a_Machine_stands
  q_steps : Addr
  p_steps : PropOf K c_Machine "steps" q_steps a_Machine_steps
  q_ends : Addr
  p_ends : PropOf K c_Machine "ends" q_ends a_Machine_ends
  i1_Machine : PySem.W.findIn K (.ref c_Machine) "__class__" = some (some (.builtin "object.__class__"))
  i2_Machine : PySem.W.specialIn K (.builtin "object.__class__") "__get__" = some (some (.builtin "getset_descriptor.__get__"))
  i3_Machine : PySem.W.takesIn K (.builtin "object.__class__") = some true
  i4_Machine : PySem.W.mroIn K c_Machine (.type "object") = some true
  u_MOST_STANDS : Value
  m_MOST_STANDS : mg "MOST_STANDS" = some u_MOST_STANDS
  r_MOST_STANDS : RelV (V.int 8) u_MOST_STANDS
  u_MOST_GAIN : Value
  m_MOST_GAIN : mg "MOST_GAIN" = some u_MOST_GAIN
  r_MOST_GAIN : RelV (V.int 1000000000000000000000000000000) u_MOST_GAIN
  a_LETTERS : Addr
  m_LETTERS : mg "LETTERS" = some (.ref a_LETTERS)
  r_LETTERS : RelV (V.ref a_LETTERS) (.ref a_LETTERS)
  s_LETTERS : ∀ H, SqT K H a_LETTERS [V.str "a", V.str "b", V.str "c", V.str "d"]
  u_ENDLESS : Value
  m_ENDLESS : mg "ENDLESS" = some u_ENDLESS
  r_ENDLESS : RelV (V.str "endless") u_ENDLESS
  m_gcd : mg "gcd" = some (.builtin "math.gcd")
  z_abs : mg "abs" = none
  z_all : mg "all" = none
  z_bool : mg "bool" = none
  z_enumerate : mg "enumerate" = none
  z_int : mg "int" = none
  z_isinstance : mg "isinstance" = none
  z_len : mg "len" = none
  z_list : mg "list" = none
  z_max : mg "max" = none
  z_min : mg "min" = none
  z_range : mg "range" = none
  z_sorted : mg "sorted" = none
  z_str : mg "str" = none
  z_tuple : mg "tuple" = none
  bs_law : ∀ (s : Shared) (v : Value), BindsTo s fd_law ⟨[v], []⟩ [("_law_script", v)]
/-! ### heaps -/
/-- all but a stands as it was -/
def Keep (a : Addr) (H H' : Hp) : Prop := ∀ b o, b ≠ a → H b = some o → H' b = some o
theorem Keep.refl (a : Addr) (H : Hp) : Keep a H H := fun _ _ _ h => h
theorem Keep.trans {a : Addr} {H H1 H2 : Hp} (x : Keep a H H1) (y : Keep a H1 H2) : Keep a H H2 := fun b o n h => y b o n (x b o n h)
theorem Keep.at_ {a : Addr} {H : Hp} {o : HO} : Keep a H (upd H a o) := fun b u n h => by rw [upd_ne n]; exact h
theorem Keep.new {a p : Addr} {H : Hp} {o : HO} (hp : H p = none) : Keep a H (upd H p o) := fun b u _ h => by rw [upd_ne (ne_of_none h hp)]; exact h
theorem Keep.of_same {a : Addr} {H H' : Hp} (x : Same H H') : Keep a H H' := fun b o _ h => x b o h
theorem Same.new {p : Addr} {H : Hp} {o : HO} (hp : H p = none) : Same H (upd H p o) := fun b u h => by rw [upd_ne (ne_of_none h hp)]; exact h
theorem Keep.free {a p : Addr} {H H' : Hp} (x : Keep a H H') (n : p ≠ a) (h : H' p = none) : H p = none := by
  cases q : H p with
  | none => rfl
  | some o => rw [x p o n q] at h; cases h
/-- what H does not know may change -/
theorem Keep.mut {a p : Addr} {H H' : Hp} {o : HO} (x : Keep a H H') (hp : H p = none) : Keep a H (upd H' p o) := fun b u n h => by rw [upd_ne (ne_of_none h hp)]; exact x b u n h
theorem Keep.tup {K : PySem.W.Frag} {a b : Addr} {H H' : Hp} {xs : List V} (x : Keep a H H') (ha : ∃ l, H a = some (.lst l)) (h : SqT K H b xs) : SqT K H' b xs := by
  obtain ⟨l, ha⟩ := ha
  rcases h with (h | ⟨o, h⟩) | h
  · exact .inl (.inl (x _ _ (fun e => by rw [e, ha] at h; cases h) h))
  · exact .inl (.inr ⟨o, x _ _ (fun e => by rw [e, ha] at h; cases h) h⟩)
  · exact .inr h
theorem Keep.lst {K : PySem.W.Frag} {a b : Addr} {H H' : Hp} {xs : List V} (x : Keep a H H') (n : b ≠ a) (h : SqL K H b xs) : SqL K H' b xs := by
  rcases h with (h | ⟨o, h⟩) | h
  · exact .inl (.inl (x _ _ n h))
  · exact .inl (.inr ⟨o, x _ _ n h⟩)
  · exact .inr h
/-- the script: known to the object, or of the written part -/
def ScAt (K : PySem.W.Frag) (H : Hp) (b : Addr) (xs : List V) : Prop := (∃ o, H b = some (.frz o (.lst xs))) ∨ ∀ H', SqL K H' b xs
theorem ScAt.sq {K : PySem.W.Frag} {H : Hp} {b : Addr} {xs : List V} (h : ScAt K H b xs) : SqL K H b xs := by
  rcases h with ⟨o, h⟩ | h
  · exact .inl (.inr ⟨o, h⟩)
  · exact h H
theorem ScAt.keep {K : PySem.W.Frag} {a b : Addr} {H H' : Hp} {xs l : List V} (h : ScAt K H b xs) (k : Keep a H H') (ha : H a = some (.lst l)) : ScAt K H' b xs := by
  rcases h with ⟨o, h⟩ | h
  · exact .inl ⟨o, k _ _ (fun z => by rw [z, ha] at h; cases h) h⟩
  · exact .inr h
theorem ScAt.same {K : PySem.W.Frag} {b : Addr} {H H' : Hp} {xs : List V} (h : ScAt K H b xs) (k : Same H H') : ScAt K H' b xs := by
  rcases h with ⟨o, h⟩ | h
  · exact .inl ⟨o, k _ _ h⟩
  · exact .inr h
/-- the draws' row at a: the script, how many were read, the mixed number, the rest -/
def RowOk (K : PySem.W.Frag) (H : Hp) (a : Addr) : Prop := ∃ (sc : Addr) (ns : List Int) (i z r : Int), H a = some (.lst [.ref sc, .int i, .int z, .int r]) ∧ ScAt K H sc (ns.map V.int) ∧ ns.length ≤ 63 ∧ 0 ≤ i ∧ 0 ≤ z ∧ z < 2147483647
theorem RowOk.lst {K : PySem.W.Frag} {H : Hp} {a : Addr} (h : RowOk K H a) : ∃ l, H a = some (.lst l) := by
  obtain ⟨_, _, _, _, _, e, _⟩ := h; exact ⟨_, e⟩
/-- behind a step that leaves the row and the script as they were -/
theorem RowOk.same {K : PySem.W.Frag} {H H' : Hp} {a : Addr} (h : RowOk K H a) (s : Same H H') : RowOk K H' a := by
  obtain ⟨sc, ns, i, z, r, e, q, rest⟩ := h
  exact ⟨sc, ns, i, z, r, s _ _ e, q.same s, rest⟩
theorem RowOk.keep {K : PySem.W.Frag} {H H' : Hp} {a l : Addr} {xs : List V} (h : RowOk K H a) (n : a ≠ l) (e : H l = some (.lst xs)) (k : Keep l H H') : RowOk K H' a := by
  obtain ⟨sc, is, i, z, r, ea, q, rest⟩ := h
  exact ⟨sc, is, i, z, r, k _ _ n ea, q.keep k e, rest⟩
theorem RowOk.ne {K : PySem.W.Frag} {H : Hp} {a p : Addr} (h : RowOk K H a) (e : H p = none) : a ≠ p := by
  obtain ⟨l, q⟩ := h.lst
  exact ne_of_none q e
/-! ### steps: one a combinator -/
section
variable {K : PySem.W.Frag} {σ : L2.St} {H : Hp} {D : Ends} {Q : VK}
theorem k_seq {t u : TS} (h : t { D with nx := u D } σ H) : tSeq t u D σ H := h
theorem k_ifS {c : TT} {t u : TS} (h : c σ H fun b H1 => if b = true then t D σ H1 else u D σ H1) : tIfS c t u D σ H := h
theorem k_asg {te : TE} {g : TG} (h : te σ H fun x H1 => g x σ H1 D.nx) : tAsg te g D σ H := h
theorem k_ret {te : TE} (h : te σ H D.rt) : tRet te D σ H := h
theorem k_retN (h : D.rt .non H) : tRetN D σ H := h
theorem k_next (h : D.nx σ H) : tNext D σ H := h
theorem k_cont (h : D.ct σ H) : tCont D σ H := h
theorem k_break (h : D.bk σ H) : tBreak D σ H := h
theorem k_drop {te : TE} (h : te σ H fun _ H1 => D.nx σ H1) : tDrop te D σ H := h
theorem k_par {i j : Nat} {ta : TA} (h : ta σ H fun vs H1 => ∃ v w, vs = [v, w] ∧ D.nx ((σ.set i (some v)).set j (some w)) H1) : tPar i j ta D σ H := h
theorem k_two {p : V → V → Prop} {a b : V} (h : p a b) : ∃ v w, [a, b] = [v, w] ∧ p v w := ⟨a, b, rfl, h⟩
theorem k_var {i : Nat} {v : V} (e : σ[i]? = some (some v)) (h : Q v H) : tVar i σ H Q := ⟨v, e, h⟩
theorem k_c {v : V} (h : Q v H) : tC v σ H Q := h
theorem k_op {r : R2} {ta tb : TE} (h : ta σ H fun x H1 => tb σ H1 fun y H2 => r x y H2 Q) : tOp r ta tb σ H Q := h
theorem k_un {r : V → Hp → VK → Prop} {ta : TE} (h : ta σ H fun x H1 => r x H1 Q) : tUn r ta σ H Q := h
theorem k_cb {r : List V → Hp → VK → Prop} {t : TA} (h : t σ H fun vs H1 => r vs H1 Q) : tCB r t σ H Q := h
theorem k_cons {ta : TE} {tr : TA} {R : List V → Hp → Prop} (h : ta σ H fun x H1 => tr σ H1 fun xs H2 => R (x :: xs) H2) : tCons ta tr σ H R := h
theorem k_nil {R : List V → Hp → Prop} (h : R [] H) : tNil σ H R := h
theorem k_call {sp : Sp} {dvs : List V} {E : XK} {t : TA} (h : t σ H fun vs H1 => sp (vs ++ dvs) H1 Q E) : tCall sp dvs E t σ H Q := h
theorem k_make {C : Addr} {sp : Sp} {dvs : List V} {E : XK} {t : TA} (h : t σ H fun vs H1 => ∀ x dx, H1 x = none → H1 dx = none → dx ≠ x →
  sp (.ref x :: (vs ++ dvs)) (upd (upd H1 dx (.own x)) x (.ins C dx [])) (fun v H2 => v = .non ∧ Q (.ref x) H2) E) : tMake C sp dvs E t σ H Q := h
theorem k_test {t : TE} {R : Bool → Hp → Prop} (h : t σ H fun x H' => ∃ k, x = .bl k ∧ R k H') : tTest t σ H R := h
theorem k_tB {t : TE} {R : Bool → Hp → Prop} (h : t σ H fun x H' => ∃ k, x = .bl k ∧ R k H') : tB t σ H R := h
theorem k_bl {b : Bool} {R : Bool → Prop} (h : R b) : ∃ k, V.bl b = .bl k ∧ R k := ⟨b, rfl, h⟩
theorem k_and {t u : TT} {R : Bool → Hp → Prop} (h : t σ H fun c H1 => if c = true then u σ H1 R else R false H1) : tAnd t u σ H R := h
theorem k_or {t u : TT} {R : Bool → Hp → Prop} (h : t σ H fun c H1 => if c = true then R true H1 else u σ H1 R) : tOr t u σ H R := h
theorem k_not {t : TT} {R : Bool → Hp → Prop} (h : t σ H fun c H1 => R (!c) H1) : tNot t σ H R := h
theorem k_andV {ta tb : TE} (h : ta σ H fun x H1 => ∃ c, x = .bl c ∧ if c = true then tb σ H1 Q else Q (.bl false) H1) : tAndV ta tb σ H Q := h
theorem k_orV {ta tb : TE} (h : ta σ H fun x H1 => ∃ c, x = .bl c ∧ if c = true then Q (.bl true) H1 else tb σ H1 Q) : tOrV ta tb σ H Q := h
theorem k_notV {ta : TE} (h : ta σ H fun x H1 => ∃ c, x = .bl c ∧ Q (.bl (!c)) H1) : tNotV ta σ H Q := h
theorem k_ifE {t : TT} {ta tb : TE} (h : t σ H fun c H1 => if c = true then ta σ H1 Q else tb σ H1 Q) : tIf t ta tb σ H Q := h
theorem k_isN {ta : TE} (h : ta σ H fun x H1 => Q (.bl (decide (x = .non))) H1) : tIsN ta σ H Q := h
theorem k_notN {ta : TE} (h : ta σ H fun x H1 => Q (.bl (!decide (x = .non))) H1) : tNotN ta σ H Q := h
theorem k_name {i : Nat} {v : V} {R : L2.St → Hp → Prop} (h : R (σ.set i (some v)) H) : gName i v σ H R := h
theorem k_sub {to ti : TE} {t : TSet} {v : V} {R : L2.St → Hp → Prop} (h : to σ H fun o H1 => ti σ H1 fun i H2 => t o i v H2 fun H3 => R σ H3) : gSub to ti t v σ H R := h
theorem k_gt {n : Nat} {t : TGs} {R : L2.St → Hp → Prop} {a : Addr} {xs : List V} (h : SqT K H a xs) (e : xs.length = n) (q : t xs σ H R) : gTup K n t (.ref a) σ H R := ⟨a, xs, rfl, h, e, q⟩
theorem k_gn {R : L2.St → Hp → Prop} (h : R σ H) : gNil [] σ H R := ⟨rfl, h⟩
theorem k_gc {t : TG} {u : TGs} {v : V} {vs : List V} {R : L2.St → Hp → Prop} (h : t v σ H fun σ' H' => u vs σ' H' R) : gCons t u (v :: vs) σ H R := ⟨v, vs, rfl, h⟩
theorem k_I0 {g : Int → Int → V} {i j : Int} (h : Q (g i j) H) : rI0 g (.int i) (.int j) H Q := ⟨i, j, rfl, rfl, h⟩
theorem k_I {C : Int → Int → Prop} {g : Int → Int → V} {i j : Int} (c : C i j) (h : Q (g i j) H) : rI C g (.int i) (.int j) H Q := ⟨i, j, rfl, rfl, c, h⟩
theorem k_U {g : Int → V} {i : Int} (h : Q (g i) H) : rU g (.int i) H Q := ⟨i, rfl, h⟩
theorem k_eq {x y : V} (e : scal x y = true) (h : Q (.bl (decide (x = y))) H) : rEq x y H Q := ⟨e, h⟩
theorem k_ne {x y : V} (e : scal x y = true) (h : Q (.bl (!decide (x = y))) H) : rNe x y H Q := ⟨e, h⟩
theorem k_ixL {p : Addr} {xs : List V} {i : Int} {v : V} (h : SqL K H p xs) (e : atI xs i = some v) (q : Q v H) : rIxL K (.ref p) (.int i) H Q := ⟨p, xs, i, v, rfl, rfl, h, e, q⟩
theorem k_ixT {p : Addr} {xs : List V} {i : Int} {v : V} (h : SqT K H p xs) (e : atI xs i = some v) (q : Q v H) : rIxT K (.ref p) (.int i) H Q := ⟨p, xs, i, v, rfl, rfl, h, e, q⟩
theorem k_setL {p : Addr} {xs : List V} {k : Int} {j : Nat} {v : V} {R : Hp → Prop} (h : H p = some (.lst xs)) (e : ixN xs.length k = some j) (q : R (upd H p (.lst (xs.set j v)))) : rSetL (.ref p) (.int k) v H R := ⟨p, xs, k, j, rfl, rfl, h, e, q⟩
theorem k_tup {t : TA} (h : t σ H fun xs H1 => xs.length ≤ sizeLine ∧ ∀ p, H1 p = none → Q (.ref p) (upd H1 p (.tup xs))) : tTup t σ H Q := h
theorem k_lst {t : TA} (h : t σ H fun xs H1 => xs.length ≤ sizeLine ∧ ∀ p, H1 p = none → Q (.ref p) (upd H1 p (.lst xs))) : tLst t σ H Q := h
theorem k_bm {T : String} {r : V → List V → Hp → VK → Prop} {to : TE} {t : TA} (h : to σ H fun x H1 => tyV K T x H1 ∧ t σ H1 fun xs H2 => r x xs H2 Q) : tBM K T r to t σ H Q := h
theorem k_append {l : Addr} {xs : List V} {y : V} (h : H l = some (.lst xs)) (e : xs.length < sizeLine) (q : Q .non (upd H l (.lst (xs ++ [y])))) : rAppend (.ref l) [y] H Q := ⟨l, xs, y, rfl, rfl, h, e, q⟩
theorem k_dget {td ty : TE} (h : td σ H fun x H1 => ty σ H1 fun y H2 => ∃ a v, x = .ref a ∧ DGet H2 a y (some v) ∧ Q v H2) : tDGet td ty σ H Q := h
theorem k_dg {a : Addr} {y v : V} (h : DGet H a y (some v)) (q : Q v H) : ∃ b u, V.ref a = .ref b ∧ DGet H b y (some u) ∧ Q u H := ⟨a, v, rfl, h, q⟩
theorem k_fld {ta : TE} {f : Str} (h : ta σ H fun x H1 => ∃ a C dx fs v, x = .ref a ∧ H1 a = some (.ins C dx fs) ∧ Cls K C ∧ NoAttr K C f ∧ fs.lookup f = some v ∧ Q v H1) : tFld K ta f σ H Q := h
theorem k_sl {r : V → Option Int → Option Int → Hp → VK → Prop} {te : TE} {tl th : TO} (h : te σ H fun x H1 => tl σ H1 fun l H2 => th σ H2 fun u H3 => r x l u H3 Q) : L2.tSl r te tl th σ H Q := h
theorem k_noPart {R : Option Int → Hp → Prop} (h : R none H) : tNoPart σ H R := h
theorem k_part {t : TE} {R : Option Int → Hp → Prop} (h : t σ H fun x H1 => ∃ i, x = .int i ∧ R (some i) H1) : tPart t σ H R := h
theorem k_int {i : Int} {R : Int → Prop} (h : R i) : ∃ k, V.int i = .int k ∧ R k := ⟨i, rfl, h⟩
theorem k_int1 {i : Int} {R : Int → Prop} {R' : Bool → Prop} (h : R i) : (∃ j, [V.int i] = [V.int j] ∧ R j) ∨ (∃ k, [V.int i] = [V.bl k] ∧ R' k) := .inl ⟨i, rfl, h⟩
theorem k_len {a : Addr} {ys : List V} {R : List V → Prop} (h : SqL K H a ys ∨ SqT K H a ys) (q : R ys) : ∃ p xs, [V.ref a] = [V.ref p] ∧ (SqL K H p xs ∨ SqT K H p xs) ∧ R xs := ⟨a, ys, rfl, h, q⟩
theorem k_disp {trs : List (TE × TE)} (h : ∀ p, H p = none → tPairs trs σ (upd H p (.dK [])) fun ps H2 => H2 p = some (.dK []) ∧ ∃ kvs : List (Key × V), ps = kvs.map (fun kv => (kV kv.1, kv.2)) ∧ kvs.length ≤ 15 ∧ Q (.ref p) (upd H2 p (.dK (mergeK [] kvs)))) : tDisp trs σ H Q := h
theorem k_cut {t u : TS} (M : L2.St → Hp → Prop) (h : t { D with nx := M } σ H) (k : ∀ σ' H', M σ' H' → u D σ' H') : C8.tCut t u D σ H := ⟨M, h, k⟩
theorem k_rng1 {ta : TA} {R : It → Hp → Prop} (h : ta σ H fun vs H1 => ∃ j : Int, vs = [.int j] ∧ -(2 ^ 62) ≤ j ∧ j < 2 ^ 62 ∧ R (Itr 0 j.toNat) H1) : iRng1 ta σ H R := h
theorem k_rg {j : Int} {R : Int → Prop} (h1 : 0 ≤ j) (h2 : j < 2 ^ 62) (q : R j) : ∃ i : Int, [V.int j] = [V.int i] ∧ -(2 ^ 62) ≤ i ∧ i < 2 ^ 62 ∧ R i := ⟨j, rfl, by omega, h2, q⟩
theorem k_for {wi : TI} {g : TG} {tb : TS} (h : wi σ H fun J H1 => ∃ W : Nat → Nat → L2.St → Hp → Prop, (∃ m, W 0 m σ H1) ∧ ∀ i m σ H, W i m σ H →
  (J.stop i H ∧ D.nx σ H) ∨ (J.go i H ∧ ∃ N : L2.St → Hp → Prop, (∀ σ' H', N σ' H' → ∃ m', m' < m ∧ W (i + 1) m' σ' H') ∧ ∀ x H', J.yld i H x H' → g x σ H' fun σ2 H2 => tb { D with nx := N, ct := N, bk := D.nx } σ2 H2)) : tFor wi g tb D σ H := h
theorem k_lc {wi : TI} {g : TG} {tt : TT} {te : TE} {vs : List Nat} (h : wi σ H fun J H1 => ∀ D, H1 D = none → ∃ W : Nat → Nat → Hp → Prop, (∃ m, W 0 m (upd H1 D (.lst []))) ∧ ∀ i m H, W i m H →
  (J.stop i H ∧ Q (.ref D) H) ∨ (J.go i H ∧ ∃ Nx : Hp → Prop, (∀ H', Nx H' → ∃ m', m' < m ∧ W (i + 1) m' H') ∧ ∀ x H', J.yld i H x H' → g x (wipe σ vs) H' fun σ2 H2 => wipe σ2 vs = wipe σ vs ∧ tt σ2 H2 fun b H3 =>
    if b = true then te σ2 H3 fun y H4 => ∃ acc, H4 D = some (.lst acc) ∧ acc.length < sizeLine ∧ Nx (upd H4 D (.lst (acc ++ [y]))) else Nx H3)) : tLc wi g tt te vs σ H Q := h
theorem k_yesT {R : Bool → Hp → Prop} (h : R true H) : tYes σ H R := h
theorem k_str {te : TE} {R : It → Hp → Prop} (h : te σ H fun v H1 => ∃ x, v = .str x ∧ R (Its x) H1) : iStr te σ H R := h
theorem k_slS {z : Str} {lo hi : Option Int} (e : z.length ≤ sizeLine) (q : Q (.str (cutS z lo hi)) H) : rSlS (.str z) lo hi H Q := ⟨z, rfl, e, q⟩
theorem k_prs {tk tv : TE} {r : List (TE × TE)} {R : List (V × V) → Hp → Prop} (h : tk σ H fun x H1 => tv σ H1 fun y H2 => tPairs r σ H2 fun ps H3 => R ((x, y) :: ps) H3) : tPairs ((tk, tv) :: r) σ H R := h
theorem k_prn {R : List (V × V) → Hp → Prop} (h : R [] H) : tPairs [] σ H R := h
theorem k_aug {i : Nat} {te : TE} {ti : TIp} {x : V} (e : σ[i]? = some (some x)) (h : te σ H fun y H1 => ti x y H1 fun z H2 => D.nx (σ.set i (some z)) H2) : tAug i te ti D σ H := ⟨x, e, h⟩
theorem k_ipI {f : Int → Int → Int} {i j : Int} (h : Q (.int (f i j)) H) : ipI f (.int i) (.int j) H Q := ⟨i, j, rfl, rfl, h⟩
theorem k_din {ty td : TE} (h : ty σ H fun y H1 => td σ H1 fun x H2 => ∃ a o, x = .ref a ∧ DGet H2 a y o ∧ Q (.bl o.isSome) H2) : tDIn ty td σ H Q := h
theorem k_dnotin {ty td : TE} (h : ty σ H fun y H1 => td σ H1 fun x H2 => ∃ a o, x = .ref a ∧ DGet H2 a y o ∧ Q (.bl (!o.isSome)) H2) : tDNotIn ty td σ H Q := h
theorem k_dput {td ty tv : TE} (h : tv σ H fun v H1 => td σ H1 fun x H2 => ty σ H2 fun y H3 => ∃ a H4, x = .ref a ∧ DPut H3 a y v H4 ∧ D.nx σ H4) : sDPut td ty tv D σ H := h
theorem k_prop {C : Addr} {sp : Sp} {dvs : List V} {E : XK} {ta : TE} (h : ta σ H fun x H1 => ∃ a dx fs, x = .ref a ∧ H1 a = some (.ins C dx fs) ∧ sp (.ref a :: dvs) H1 Q E) : tProp C sp dvs E ta σ H Q := h
theorem k_itup {tl : TE} {R : It → Hp → Prop} (h : tl σ H fun x H1 => ∃ a, x = .ref a ∧ (∃ xs, SqT K H1 a xs) ∧ R (Itt K a) H1) : iTup K tl σ H R := h
theorem k_ilst {tl : TE} {R : It → Hp → Prop} (h : tl σ H fun x H1 => ∃ a, x = .ref a ∧ (∃ xs, SqL K H1 a xs) ∧ R (Itl K a) H1) : iList K tl σ H R := h
theorem k_bm0 {T : String} {r : V → List V → Hp → VK → Prop} {to : TE} (h : to σ H fun x H1 => tyV K T x H1 ∧ r x [] H1 Q) : tBM0 K T r to σ H Q := h
theorem k_dc {wi : TI} {g : TG} {tt : TT} {tk tv : TE} {vs : List Nat} (h : wi σ H fun J H1 => ∀ D, H1 D = none → ∃ W : Nat → Nat → Hp → Prop, (∃ m, W 0 m (upd H1 D (.dK []))) ∧ ∀ i m H, W i m H →
  (J.stop i H ∧ Q (.ref D) H) ∨ (J.go i H ∧ ∃ Nx : Hp → Prop, (∀ H', Nx H' → ∃ m', m' < m ∧ W (i + 1) m' H') ∧ ∀ x H', J.yld i H x H' → g x (wipe σ vs) H' fun σ2 H2 => wipe σ2 vs = wipe σ vs ∧ tt σ2 H2 fun b H3 =>
    if b = true then tk σ2 H3 fun y H4 => tv σ2 H4 fun z H5 => ∃ kvs k, y = kV k ∧ H5 D = some (.dK kvs) ∧ kvs.length < sizeLine ∧ Nx (upd H5 D (.dK (putK kvs k z))) else Nx H3)) : tDc wi g tt tk tv vs σ H Q := h
theorem k_whl {c : TT} {tb : TS} (W : Nat → L2.St → Hp → Prop) (h0 : ∃ m, W m σ H) (h : ∀ m σ H, W m σ H → c σ H fun b H1 => if b = true then tb { D with nx := fun σ' H' => ∃ m', m' < m ∧ W m' σ' H', ct := fun σ' H' => ∃ m', m' < m ∧ W m' σ' H', bk := D.nx } σ H1 else D.nx σ H1)
    (mono : ∀ σ H (R R' : Bool → Hp → Prop), (∀ b H1, R b H1 → R' b H1) → c σ H R → c σ H R') : tWhile c tb D σ H := by
  refine ⟨W, h0, fun m σ H w => mono _ _ _ _ (fun b H1 q => ?_) (h m σ H w)⟩
  cases b with
  | false => exact q
  | true => exact ⟨_, fun _ _ z => z, q⟩
theorem k_ite {p A B : Prop} [Decidable p] (h1 : p → A) (h2 : ¬ p → B) : if decide p = true then A else B := by
  by_cases h : p
  · rw [decide_eq_true h]; exact iteT (h1 h)
  · rw [decide_eq_false h]; exact iteF (h2 h)
theorem k_iteN {p A B : Prop} [Decidable p] (h1 : p → B) (h2 : ¬ p → A) : if (!decide p) = true then A else B := by
  by_cases h : p
  · rw [decide_eq_true h]; exact iteF (h1 h)
  · rw [decide_eq_false h]; exact iteT (h2 h)
theorem k_yes {c : Bool} {A B : Prop} (e : c = true) (h : A) : if c = true then A else B := by rw [e]; exact iteT h
theorem k_no {c : Bool} {A B : Prop} (e : c = false) (h : B) : if c = true then A else B := by rw [e]; exact iteF h
theorem k_bool {c : Bool} {A B : Prop} (h1 : c = true → A) (h2 : c = false → B) : if c = true then A else B := by cases c; exact iteF (h2 rfl); exact iteT (h1 rfl)
end
section
variable {K : PySem.W.Frag} {σ : L2.St} {H : Hp} {D : Ends} {Q : VK}
theorem k_par3 {i j l : Nat} {ta : TA} (h : ta σ H fun vs H1 => ∃ u v w, vs = [u, v, w] ∧ D.nx (((σ.set i (some u)).set j (some v)).set l (some w)) H1) : tPar3 i j l ta D σ H := h
theorem k_three {p : V → V → V → Prop} {a b c : V} (h : p a b c) : ∃ u v w, [a, b, c] = [u, v, w] ∧ p u v w := ⟨a, b, c, rfl, h⟩
theorem k_neD {x y : V} {d e : PyData} (h1 : Dp K H x d) (h2 : Dp K H y e) (s1 : SeqAt.shaped d = true) (s2 : SeqAt.shaped e = true) (q : Q (.bl (!PyData.eqv d e)) H) : rNeD K x y H Q := ⟨d, e, h1, h2, s1, s2, q⟩
theorem k_eqD {x y : V} {d e : PyData} (h1 : Dp K H x d) (h2 : Dp K H y e) (s1 : SeqAt.shaped d = true) (s2 : SeqAt.shaped e = true) (q : Q (.bl (PyData.eqv d e)) H) : rEqD K x y H Q := ⟨d, e, h1, h2, s1, s2, q⟩
theorem k_lenS {z : Str} {R : Int → Prop} (h : z.length ≤ sizeLine) (q : R z.length) : ∃ y : Str, [V.str z] = [V.str y] ∧ y.length ≤ sizeLine ∧ R y.length := ⟨z, rfl, h, q⟩
end
local macro_rules | `(tactic| walk_at "st") => `(tactic| first
  | ((with_reducible show tVar _ _ _ _); refine k_var rfl ?_)
  | (with_reducible first
    | refine k_c ?_ | refine k_op ?_ | refine k_I0 ?_ | refine k_seq ?_ | refine k_asg ?_ | refine k_name ?_ | refine k_cons ?_ | refine k_nil ?_ | refine k_cb ?_
    | refine k_ret ?_ | refine k_ifS ?_ | refine k_test ?_ | refine k_tB ?_ | refine k_bl ?_ | refine k_call ?_ | refine k_make ?_ | refine k_par3 ?_ | refine k_three ?_ | refine k_ipI ?_ | refine k_din ?_ | refine k_dnotin ?_ | refine k_dput ?_ | refine k_prop ?_ | refine k_itup ?_ | refine k_ilst ?_ | refine k_bm0 ?_ | refine k_dc ?_ | refine k_prs ?_ | refine k_prn ?_ | refine k_lc ?_ | refine k_yesT ?_ | refine k_str ?_ | refine k_disp ?_ | refine k_for ?_ | refine k_rng1 ?_ | refine k_drop ?_ | refine k_next ?_ | refine k_sub ?_ | refine k_un ?_ | refine k_U ?_
    | refine k_par ?_ | refine k_two ?_ | refine k_and ?_ | refine k_or ?_ | refine k_not ?_ | refine k_andV ?_ | refine k_orV ?_ | refine k_notV ?_ | refine k_ifE ?_ | refine k_isN ?_ | refine k_notN ?_
    | refine k_gn ?_ | refine k_gc ?_ | refine k_tup ?_ | refine k_lst ?_ | refine k_bm ?_ | refine k_dget ?_ | refine k_fld ?_ | refine k_sl ?_ | refine k_noPart ?_ | refine k_part ?_ | refine k_int ?_
    | refine k_int1 ?_ | refine k_retN ?_ | refine k_cont ?_ | refine k_break ?_)
  | ((with_reducible show rIxL _ _ _ _ _); refine k_ixL (SqL.of (by first | assumption | exact upd_same)) rfl ?_)
  | ((with_reducible show rSetL _ _ _ _ _); refine k_setL (by first | assumption | exact upd_same) rfl ?_)
  | ((with_reducible show tAug _ _ _ _ _ _); refine k_aug rfl ?_)
  | ((with_reducible show rEq _ _ _ _); refine k_eq rfl ?_)
  | ((with_reducible show rNe _ _ _ _); refine k_ne rfl ?_))
local macro_rules | `(tactic| walk_at "go") => `(tactic| repeat (walk_at "st"))
local macro_rules | `(tactic| walk_at "begin") => `(tactic| ((try dsimp only [cxOf]); simp only [L2.start, List.map_cons, List.map_nil, List.length_cons, List.length_nil, Nat.reduceAdd, Nat.reduceSub, List.replicate_succ, List.replicate_zero, List.cons_append, List.nil_append]))
/-! ### a draw: any number below the most -/
def sp_taken (K : PySem.W.Frag) : Sp := fun vs H Q _ => ∃ (a : Addr) (m : Int), vs = [.ref a, .int m] ∧ 0 < m ∧ m.natAbs < 2 ^ 8000 ∧ RowOk K H a ∧
  ∀ (x : Int) (H' : Hp), 0 ≤ x → x < m → RowOk K H' a → Keep a H H' → Q (.int x) H'
section
variable {P : Program} {w : World} {K : PySem.W.Frag} {mg : Str → Option Value} {base : Heap}
theorem ok_law_taken (T : Txt K mg) : FnOk P w K mg base (L2.CX P w) 1 T.a_law_taken T.fd_law_taken ["_law_row", "_law_many"] (sp_taken K) := by
  refine T.F_law_taken.okX sc_law_taken (fun vs H Q E h => ?_) (fun cdv A outer s H vs Q E hr h => ?_)
  · obtain ⟨a, m, rfl, _⟩ := h
    rfl
  · obtain ⟨a, m, rfl, m0, mb, ⟨sc, ns, i, z, r, ea, hs, hn, i0, z0, z1⟩, k⟩ := h
    refine ⟨_, (PSs.nox (pss_cons (ps_if (pt_cmpR op_gt (pe_ix ix_list (pv 0) pe_int (fun _ _ => rfl)) pe_int (nomark _))
  (pss_cons (ps_set (i := 2) sc_law_taken.nd rfl (Or.inl rfl) (pe_op op_mod (pe_callTy call_int1 (by rfl) T.z_int PySem.Pv.boot_int (pa_cons (pe_ix ix_list (pv 0) pe_int (fun _ _ => rfl)) pa_nil)) (pv 1)))
  (pss_cons (ps_asg (pe_op op_fdivW (pe_ix ix_list (pv 0) pe_int (fun _ _ => rfl)) (pv 1)) (pg_sub (pv 0) pe_int set_list))
  (pss_one (ps_ret (pv 2)))))
  pss_nil)
  (pss_cons (ps_asg (pe_op op_add (pe_ix ix_list (pv 0) pe_int (fun _ _ => rfl)) pe_int) (pg_sub (pv 0) pe_int set_list))
  (pss_cons (ps_if (pt_cmpR op_gt (pe_ix ix_list (pv 0) pe_int (fun _ _ => rfl)) (pe_callB call_len_seq (by rfl) T.z_len PySem.boot_len (pa_cons (pe_ix ix_list (pv 0) pe_int (fun _ _ => rfl)) pa_nil)) (nomark _))
  (pss_cons (ps_asg (pe_op op_mod (pe_callTy call_int1 (by rfl) T.z_int PySem.Pv.boot_int (pa_cons (pe_op op_add (pe_op op_mulW (pe_ix ix_list (pv 0) pe_int (fun _ _ => rfl)) pe_int) pe_int) pa_nil)) pe_int) (pg_sub (pv 0) pe_int set_list))
  (pss_one (ps_ret (pe_op op_mod (pe_callTy call_int1 (by rfl) T.z_int PySem.Pv.boot_int (pa_cons (pe_op op_fdivW (pe_ix ix_list (pv 0) pe_int (fun _ _ => rfl)) pe_int) pa_nil)) (pv 1)))))
  pss_nil)
  (pss_cons (ps_set (i := 3) sc_law_taken.nd rfl (Or.inl rfl) (pe_ix ix_list (pe_ix ix_list (pv 0) pe_int (fun _ _ => rfl)) (pe_op op_sub (pe_ix ix_list (pv 0) pe_int (fun _ _ => rfl)) pe_int) (fun _ _ => rfl)))
  (pss_cons (ps_asg (pe_op op_mod (pe_callTy call_int1 (by rfl) T.z_int PySem.Pv.boot_int (pa_cons (pe_op op_add (pe_op op_add (pe_op op_mulW (pe_ix ix_list (pv 0) pe_int (fun _ _ => rfl)) pe_int) (pv 3)) pe_int) pa_nil)) pe_int) (pg_sub (pv 0) pe_int set_list))
  (pss_cons (ps_if (pt_cmpR op_ge (pv 3) (pe_op op_pow pe_int pe_int) (nomark _))
  (pss_one (ps_asg (pe_op op_fdivW (pv 3) (pv 1)) (pg_sub (pv 0) pe_int set_list)))
  pss_nil)
  (pss_one (ps_ret (pe_op op_mod (pe_callTy call_int1 (by rfl) T.z_int PySem.Pv.boot_int (pa_cons (pv 3) pa_nil)) (pv 1))))))))))), ?_⟩
    walk_at "begin"
    walk_at "go"
    have CD : CDivW r m := wide_div m0 mb (by decide) (by decide)
    have CZ : CMulW z 48271 := wide_mul (a := 31) (b := 16) (by omega) (by decide) (by decide) (by decide) (by decide)
    refine k_ite (fun c => ?_) (fun c => ?_)
    · walk_at "go"
      refine k_I m0 ?_
      walk_at "go"
      refine k_I CD ?_
      walk_at "go"
      exact k _ _ (Int.emod_nonneg _ (by omega)) (Int.emod_lt_of_pos _ m0) ⟨sc, ns, i, z, r / m, upd_same, hs.keep Keep.at_ ea, hn, i0, z0, z1⟩ Keep.at_
    · walk_at "go"
      have K1 : Keep a H (upd H a (HO.lst ([V.ref sc, V.int i, V.int z, V.int r].set (Int.toNat 1) (V.int (i + 1))))) := Keep.at_
      refine k_len (.inl (hs.keep K1 ea).sq) ?_
      walk_at "go"
      have zn : ∀ q : Int, 0 ≤ q % 2147483647 ∧ q % 2147483647 < 2147483647 := fun q => ⟨Int.emod_nonneg _ (by decide), Int.emod_lt_of_pos _ (by decide)⟩
      have mn : ∀ q : Int, 0 ≤ q % m ∧ q % m < m := fun q => ⟨Int.emod_nonneg _ (by omega), Int.emod_lt_of_pos _ m0⟩
      refine k_ite (fun c1 => ?_) (fun c1 => ?_)
      · walk_at "go"
        refine k_I CZ ?_
        walk_at "go"
        refine k_I (by decide) ?_
        walk_at "go"
        refine k_I (wide_div (b := 3) (by decide) (by decide) (by decide) (by decide)) ?_
        walk_at "go"
        refine k_I m0 ?_
        exact k _ _ (mn _).1 (mn _).2 ⟨sc, ns, i + 1, _, r, upd_same, (hs.keep K1 ea).keep Keep.at_ upd_same, hn, by omega, (zn _).1, (zn _).2⟩ (K1.trans Keep.at_)
      · walk_at "go"
        rw [List.length_map] at c1
        have hl : (i + 1 - 1).toNat < ns.length := by omega
        refine k_ixL (hs.keep K1 ea).sq (v := V.int (ns[(i + 1 - 1).toNat]'hl)) (at_of (j := (i + 1 - 1).toNat) (by omega) (by rw [List.getElem?_map, List.getElem?_eq_getElem hl]; rfl)) ?_
        generalize ns[(i + 1 - 1).toNat]'hl = cell
        walk_at "go"
        refine k_I CZ ?_
        walk_at "go"
        refine k_I (by decide) ?_
        walk_at "go"
        refine k_I (by exact ⟨by decide, by decide, by decide⟩) ?_
        walk_at "go"
        refine k_ite (fun c2 => ?_) (fun c2 => ?_)
        · walk_at "go"
          refine k_I (wide_div m0 mb (by decide) (by decide)) ?_
          walk_at "go"
          refine k_I m0 ?_
          exact k _ _ (mn _).1 (mn _).2 ⟨sc, ns, i + 1, _, _, upd_same, ((hs.keep K1 ea).keep Keep.at_ upd_same).keep Keep.at_ upd_same, hn, by omega, (zn _).1, (zn _).2⟩ ((K1.trans Keep.at_).trans Keep.at_)
        · walk_at "go"
          refine k_I m0 ?_
          exact k _ _ (mn _).1 (mn _).2 ⟨sc, ns, i + 1, _, _, upd_same, (hs.keep K1 ea).keep Keep.at_ upd_same, hn, by omega, (zn _).1, (zn _).2⟩ (K1.trans Keep.at_)
end
/-! ### enumerate over a tuple -/
section
open Builtin
theorem meets_enumT (t : Addr) (its : Array Value) : Meets (Builtin.«enumerate.__new__» ⟨[.type "enumerate", .ref t], []⟩) (fun _ R st => st.heap.IsTuple t its ∧
    R (.ok (.ret (.ref (st.heap.objs.size + 1)))) { st with heap := (st.heap.push { cls := .type "tuple_iterator", data := .fields #[.ref t, .int 0 0] }).push { cls := .type "enumerate", data := .fields #[.none, .bool false, .ref st.heap.objs.size, rawInt 0, .none, .none] } }) := by
  refine Meets.of_wp fun prog w A R st hh => ?_
  rcases st with ⟨h0, g0, d0, t0, o0⟩
  obtain ⟨isT, q⟩ := hh
  have sub := sub_enumerate
  have L : Heap.IsTuple (Shared.heap ⟨h0, g0, d0, t0, o0⟩) t its := isT
  obtain ⟨ob, e0, c0, n0, dt0⟩ := L
  have z : (Heap.push h0 { cls := .type "tuple_iterator", data := .fields #[.ref t, .int 0 0] }).objs.size = h0.objs.size + 1 := Heap.size_push ..
  have q' := q
  rw [← z] at q'
  wp_walk using PySem.wpAny_pyIter_tuple isT
  refine wpAny_stack_any fun fr => wpAny_pure ?_
  split
  · rename_i cc _ _ _ _ _
    cases (cc == Value.type "enumerate")
    · wp_walk using PySem.wpAny_pyIter_tuple isT
      exact ⟨_, rfl, q'⟩
    · wp_walk using PySem.wpAny_pyIter_tuple isT
      exact ⟨_, rfl, q'⟩
  · wp_walk using PySem.wpAny_pyIter_tuple isT
    exact ⟨_, rfl, q'⟩
end
section
variable {prog : Program} {w : World} {A : Around} {E : Value → Shared → Prop} {s : Shared}
theorem call_enumT {t : Addr} {its : Array Value} {Q : Value → Shared → Prop} (isT : s.heap.IsTuple t its)
    (k : ∀ h', IsEnum h' (s.heap.objs.size + 1) s.heap.objs.size 0 .none → h'.IsTupleIter s.heap.objs.size t 0 → (∀ b o, s.heap.get? b = some o → h'.get? b = some o) →
      Q (.ref (s.heap.objs.size + 1)) { s with heap := h' }) : wpAny (model prog w) A (call (.type "enumerate") [.ref t]) Q E s := by
  have m := meets_enumT t its
  refine callType_new F.called_enumerate (by decide) (F.typeCall_enumerate_1 _) (F.newCall_enumerate_1 _) (fun o => F.args_object_init_2 o _) F.entry_enumerate_new m ⟨isT, ?_⟩
  have z : (Heap.push s.heap { cls := .type "tuple_iterator", data := .fields #[.ref t, .int 0 0] }).objs.size = s.heap.objs.size + 1 := Heap.size_push ..
  have g := Heap.get?_push_size (Heap.push s.heap { cls := .type "tuple_iterator", data := .fields #[.ref t, .int 0 0] })
    (o := { cls := .type "enumerate", data := .fields #[.none, .bool false, .ref s.heap.objs.size, rawInt 0, .none, .none] }) rfl
  rw [z] at g
  exact ⟨⟨_, g, rfl⟩, k _ g ⟨_, Heap.get?_push_of_some _ (Heap.get?_push_size _ rfl), rfl, rfl⟩ fun b o x => Heap.get?_push_of_some _ (Heap.get?_push_of_some _ x)⟩
end
/-- the i-th pair is new: its place and the tuple's item -/
def Iet (K : PySem.W.Frag) (a : Addr) : It :=
  ⟨fun i H => ∃ (xs : List V) (x : V), SqT K H a xs ∧ xs[i]? = some x,
   fun i H v H' => ∃ p x, v = .ref p ∧ H p = none ∧ H' = upd H p (.tup [.int (i : Nat), x]) ∧ ∀ xs, SqT K H a xs → xs[i]? = some x,
   fun i H => ∃ xs : List V, SqT K H a xs ∧ xs.length ≤ i⟩
theorem turn_enumT {P : Program} {w : World} {K : PySem.W.Frag} {es : List Expr} {c : Nat} {tp : Pos} (a e it : Addr) :
    Turn P w K (.Tuple es c tp) (Iet K a) [e, it] e (fun i h => (∃ old, IsEnum h e it ((i : Nat) : Int) old) ∧ h.IsTupleIter it a i ∧ e ≠ it) := by
  have two : ∀ b, b ∈ [e, it] → b = e ∨ b = it := fun b hb => by simpa using hb
  constructor
  case mem => simp
  case obj =>
    rintro i h ⟨⟨old, he⟩, ⟨o, ho, hc, hd⟩, _⟩ b hb
    rcases two b hb with rfl | rfl
    · exact ⟨_, he, fun v q => nomatch q⟩
    · exact ⟨o, ho, fun v q => by rw [hd] at q; cases q⟩
  case keep =>
    rintro i h h' ⟨⟨old, he⟩, hi, ne⟩ k
    exact ⟨⟨old, k e (by simp) _ he⟩, hi.at fun o q => k it (by simp) o q, ne⟩
  case item =>
    rintro X rfl rfl rfl hC i pins s σ H E I hf ⟨⟨old, he⟩, hit, ne⟩ ⟨xs, x, hq, hx⟩
    obtain ⟨its, rv, p, hz⟩ := I.tuple hq
    obtain ⟨u, hu, ru⟩ := rv.get hx
    have le : e < s.heap.objs.size := Heap.lt_size he
    have li : it < s.heap.objs.size := by obtain ⟨_, q, _⟩ := hit; exact Heap.lt_size q
    have pt : s.heap.IsTuple a its.toArray := p
    have na : a ≠ it := fun z => by
      obtain ⟨o1, q1, c1, _⟩ := hit
      obtain ⟨o2, q2, c2, _⟩ := pt
      rw [z, q1] at q2
      cases q2
      rw [c1] at c2
      exact absurd c2 (by simp)
    have nb : e ≠ a := fun z => by
      obtain ⟨o2, q2, c2, _⟩ := pt
      have q3 : s.heap.get? e = _ := he
      rw [z, q2] at q3
      cases q3
      exact absurd c2 (by simp)
    have Dr := Draws.tuple (prog := X.prog) (w := X.w) (A := X.A.in1) (I.ok.hd hC) it a na its.toArray
    refine wpAny_pyNext_enum_itemD (i := i) Dr he ⟨hit, pt⟩ (by simpa using (List.getElem?_eq_some_iff.mp hu).1) ne (by simp [ne, nb]) fun x' h' tk px ho st hT hsz hk => ?_
    have ex : x' = u := by
      have q : its.toArray[i]? = some x' := px
      rw [List.getElem?_toArray, hu] at q
      exact (Option.some.inj q).symm
    subst ex
    refine ⟨_, rfl, wpAny_letOwnedTupleGo_enum (s := { s with heap := h', toks := tk + 1 }) ho fun h2 he2 sb => ?_⟩
    have hT2 : h2.get? s.heap.objs.size = some { cls := .type "tuple", data := .seq #[.int i tk, x'] } := (sb.2 _ (Nat.ne_of_gt le)).trans hT
    have new : ObjOk X.prog X.w (upd H s.heap.objs.size (.tup [.int (i : Nat), x])) h2 s.heap.objs.size (.tup [.int (i : Nat), x]) :=
      ⟨(by decide : 2 ≤ sizeLine), [.int i tk, x'], .cons ⟨_, rfl⟩ (.cons ru .nil), ⟨_, hT2, rfl, _, rfl⟩⟩
    have I1 : Inv X pins σ (upd H s.heap.objs.size (.tup [.int (i : Nat), x])) { s with heap := h2, toks := tk + 1 } :=
      I.turnedNew (ch := [e, it]) (fun b ob hb q => (sb.2 b (fun z => hb (by simp [z]))).trans (hk b ob (fun z => hb (by simp [z])) (fun z => hb (by simp [z])) q)) hf (Nat.le_refl _) new
    refine ⟨.ref s.heap.objs.size, _, I1, rfl, ⟨_, x, rfl, I.hok.fresh (Nat.le_refl _), rfl, fun ys hy => ?_⟩, ⟨⟨x', ?_⟩, ?_, ne⟩, fun b hb => ?_⟩
    · rw [I.tuple_inj hy hq]; exact hx
    · have e1 : ((i + 1 : Nat) : Int) = (i : Int) + 1 := by omega
      rw [e1]; exact he2
    · exact st.1.at fun o q => (sb.2 it (Ne.symm ne)).trans q
    · have lb : b < s.heap.objs.size := by rcases two b hb with rfl | rfl <;> assumption
      rw [upd_ne (Nat.ne_of_lt lb)]
      exact (hf b hb).1
  case done =>
    rintro X rfl rfl rfl hC i pins s σ H E I hf ⟨⟨old, he⟩, hit, ne⟩ ⟨xs, hq, hx⟩
    obtain ⟨its, rv, p, hz⟩ := I.tuple hq
    have pt : s.heap.IsTuple a its.toArray := p
    have na : a ≠ it := fun z => by
      obtain ⟨o1, q1, c1, _⟩ := hit
      obtain ⟨o2, q2, c2, _⟩ := pt
      rw [z, q1] at q2
      cases q2
      rw [c1] at c2
      exact absurd c2 (by simp)
    have out : its.toArray[i]? = none := by
      have hl := rv.length
      rw [List.getElem?_toArray]
      exact List.getElem?_eq_none (by omega)
    have Dr : Draws X.prog X.w X.A.in1 it [it, a] i (fun _ _ => True) (fun j h => j = i ∧ h.IsTupleIter it a j ∧ h.IsTuple a its.toArray) :=
      { live := fun j h st => by obtain ⟨_, ⟨o, ho, _⟩, _⟩ := st; exact ⟨o, ho⟩
        frame := fun j h h' st hk => ⟨st.1, st.2.1.at fun o e => hk it (by simp) o e, st.2.2.at fun o e => hk a (by simp) o e⟩
        item := fun j s Q E hj st hQ => absurd st.1 (Nat.ne_of_lt hj)
        done := fun s Q E st hE => wpAny_nextOf_tuple_end (A := X.A.in1) (I.ok.hd hC) st.2.1 st.2.2 out hE }
    obtain ⟨f0, f1, f2, f3, f4, f5⟩ := hf it (by simp)
    exact wpAny_pyNext_enum_endD Dr he ⟨rfl, hit, pt⟩ fun h' eb => ⟨rfl, I.turned (t' := s.toks) (fun b o hb q => eb b o hb q) f0 f1 f3 f4 f5⟩
  case self =>
    rintro A i s Q E ⟨⟨_, he⟩, _⟩ h
    exact wpAny_pyIter_enum he h
def iEnumT (K : PySem.W.Frag) (ta : TA) : TI := fun σ H R => ta σ H fun vs H1 => ∃ a xs, vs = [.ref a] ∧ SqT K H1 a xs ∧ R (Iet K a) H1
theorem pi_enumT {X : Cx} {e : Expr} {ta : TA} {p pos tpos : Pos} {es : List Expr} {c : Nat} (hg : Gl X "enumerate") (hm : X.mg "enumerate" = none) (ha : PA X [e] ta)
    (hs : starEach [e] X.env = [(false, eval e X.env)] := by rfl) : PI X (.Tuple es c tpos) (.Call (.Name "enumerate" p) [e] [] pos) (iEnumT X.K ta) := by
  constructor
  intro pins s σ H R I h
  refine PyProof.Rows.Call_ (ld_blt I hg hm (show bootBuiltins "enumerate" = some (.type "enumerate") by decide +kernel) (PyProof.Rows.callWith_type1 (thn (ha.run pos pins s σ H _ I h) ?_) hs rfl))
  rintro us s1 ⟨vs, H1, I1, r1, a, xs, rfl, hq, q⟩
  obtain ⟨u, rfl, ru⟩ := vals1 r1
  cases ru
  obtain ⟨its, rv, p', hz⟩ := I1.tuple hq
  have pt : s1.heap.IsTuple a its.toArray := p'
  refine call_enumT pt fun h' he hit hk => wpAny_pyIter_enum he ?_
  have I2 : Inv X pins σ H1 { s1 with heap := h' } := I1.kept (t' := s1.toks) hk
  refine ⟨s1.heap.objs.size + 1, [s1.heap.objs.size + 1, s1.heap.objs.size], _, _, H1, rfl, I2, turn_enumT a (s1.heap.objs.size + 1) s1.heap.objs.size, ⟨⟨.none, he⟩, hit, Nat.succ_ne_self _⟩, fun b hb => ?_, q⟩
  have lb : s1.heap.objs.size ≤ b := by
    have two : b = s1.heap.objs.size + 1 ∨ b = s1.heap.objs.size := by simpa using hb
    rcases two with rfl | rfl
    · exact Nat.le_succ _
    · exact Nat.le_refl _
  exact I1.fpOk lb (I1.hok.fresh lb)
/-- over a tuple that stands still, the place and the item in a new pair -/
theorem for_enumT {K : PySem.W.Frag} {a : Addr} {xs : List V} {g : TG} {tb : TS} {D : Ends} {σ : L2.St} {H : Hp} (Pv : Nat → L2.St → Hp → Prop) (h0 : Pv 0 σ H) (hl : ∀ i σ H, i ≤ xs.length → Pv i σ H → SqT K H a xs)
    (hs : ∀ i x p σ H, xs[i]? = some x → Pv i σ H → H p = none → g (.ref p) σ (upd H p (.tup [.int (i : Nat), x])) fun σ2 H2 => tb { D with nx := Pv (i + 1), ct := Pv (i + 1), bk := D.nx } σ2 H2) (hd : ∀ σ H, Pv xs.length σ H → D.nx σ H) :
    ∃ W : Nat → Nat → L2.St → Hp → Prop, (∃ m, W 0 m σ H) ∧ ∀ i m σ H, W i m σ H → ((Iet K a).stop i H ∧ D.nx σ H) ∨
      ((Iet K a).go i H ∧ ∃ N : L2.St → Hp → Prop, (∀ σ' H', N σ' H' → ∃ m', m' < m ∧ W (i + 1) m' σ' H') ∧ ∀ x H', (Iet K a).yld i H x H' → g x σ H' fun σ2 H2 => tb { D with nx := N, ct := N, bk := D.nx } σ2 H2) := by
  refine ⟨fun i m σ H => m + i = xs.length ∧ Pv i σ H, ⟨xs.length, by simp, h0⟩, fun i m σ H ⟨em, hP⟩ => ?_⟩
  have sq := hl i σ H (by omega) hP
  by_cases c : i < xs.length
  · refine .inr ⟨⟨xs, xs[i], sq, List.getElem?_eq_getElem c⟩, Pv (i + 1), fun σ' H' z => ⟨m - 1, by omega, by omega, z⟩, ?_⟩
    rintro v H' ⟨p, x, rfl, hp, rfl, hx⟩
    exact hs i x p σ H (hx xs sq) hP hp
  · have e : i = xs.length := by omega
    exact .inl ⟨⟨xs, sq, by omega⟩, hd σ H (e ▸ hP)⟩
/-! ### machines as data -/
structure Stp where
  b : Nat
  c : Nat
  e : Nat
  g : Int
structure MD where
  n : Nat
  ss : List Stp
  es : List Nat
def stpV (s : Stp) : List V := [.int (s.b : Nat), .str ⟨#[s.c]⟩, .int (s.e : Nat), .int s.g]
structure Stp.Ok (n : Nat) (s : Stp) : Prop where
  b : s.b < n
  c : 97 ≤ s.c
  c' : s.c ≤ 100
  e : s.e < n
  g : -(10 ^ 30) ≤ s.g
  g' : s.g ≤ 10 ^ 30
def Stp.lt (s t : Stp) : Prop := s.b < t.b ∨ (s.b = t.b ∧ s.c < t.c)
structure MD.Ok (m : MD) : Prop where
  n1 : 1 ≤ m.n
  n8 : m.n ≤ 8
  ok : ∀ s ∈ m.ss, s.Ok m.n
  up : m.ss.Pairwise Stp.lt
  len : m.ss.length ≤ 32
  eb : ∀ e ∈ m.es, e < m.n
  eu : m.es.Pairwise (· < ·)
  el : m.es.length ≤ 8
/-- steps alone, whatever the number of stands -/
structure StOk (N : Nat) (s : Stp) : Prop where
  b : s.b < N
  c : 97 ≤ s.c
  c' : s.c ≤ 100
  e : s.e < N
  g : -(10 ^ 32) ≤ s.g
  g' : s.g ≤ 10 ^ 32
structure SsOk (N : Nat) (ss : List Stp) : Prop where
  n1 : 1 ≤ N
  n64 : N ≤ 63
  ok : ∀ s ∈ ss, StOk N s
  len : ss.length ≤ 300
theorem MD.Ok.sok {m : MD} (o : m.Ok) : SsOk m.n m.ss := ⟨o.n1, by have := o.n8; omega, fun s h => let k := o.ok s h; ⟨k.b, k.c, k.c', k.e, by have := k.g; omega, by have := k.g'; omega⟩, by have := o.len; omega⟩
/-- the steps' tuples -/
def StpsAt (K : PySem.W.Frag) (H : Hp) (vs : List V) (ss : List Stp) : Prop := vs.length = ss.length ∧ ∀ (i : Nat) (s : Stp), ss[i]? = some s → ∃ p, vs[i]? = some (V.ref p) ∧ SqT K H p (stpV s)
def nats (es : List Nat) : List V := es.map fun e => V.int (e : Nat)
def StAt (K : PySem.W.Frag) (H : Hp) (t : Addr) (ss : List Stp) : Prop := ∃ us, SqT K H t us ∧ StpsAt K H us ss
/-- steps and ends as they stand -/
def PartsAt (K : PySem.W.Frag) (H : Hp) (t u : Addr) (m : MD) : Prop := (∃ vs, SqT K H t vs ∧ StpsAt K H vs m.ss) ∧ SqT K H u (nats m.es)
def DAt (K : PySem.W.Frag) (H : Hp) (d : Addr) (m : MD) : Prop := ∃ t u, H d = some (.dK [(.inr "stands", .int (m.n : Nat)), (.inr "steps", .ref t), (.inr "ends", .ref u)]) ∧ PartsAt K H t u m
def mfs (n : Nat) (t u : Addr) : List (Str × V) := [("_stands", .int (n : Nat)), ("_steps", .ref t), ("_ends", .ref u)]
def MAt (K : PySem.W.Frag) (C : Addr) (H : Hp) (x : Addr) (m : MD) : Prop := ∃ dx t u, H x = some (.ins C dx (mfs m.n t u)) ∧ PartsAt K H t u m
section
variable {K : PySem.W.Frag} {a : Addr} {H H' : Hp}
/-- tuples stay -/
def Tups (H H' : Hp) : Prop := (∀ b xs, H b = some (.tup xs) → H' b = some (.tup xs)) ∧ ∀ b o xs, H b = some (.frz o (.tup xs)) → H' b = some (.frz o (.tup xs))
theorem Tups.trans {H H1 H2 : Hp} (a : Tups H H1) (b : Tups H1 H2) : Tups H H2 := ⟨fun c xs e => b.1 c xs (a.1 c xs e), fun c o xs e => b.2 c o xs (a.2 c o xs e)⟩
theorem Tups.sq {p : Addr} {xs : List V} (k : Tups H H') (h : SqT K H p xs) : SqT K H' p xs := by
  rcases h with (h | ⟨o, h⟩) | h
  · exact .inl (.inl (k.1 _ _ h))
  · exact .inl (.inr ⟨o, k.2 _ _ _ h⟩)
  · exact .inr h
theorem Tups.steps {vs : List V} {ss : List Stp} (k : Tups H H') (h : StpsAt K H vs ss) : StpsAt K H' vs ss := ⟨h.1, fun i s e => let ⟨p, e1, q⟩ := h.2 i s e; ⟨p, e1, k.sq q⟩⟩
theorem Tups.stAt {t : Addr} {ss : List Stp} (k : Tups H H') (h : StAt K H t ss) : StAt K H' t ss := let ⟨us, q, z⟩ := h; ⟨us, k.sq q, k.steps z⟩
theorem Tups.parts {t u : Addr} {m : MD} (k : Tups H H') (h : PartsAt K H t u m) : PartsAt K H' t u m := let ⟨⟨vs, q, z⟩, r⟩ := h; ⟨⟨vs, k.sq q, k.steps z⟩, k.sq r⟩
theorem same_tups (k : Same H H') : Tups H H' := ⟨fun _ _ e => k _ _ e, fun _ _ _ e => k _ _ e⟩
theorem Keep.tups {l : List V} (k : Keep a H H') (ha : H a = some (.lst l)) : Tups H H' := ⟨fun b _ e => k _ _ (fun z => by rw [z, ha] at e; cases e) e, fun b _ _ e => k _ _ (fun z => by rw [z, ha] at e; cases e) e⟩
theorem Tups.new {p : Addr} {o : HO} (h : H p = none) : Tups H (upd H p o) := same_tups (Same.new h)
theorem Tups.lst {p : Addr} {xs : List V} {o : HO} (h : H p = some (.lst xs)) : Tups H (upd H p o) := Keep.tups (Keep.at_) h
theorem DAt.keep {d : Addr} {m : MD} {l : List V} (h : DAt K H d m) (k : Keep a H H') (ha : H a = some (.lst l)) : DAt K H' d m :=
  let ⟨t, u, e, q⟩ := h; ⟨t, u, k _ _ (fun z => by rw [z, ha] at e; cases e) e, (k.tups ha).parts q⟩
theorem MAt.keep {C x : Addr} {m : MD} {l : List V} (h : MAt K C H x m) (k : Keep a H H') (ha : H a = some (.lst l)) : MAt K C H' x m :=
  let ⟨dx, t, u, e, q⟩ := h; ⟨dx, t, u, k _ _ (fun z => by rw [z, ha] at e; cases e) e, (k.tups ha).parts q⟩
theorem DAt.same {d : Addr} {m : MD} (h : DAt K H d m) (k : Same H H') : DAt K H' d m := let ⟨t, u, e, q⟩ := h; ⟨t, u, k _ _ e, (same_tups k).parts q⟩
theorem MAt.same {C x : Addr} {m : MD} (h : MAt K C H x m) (k : Same H H') : MAt K C H' x m := let ⟨dx, t, u, e, q⟩ := h; ⟨dx, t, u, k _ _ e, (same_tups k).parts q⟩
theorem StpsAt.snoc {vs : List V} {ss : List Stp} {p : Addr} {s : Stp} (h : StpsAt K H vs ss) (q : SqT K H p (stpV s)) : StpsAt K H (vs ++ [V.ref p]) (ss ++ [s]) := by
  refine ⟨by rw [List.length_append, List.length_append, h.1]; rfl, fun i t e => ?_⟩
  by_cases c : i < ss.length
  · rw [List.getElem?_append_left c] at e
    obtain ⟨r, e1, q1⟩ := h.2 i t e
    exact ⟨r, by rw [List.getElem?_append_left (by rw [h.1]; exact c)]; exact e1, q1⟩
  · rw [List.getElem?_append_right (by omega)] at e
    have z : i - ss.length = 0 := by
      have := (List.getElem?_eq_some_iff.mp e).1
      simp at this
      omega
    rw [z] at e
    cases e
    exact ⟨p, by rw [List.getElem?_append_right (by rw [h.1]; omega), h.1, z]; rfl, q⟩
end
/-! ### what a machine checks -/
def NotInt (K : PySem.W.Frag) (H : Hp) (v : V) : Prop := (∃ b, v = .bl b) ∨ ∃ t, TyX K H v t ∧ PySem.W.kitOne K t (.type "int") = some false
theorem k_isi {K : PySem.W.Frag} {H : Hp} {Q : VK} {x c : V} {t u : Value} {b : Bool} (hc : ClsV c u) (ht : TyX K H x t) (hk : PySem.W.kitOne K t u = some b) (h : Q (.bl b) H) : rIsi K [x, c] H Q := ⟨x, c, t, u, b, rfl, hc, ht, hk, h⟩
theorem k_chain {r r' : R2} {ta tb tc : TE} {σ : L2.St} {H : Hp} {Q : VK} (h : ta σ H fun x H1 => tb σ H1 fun y H2 => r x y H2 fun z H3 => ∃ k, z = .bl k ∧
  (if k = true then tc σ H3 fun w' H4 => r' y w' H4 Q else Q (.bl false) H3)) : tChain r r' ta tb tc σ H Q := h
def sp_whole (K : PySem.W.Frag) : Sp := fun vs H Q _ => ∃ v : V, vs = [v] ∧ ((∃ i, v = .int i ∧ Q (.bl true) H) ∨ (NotInt K H v ∧ Q (.bl false) H))
def sp_between (K : PySem.W.Frag) : Sp := fun vs H Q _ => ∃ (v : V) (lo hi : Int), vs = [v, .int lo, .int hi] ∧ ((∃ i, v = .int i ∧ Q (.bl (decide (lo ≤ i ∧ i ≤ hi))) H) ∨ (NotInt K H v ∧ Q (.bl false) H))
def sp_is_stand (K : PySem.W.Frag) : Sp := fun vs H Q _ => ∃ (v : V) (n : Int), vs = [.int n, v] ∧ ((∃ i, v = .int i ∧ Q (.bl (decide (0 ≤ i ∧ i < n))) H) ∨ (NotInt K H v ∧ Q (.bl false) H))
def sp_check_stands (K : PySem.W.Frag) : Sp := fun vs H Q _ => ∃ n : Int, vs = [.int n] ∧ 1 ≤ n ∧ n ≤ 8 ∧ Q .non H
section
variable {P : Program} {w : World} {K : PySem.W.Frag} {mg : Str → Option Value} {base : Heap}
theorem ok_is_whole_number (T : Txt K mg) : FnOk P w K mg base (L2.CX P w) 1 T.a_is_whole_number T.fd_is_whole_number ["value"] (sp_whole K) := by
  refine T.F_is_whole_number.okX sc_is_whole_number (fun vs H Q E h => ?_) (fun cdv A outer s H vs Q E hr h => ?_)
  · obtain ⟨v, rfl, _⟩ := h
    rfl
  · obtain ⟨v, rfl, k⟩ := h
    refine ⟨_, (PSs.nox (pss_one (ps_ret (pe_and (pe_callB call_isi (by rfl) T.z_isinstance (by decide +kernel) (pa_cons (pv 0) (pa_cons (pe_bltn (v := .ty "int") (by rfl) T.z_int (by decide +kernel) rfl) pa_nil))) (pe_one (pe_not (pe_callB call_isi (by rfl) T.z_isinstance (by decide +kernel) (pa_cons (pv 0) (pa_cons (pe_bltn (v := .ty "bool") (by rfl) T.z_bool (by decide +kernel) rfl) pa_nil))))))))), ?_⟩
    walk_at "begin"
    walk_at "go"
    rcases k with ⟨i, rfl, k⟩ | ⟨⟨b, rfl⟩ | ⟨t, ht, hk⟩, k⟩
    · refine k_isi (.ty _) (.base (.int i)) (kit_ty (b := "int") (r := true) (by decide +kernel)) ?_
      walk_at "go"
      refine iteT ?_
      walk_at "go"
      refine k_isi (.ty _) (.base (.int i)) (kit_ty (b := "bool") (r := false) (by decide +kernel)) ?_
      walk_at "go"
      exact k
    · refine k_isi (.ty _) (.base (.bl b)) (kit_ty (b := "int") (r := true) (by decide +kernel)) ?_
      walk_at "go"
      refine iteT ?_
      walk_at "go"
      refine k_isi (.ty _) (.base (.bl b)) (kit_ty (b := "bool") (r := true) (by decide +kernel)) ?_
      walk_at "go"
      exact k
    · refine k_isi (.ty _) ht hk ?_
      walk_at "go"
      exact iteF k
theorem ok_is_integer_between (T : Txt K mg) : FnOk P w K mg base (L2.CX P w) 2 T.a_is_integer_between T.fd_is_integer_between ["value", "least", "most"] (sp_between K) := by
  refine T.F_is_integer_between.okX sc_is_integer_between (fun vs H Q E h => ?_) (fun cdv A outer s H vs Q E hr h => ?_)
  · obtain ⟨v, lo, hi, rfl, _⟩ := h
    rfl
  · obtain ⟨v, lo, hi, rfl, k⟩ := h
    refine ⟨_, (PSs.nox (pss_one (ps_ret (pe_and (pe_call (ok_is_whole_number T) (hr.mono (by decide)) (by rfl) T.m_is_whole_number T.k_is_whole_number T.b_is_whole_number .nil passL (pa_cons (pv 0) pa_nil)) (pe_one (pe_chain op_le op_le (pv 1) (pv 0) (pv 2))))))), ?_⟩
    walk_at "begin"
    walk_at "go"
    rcases k with ⟨i, rfl, k⟩ | ⟨ni, k⟩
    · refine ⟨_, rfl, .inl ⟨i, rfl, ?_⟩⟩
      walk_at "go"
      refine iteT (k_chain ?_)
      walk_at "go"
      refine k_ite (fun c => ?_) (fun c => ?_)
      · walk_at "go"
        rw [decide_eq_decide.mpr (show lo ≤ i ∧ i ≤ hi ↔ i ≤ hi from ⟨fun z => z.2, fun z => ⟨c, z⟩⟩)] at k
        exact k
      · walk_at "go"
        rw [decide_eq_false (show ¬ (lo ≤ i ∧ i ≤ hi) from fun z => c z.1)] at k
        exact k
    · refine ⟨_, rfl, .inr ⟨ni, ?_⟩⟩
      walk_at "go"
      exact iteF k
theorem ok_is_stand (T : Txt K mg) : FnOk P w K mg base (L2.CX P w) 3 T.a_is_stand T.fd_is_stand ["stands", "value"] (sp_is_stand K) := by
  refine T.F_is_stand.okX sc_is_stand (fun vs H Q E h => ?_) (fun cdv A outer s H vs Q E hr h => ?_)
  · obtain ⟨v, n, rfl, _⟩ := h
    rfl
  · obtain ⟨v, n, rfl, k⟩ := h
    refine ⟨_, (PSs.nox (pss_one (ps_ret (pe_call (ok_is_integer_between T) (hr.mono (by decide)) (by rfl) T.m_is_integer_between T.k_is_integer_between T.b_is_integer_between .nil passL (pa_cons (pv 1) (pa_cons pe_int (pa_cons (pe_op op_sub (pv 0) pe_int) pa_nil))))))), ?_⟩
    walk_at "begin"
    walk_at "go"
    refine ⟨v, 0, n - 1, rfl, ?_⟩
    rcases k with ⟨i, rfl, k⟩ | ⟨ht, k⟩
    · refine .inl ⟨i, rfl, ?_⟩
      rw [decide_eq_decide.mpr (show (0 ≤ i ∧ i < n) ↔ (0 ≤ i ∧ i ≤ n - 1) by omega)] at k
      exact k
    · exact .inr ⟨ht, k⟩
theorem ok_check_stands (T : Txt K mg) : FnOk P w K mg base (L2.CX P w) 3 T.a_check_stands T.fd_check_stands ["stands"] (sp_check_stands K) := by
  refine T.F_check_stands.okX sc_check_stands (fun vs H Q E h => ?_) (fun cdv A outer s H vs Q E hr h => ?_)
  · obtain ⟨n, rfl, _⟩ := h
    rfl
  · obtain ⟨n, rfl, n1, n8, k⟩ := h
    refine ⟨_, (PSs.nox (pss_one (ps_if (pt_not (pt_val (pe_call (ok_is_integer_between T) (hr.mono (by decide)) (by rfl) T.m_is_integer_between T.k_is_integer_between T.b_is_integer_between .nil passL (pa_cons (pv 0) (pa_cons pe_int (pa_cons (pe_glob (by rfl) T.m_MOST_STANDS T.r_MOST_STANDS) pa_nil))))))
  (pss_one ps_never)
  pss_nil))), ?_⟩
    walk_at "begin"
    walk_at "go"
    refine ⟨_, 1, 8, rfl, .inl ⟨n, rfl, ?_⟩⟩
    rw [decide_eq_true (show 1 ≤ n ∧ n ≤ 8 from ⟨n1, n8⟩)]
    walk_at "go"
    refine iteF ?_
    walk_at "go"
    exact k
end
/-! ### (int, text) <= (int, text) -/
def le2 (i : Int) (s : Str) (j : Int) (t : Str) : Bool := if i = j then (if s = t then true else !decide (t.cps.toList < s.cps.toList)) else decide (i ≤ j)
def rLe2 (K : PySem.W.Frag) : R2 := fun x y H Q => ∃ (a b : Addr) (i j : Int) (s t : Str), x = .ref a ∧ y = .ref b ∧ SqT K H a [.int i, .str s] ∧ SqT K H b [.int j, .str t] ∧ Q (.bl (le2 i s j t)) H
theorem op_le2 {X : Cx} (hu : X.A.units < cLine) : OpR X (compareOp .LtE) (rLe2 X.K) := by
  rintro pins st σ H x y v u Q I rx ry ⟨a, b, i, j, s, t, rfl, rfl, ha, hb, q⟩
  cases rx
  cases ry
  obtain ⟨us, r1, p1, _⟩ := I.tuple ha
  obtain ⟨ws, r2, p2, _⟩ := I.tuple hb
  obtain ⟨u1, u2, rfl, ⟨k1, rfl⟩, ⟨k2, rfl⟩⟩ := vals2 r1
  obtain ⟨w1, w2, rfl, ⟨l1, rfl⟩, ⟨l2, rfl⟩⟩ := vals2 r2
  have R := Ob.RcOp.tuples_le (A := X.A) (s := st) (e := fun n => if n = 0 then (i == j) else decide (s = t)) (r := fun n => if n = 0 then decide (i ≤ j) else !decide (t.cps.toList < s.cps.toList)) p1 p2 hu
    (fun n h1 h2 => by
      have n2 : n < 2 := h1
      match n, n2 with
      | 0, _ => exact SeqAt.EqAt.int_int _ _ _ _
      | 1, _ => exact SeqAt.EqAt.str_str _ _ _ _)
    (fun n h1 h2 _ => by
      have n2 : n < 2 := h1
      match n, n2 with
      | 0, _ => exact Ob.RcOp.le_int _ _ _ _
      | 1, _ => exact fun prog w E Q hQ => PySem.P.le_str hQ)
  have z : Ob.lexAt (fun n => if n = 0 then (i == j) else decide (s = t)) (fun n => if n = 0 then decide (i ≤ j) else !decide (t.cps.toList < s.cps.toList)) (decide ((2 : Nat) ≤ 2)) 0 (min 2 2) = le2 i s j t := by
    show Ob.lexAt _ _ _ 0 2 = _
    rw [Ob.lexAt_succ]
    unfold le2
    by_cases c : i = j
    · have c' : (i == j) = true := beq_iff_eq.mpr c
      simp only [if_pos, c', if_pos c]
      rw [Ob.lexAt_succ]
      by_cases d : s = t
      · simp [d, Ob.lexAt_zero]
      · simp [d]
    · have c' : (i == j) = false := beq_eq_false_iff_ne.mpr c
      simp [c']
      exact fun z => absurd z c
  have R' := R X.prog X.w X.xe (EP X pins σ Q) ⟨.bl _, H, I, rfl, (by rw [← z] at q; exact q)⟩
  exact R'
/-! ### steps, ends, machines -/
theorem ty_tup {K : PySem.W.Frag} {H : Hp} {p : Addr} {xs : List V} (h : SqT K H p xs) : TyX K H (.ref p) (.type "tuple") := by
  rcases h with (h | ⟨o, h⟩) | ⟨o, its, n, h, hc, _⟩
  · exact .base (.tup h)
  · exact .fTuple h
  · exact .kTuple h hc
theorem k_in {K : PySem.W.Frag} {neg : Bool} {H : Hp} {Q : VK} {p : Addr} {x : V} {xs : List V} (h : SqL K H p xs ∨ SqT K H p xs) (fx : flatV x = true) (fa : xs.all flatV = true) (q : Q (.bl (if neg then !inV x xs else inV x xs)) H) : rIn K neg x (.ref p) H Q := ⟨p, xs, rfl, h, fx, fa, q⟩
theorem letter_in {c : Nat} (h : 97 ≤ c) (h' : c ≤ 100) : inV (.str ⟨#[c]⟩) [V.str "a", V.str "b", V.str "c", V.str "d"] = true := by
  have z : c = 97 ∨ c = 98 ∨ c = 99 ∨ c = 100 := by omega
  rcases z with rfl | rfl | rfl | rfl <;> decide
theorem k_slA2 {K : PySem.W.Frag} {H : Hp} {Q : VK} {a : Addr} {x y z u : V} (h : SqT K H a [x, y, z, u]) (q : ∀ p, H p = none → Q (.ref p) (upd H p (.tup [x, y]))) : rSlA K (.ref a) none (some 2) H Q :=
  ⟨a, _, rfl, h, fun e => absurd e (by show ¬ ((0 : Nat) = 0 ∧ (2 : Nat) = 4); decide), fun _ p hp => q p hp⟩
theorem le2_no {s t : Stp} (h : s.lt t) : le2 (t.b : Nat) ⟨#[t.c]⟩ (s.b : Nat) ⟨#[s.c]⟩ = false := by
  unfold le2
  rcases h with h | ⟨h1, h2⟩
  · rw [if_neg (by omega), decide_eq_false (by omega)]
  · rw [if_pos (by omega), if_neg (by intro z; injection z with z; simp at z; omega)]
    simp
    exact List.Lex.rel h2
theorem few {n : Nat} (k : Nat) (h : k < 1000) (q : n ≤ k) : n < 1000 := Nat.lt_of_le_of_lt q h
def sp_is_step (K : PySem.W.Frag) : Sp := fun vs H Q _ => ∃ (n : Nat) (p : Addr) (s : Stp), vs = [.int (n : Nat), .ref p] ∧ SqT K H p (stpV s) ∧ s.Ok n ∧ Q (.bl true) H
def sp_check_steps (K : PySem.W.Frag) : Sp := fun vs H Q _ => ∃ (t : Addr) (us : List V) (m : MD), vs = [.int (m.n : Nat), .ref t] ∧ SqT K H t us ∧ StpsAt K H us m.ss ∧ m.Ok ∧ ∀ H', Same H H' → Q .non H'
def sp_check_ends (K : PySem.W.Frag) : Sp := fun vs H Q _ => ∃ (t : Addr) (m : MD), vs = [.int (m.n : Nat), .ref t] ∧ SqT K H t (nats m.es) ∧ m.Ok ∧ ∀ H', Same H H' → Q .non H'
/-- whether values are ascending integers from l to below n -/
def ascV (n : Int) : Int → List V → Bool
  | _, [] => true
  | l, .int j :: r => decide (l ≤ j ∧ j ≤ n - 1) && ascV n (j + 1) r
  | _, _ => false
theorem ascV_odd {n l : Int} {x : V} {r : List V} (h : ∀ j, x ≠ .int j) : ascV n l (x :: r) = false := by
  cases x with
  | int j => exact (h j rfl).elim
  | _ => rfl
theorem ascV_nats {n : Nat} : ∀ {es : List Nat} {l : Nat}, (∀ e ∈ es, e < n) → es.Pairwise (· < ·) → (∀ e ∈ es, l ≤ e) → ascV (n : Nat) (l : Nat) (nats es) = true
  | [], _, _, _, _ => rfl
  | e :: es, l, h1, h2, h3 => by
    show (decide (((l : Nat) : Int) ≤ (e : Nat) ∧ ((e : Nat) : Int) ≤ (n : Nat) - 1) && ascV (n : Nat) (((e + 1 : Nat)) : Int) (nats es)) = true
    have a := h1 e (List.mem_cons_self ..)
    have b := h3 e (List.mem_cons_self ..)
    have c := List.pairwise_cons.mp h2
    rw [decide_eq_true (by omega), ascV_nats (fun x hx => h1 x (List.mem_cons_of_mem _ hx)) c.2 (fun x hx => c.1 x hx)]
    rfl
def sp_asc (K : PySem.W.Frag) : Sp := fun vs H Q _ => ∃ (v : V) (n : Int), vs = [v, .int n] ∧ ((∃ ty, TyX K H v ty ∧ PySem.W.kitOne K ty (.type "tuple") = some false ∧ Q (.bl false) H) ∨
  ∃ t xs, v = .ref t ∧ SqT K H t xs ∧ (∀ x ∈ xs, (∃ j, x = .int j) ∨ (NotInt K H x ∧ ∀ j, x ≠ .int j)) ∧ Q (.bl (ascV n 0 xs)) H)
def sp_init (K : PySem.W.Frag) (C : Addr) : Sp := fun vs H Q _ => ∃ (x dx t u : Addr) (m : MD), vs = [.ref x, .int (m.n : Nat), .ref t, .ref u] ∧ H x = some (.ins C dx []) ∧ PartsAt K H t u m ∧ m.Ok ∧
  ∀ H', Keep x H H' → H' x = some (.ins C dx (mfs m.n t u)) → Q .non H'
def sp_machine (K : PySem.W.Frag) (C : Addr) : Sp := fun vs H Q _ => ∃ (d : Addr) (m : MD), vs = [.ref d] ∧ DAt K H d m ∧ m.Ok ∧ ∀ x H', Same H H' → H x = none → MAt K C H' x m → Q (.ref x) H'
section
variable {P : Program} {w : World} {K : PySem.W.Frag} {mg : Str → Option Value} {base : Heap}
theorem ok_is_step (T : Txt K mg) : FnOk P w K mg base (L2.CX P w) 4 T.a_is_step T.fd_is_step ["stands", "value"] (sp_is_step K) := by
  refine T.F_is_step.okX sc_is_step (fun vs H Q E h => ?_) (fun cdv A outer s H vs Q E hr h => ?_)
  · obtain ⟨n, p, s, rfl, _⟩ := h
    rfl
  · obtain ⟨n, p, t, rfl, hp, o, k⟩ := h
    refine ⟨_, (PSs.nox (pss_cons (ps_if (PW.pt (pw_or (pt_not (pt_val (pe_callB call_isi (by rfl) T.z_isinstance (by decide +kernel) (pa_cons (pv 1) (pa_cons (pe_bltn (v := .ty "tuple") (by rfl) T.z_tuple (by decide +kernel) rfl) pa_nil))))) (pw_or1 (pt_cmpR op_ne (pe_callB call_len_seq (by rfl) T.z_len PySem.boot_len (pa_cons (pv 1) pa_nil)) pe_int (nomark _)))))
  (pss_one (ps_ret pe_bl))
  pss_nil)
  (pss_cons (ps_asg (pv 1) (pg_tup rfl (pgs_cons (pg_name (i := 2) sc_is_step.nd rfl (Or.inl rfl)) (pgs_cons (pg_name (i := 3) sc_is_step.nd rfl (Or.inl rfl)) (pgs_cons (pg_name (i := 4) sc_is_step.nd rfl (Or.inl rfl)) (pgs_cons (pg_name (i := 5) sc_is_step.nd rfl (Or.inl rfl)) pgs_nil))))))
  (pss_one (ps_ret (pe_and (pe_call (ok_is_stand T) (hr.mono (by decide)) (by rfl) T.m_is_stand T.k_is_stand T.b_is_stand .nil passL (pa_cons (pv 0) (pa_cons (pv 2) pa_nil))) (pe_and (pe_cmpR op_in_seq (pv 3) (pe_glob (by rfl) T.m_LETTERS T.r_LETTERS) (by rfl)) (pe_and (pe_call (ok_is_stand T) (hr.mono (by decide)) (by rfl) T.m_is_stand T.k_is_stand T.b_is_stand .nil passL (pa_cons (pv 0) (pa_cons (pv 4) pa_nil))) (pe_one (pe_call (ok_is_integer_between T) (hr.mono (by decide)) (by rfl) T.m_is_integer_between T.k_is_integer_between T.b_is_integer_between .nil passL (pa_cons (pv 5) (pa_cons (pe_un un_neg (pe_glob (by rfl) T.m_MOST_GAIN T.r_MOST_GAIN)) (pa_cons (pe_glob (by rfl) T.m_MOST_GAIN T.r_MOST_GAIN) pa_nil))))))))))))), ?_⟩
    walk_at "begin"
    walk_at "go"
    refine k_isi (.ty _) (ty_tup hp) (kit_ty (b := "tuple") (r := true) (by decide +kernel)) ?_
    walk_at "go"
    refine iteF ?_
    walk_at "go"
    refine k_len (.inr hp) ?_
    walk_at "go"
    refine iteF ?_
    walk_at "go"
    refine k_gt hp rfl ?_
    unfold stpV
    walk_at "go"
    refine ⟨_, _, rfl, .inl ⟨_, rfl, ?_⟩⟩
    rw [decide_eq_true (show 0 ≤ ((t.b : Nat) : Int) ∧ ((t.b : Nat) : Int) < (n : Nat) from ⟨Int.natCast_nonneg _, by have := o.b; omega⟩)]
    walk_at "go"
    refine iteT ?_
    walk_at "go"
    refine k_in (.inr (T.s_LETTERS _)) rfl (by decide) ?_
    rw [letter_in o.c o.c']
    walk_at "go"
    refine iteT ?_
    walk_at "go"
    refine ⟨_, _, rfl, .inl ⟨_, rfl, ?_⟩⟩
    rw [decide_eq_true (show 0 ≤ ((t.e : Nat) : Int) ∧ ((t.e : Nat) : Int) < (n : Nat) from ⟨Int.natCast_nonneg _, by have := o.e; omega⟩)]
    walk_at "go"
    refine iteT ?_
    walk_at "go"
    refine ⟨_, _, _, rfl, .inl ⟨_, rfl, ?_⟩⟩
    rw [decide_eq_true (show -1000000000000000000000000000000 ≤ t.g ∧ t.g ≤ 1000000000000000000000000000000 from ⟨by have := o.g; omega, by have := o.g'; omega⟩)]
    exact k
theorem ok_check_steps (T : Txt K mg) : FnOk P w K mg base (L2.CX P w) 5 T.a_check_steps T.fd_check_steps ["stands", "steps"] (sp_check_steps K) := by
  refine T.F_check_steps.okX sc_check_steps (fun vs H Q E h => ?_) (fun cdv A outer s H vs Q E hr h => ?_)
  · obtain ⟨t, us, m, rfl, _⟩ := h
    rfl
  · obtain ⟨t, us, m, rfl, ht, hs, o, k⟩ := h
    refine ⟨_, (PSs.nox (pss_cons (ps_if (pt_not (pt_val (pe_callB call_isi (by rfl) T.z_isinstance (by decide +kernel) (pa_cons (pv 1) (pa_cons (pe_bltn (v := .ty "tuple") (by rfl) T.z_tuple (by decide +kernel) rfl) pa_nil)))))
  (pss_one ps_never)
  pss_nil)
  (pss_one (ps_for PassesOwn.never rfl (pi_enumT (by rfl) T.z_enumerate (pa_cons (pv 1) pa_nil)) (pg_tup rfl (pgs_cons (pg_name (i := 2) sc_check_steps.nd rfl (Or.inl rfl)) (pgs_cons (pg_name (i := 3) sc_check_steps.nd rfl (Or.inl rfl)) pgs_nil)))
  (pss_cons (ps_if (pt_not (pt_val (pe_call (ok_is_step T) (hr.mono (by decide)) (by rfl) T.m_is_step T.k_is_step T.b_is_step .nil passL (pa_cons (pv 0) (pa_cons (pv 3) pa_nil)))))
  (pss_one ps_never)
  pss_nil)
  (pss_one (ps_if (PW.pt (pw_and (pt_cmpR op_gt (pv 2) pe_int (nomark _)) (pw_and1 (pt_cmpR (op_le2 hr.units0) (pe_slice sl_tupA (pv 3) po_none (po_some pe_int)) (pe_slice sl_tupA (pe_ix ix_tup (pv 1) (pe_op op_sub (pv 2) pe_int) (fun _ _ => rfl)) po_none (po_some pe_int)) (nomark _)))))
  (pss_one ps_never)
  pss_nil))))))), ?_⟩
    walk_at "begin"
    walk_at "go"
    refine k_isi (.ty _) (ty_tup ht) (kit_ty (b := "tuple") (r := true) (by decide +kernel)) ?_
    walk_at "go"
    refine iteF ?_
    walk_at "go"
    refine ⟨_, rfl, t, us, rfl, ht, for_enumT (xs := us) (fun i σ H' => Same H H' ∧ ∃ a b, σ = [some (.int (m.n : Nat)), some (.ref t), a, b]) ⟨Same.refl _, _, _, rfl⟩ (fun i σ H' _ ⟨z, _⟩ => (same_tups z).sq ht) ?_ ?_⟩
    · rintro i x p σ H1 hx ⟨z, a, b, rfl⟩ hp
      have il : i < m.ss.length := by rw [← hs.1]; exact (List.getElem?_eq_some_iff.mp hx).1
      obtain ⟨q, eq, hq⟩ := hs.2 i _ (List.getElem?_eq_getElem il)
      rw [hx] at eq
      cases eq
      have z1 : Same H (upd H1 p (.tup [.int (i : Nat), .ref q])) := z.trans (Same.new hp)
      have hq1 := (same_tups z1).sq hq
      have ok1 := o.ok _ (List.getElem_mem il)
      refine k_gt (SqT.of upd_same) rfl ?_
      walk_at "go"
      refine ⟨m.n, q, _, rfl, hq1, ok1, ?_⟩
      walk_at "go"
      refine iteF ?_
      walk_at "go"
      refine k_ite (fun c => ?_) (fun c => iteF ?_)
      · walk_at "go"
        have jl : i - 1 < m.ss.length := by omega
        obtain ⟨q2, eq2, hq2⟩ := hs.2 (i - 1) _ (List.getElem?_eq_getElem jl)
        refine k_slA2 hq1 fun p1 n1 => ?_
        have z2 := z1.trans (Same.new (o := .tup [.int ((m.ss[i]'il).b : Nat), .str ⟨#[(m.ss[i]'il).c]⟩]) n1)
        walk_at "go"
        refine k_ixT ((same_tups z2).sq ht) (v := .ref q2) (at_of (j := i - 1) (by omega) eq2) ?_
        walk_at "go"
        refine k_slA2 ((same_tups z2).sq hq2) fun p2 n2 => ?_
        have z3 := z2.trans (Same.new (o := .tup [.int ((m.ss[i - 1]'jl).b : Nat), .str ⟨#[(m.ss[i - 1]'jl).c]⟩]) n2)
        refine ⟨p1, p2, _, _, _, _, rfl, rfl, SqT.of (Same.new n2 _ _ upd_same), SqT.of upd_same, ?_⟩
        · have up := List.pairwise_iff_getElem.mp o.up (i - 1) i jl il (by omega)
          rw [le2_no up]
          walk_at "go"
          refine iteF ?_
          walk_at "go"
          exact ⟨z3, _, _, rfl⟩
      · walk_at "go"
        exact ⟨z1, _, _, rfl⟩
    · rintro σ H1 ⟨z, _⟩
      exact k H1 z
theorem ok_is_ascending (T : Txt K mg) : FnOk P w K mg base (L2.CX P w) 3 T.a_is_ascending T.fd_is_ascending ["value", "many"] (sp_asc K) := by
  refine T.F_is_ascending.okX sc_is_ascending (fun vs H Q E h => ?_) (fun cdv A outer s H vs Q E hr h => ?_)
  · obtain ⟨v, n, rfl, _⟩ := h
    rfl
  · obtain ⟨v, n, rfl, h⟩ := h
    refine ⟨_, (PSs.nox (pss_cons (ps_if (pt_not (pt_val (pe_callB call_isi (by rfl) T.z_isinstance (by decide +kernel) (pa_cons (pv 0) (pa_cons (pe_bltn (v := .ty "tuple") (by rfl) T.z_tuple (by decide +kernel) rfl) pa_nil)))))
  (pss_one (ps_ret pe_bl))
  pss_nil)
  (pss_cons (ps_set (i := 2) sc_is_ascending.nd rfl (Or.inl rfl) pe_int)
  (pss_cons (ps_for PassesOwn.never rfl (pi_tup (pv 0)) (pg_name (i := 3) sc_is_ascending.nd rfl (Or.inl rfl))
  (pss_cons (ps_if (pt_not (pt_val (pe_call (ok_is_integer_between T) (hr.mono (by decide)) (by rfl) T.m_is_integer_between T.k_is_integer_between T.b_is_integer_between .nil passL (pa_cons (pv 3) (pa_cons (pv 2) (pa_cons (pe_op op_sub (pv 1) pe_int) pa_nil))))))
  (pss_one (ps_ret pe_bl))
  pss_nil)
  (pss_one (ps_set (i := 2) sc_is_ascending.nd rfl (Or.inl rfl) (pe_op op_add (pv 3) pe_int)))))
  (pss_one (ps_ret pe_bl)))))), ?_⟩
    walk_at "begin"
    walk_at "go"
    rcases h with ⟨ty, h1, h2, k⟩ | ⟨t, xs, rfl, ht, hx, k⟩
    · refine k_isi (.ty _) h1 h2 ?_
      walk_at "go"
      refine iteT ?_
      walk_at "go"
      exact k
    · refine k_isi (.ty _) (ty_tup ht) (kit_ty (b := "tuple") (r := true) (by decide +kernel)) ?_
      walk_at "go"
      refine iteF ?_
      walk_at "go"
      refine ⟨t, rfl, ⟨_, ht⟩, ?_⟩
      refine for_tup (xs := xs) (fun i σ H' => H' = H ∧ ∃ (l : Int) (a : Option V), σ = [some (.ref t), some (.int n), some (.int l), a] ∧ ascV n 0 xs = ascV n l (xs.drop i)) ⟨rfl, 0, _, rfl, rfl⟩ (fun i σ H' _ ⟨e, _⟩ => by rw [e]; exact ht) ?_ ?_
      · rintro i x σ H1 hx1 ⟨rfl, l, a, rfl, eq⟩
        have il : i < xs.length := (List.getElem?_eq_some_iff.mp hx1).1
        have dr : xs.drop i = x :: xs.drop (i + 1) := by rw [List.drop_eq_getElem_cons il, (List.getElem?_eq_some_iff.mp hx1).2]
        rw [dr] at eq
        walk_at "go"
        rcases hx x (List.mem_of_getElem? hx1) with ⟨j, rfl⟩ | ⟨ni, nj⟩
        · refine ⟨_, _, _, rfl, .inl ⟨j, rfl, ?_⟩⟩
          by_cases c : l ≤ j ∧ j ≤ n - 1
          · rw [decide_eq_true c]
            walk_at "go"
            refine iteF ?_
            walk_at "go"
            refine ⟨rfl, _, _, rfl, ?_⟩
            rw [eq]
            show (decide (l ≤ j ∧ j ≤ n - 1) && ascV n (j + 1) (xs.drop (i + 1))) = _
            rw [decide_eq_true c]
            rfl
          · rw [decide_eq_false c]
            walk_at "go"
            refine iteT ?_
            walk_at "go"
            have e2 : ascV n 0 xs = false := by
              rw [eq]
              show (decide (l ≤ j ∧ j ≤ n - 1) && ascV n (j + 1) (xs.drop (i + 1))) = _
              rw [decide_eq_false c]
              rfl
            rw [e2] at k
            exact k
        · refine ⟨_, _, _, rfl, .inr ⟨ni, ?_⟩⟩
          walk_at "go"
          refine iteT ?_
          walk_at "go"
          have e2 : ascV n 0 xs = false := by
            rw [eq]
            exact ascV_odd nj
          rw [e2] at k
          exact k
      · rintro σ H1 ⟨rfl, l, a, rfl, eq⟩
        rw [List.drop_length] at eq
        rw [eq] at k
        walk_at "go"
        exact k
theorem ok_check_ends (T : Txt K mg) : FnOk P w K mg base (L2.CX P w) 4 T.a_check_ends T.fd_check_ends ["stands", "ends"] (sp_check_ends K) := by
  refine T.F_check_ends.okX sc_check_ends (fun vs H Q E h => ?_) (fun cdv A outer s H vs Q E hr h => ?_)
  · obtain ⟨t, m, rfl, _⟩ := h
    rfl
  · obtain ⟨t, m, rfl, ht, o, k⟩ := h
    refine ⟨_, (PSs.nox (pss_one (ps_if (pt_not (pt_val (pe_call (ok_is_ascending T) (hr.mono (by decide)) (by rfl) T.m_is_ascending T.k_is_ascending T.b_is_ascending .nil passL (pa_cons (pv 1) (pa_cons (pv 0) pa_nil)))))
  (pss_one ps_never)
  pss_nil))), ?_⟩
    walk_at "begin"
    walk_at "go"
    refine ⟨_, _, rfl, .inr ⟨t, _, rfl, ht, fun x h => ?_, ?_⟩⟩
    · obtain ⟨e, _, rfl⟩ := List.mem_map.mp h
      exact .inl ⟨_, rfl⟩
    rw [show ascV (m.n : Nat) 0 (nats m.es) = true from ascV_nats (l := 0) (fun e h => o.eb e h) o.eu (fun _ _ => Nat.zero_le _)]
    walk_at "go"
    refine iteF ?_
    walk_at "go"
    exact k H (Same.refl _)
theorem ok_Machine_init (T : Txt K mg) : FnOk P w K mg base (L2.CX P w) 6 T.a_Machine_init T.fd_Machine_init ["self", "stands", "steps", "ends"] (sp_init K T.c_Machine) := by
  refine T.F_Machine_init.okX sc_Machine_init (fun vs H Q E h => ?_) (fun cdv A outer s H vs Q E hr h => ?_)
  · obtain ⟨x, dx, t, u, m, rfl, _⟩ := h
    rfl
  · obtain ⟨x, dx, t, u, m, rfl, hx, ⟨⟨us, ht, hs⟩, hu⟩, o, k⟩ := h
    refine ⟨_, (PSs.nox (pss_cons (ps_expr (pe_call (ok_check_stands T) (hr.mono (by decide)) (by rfl) T.m_check_stands T.k_check_stands T.b_check_stands .nil passL (pa_cons (pv 1) pa_nil)))
  (pss_cons (ps_expr (pe_call (ok_check_steps T) (hr.mono (by decide)) (by rfl) T.m_check_steps T.k_check_steps T.b_check_steps .nil passL (pa_cons (pv 1) (pa_cons (pv 2) pa_nil))))
  (pss_cons (ps_expr (pe_call (ok_check_ends T) (hr.mono (by decide)) (by rfl) T.m_check_ends T.k_check_ends T.b_check_ends .nil passL (pa_cons (pv 1) (pa_cons (pv 3) pa_nil))))
  (pss_cons (ps_fld (pv 0) (pv 1) rfl)
  (pss_cons (ps_fld (pv 0) (pv 2) rfl)
  (pss_one (ps_fld (pv 0) (pv 3) rfl)))))))), ?_⟩
    walk_at "begin"
    walk_at "go"
    refine ⟨_, rfl, by have := o.n1; omega, by have := o.n8; omega, ?_⟩
    walk_at "go"
    refine ⟨t, us, m, rfl, ht, hs, o, fun H1 z1 => ?_⟩
    walk_at "go"
    refine ⟨u, m, rfl, (same_tups z1).sq hu, o, fun H2 z2 => ?_⟩
    walk_at "go"
    have e2 : H2 x = some (.ins T.c_Machine dx []) := z2 _ _ (z1 _ _ hx)
    refine ⟨_, rfl, _, rfl, x, _, dx, _, rfl, e2, T.cl_Machine, T.n__stands, (by decide : 0 < 1000), ?_⟩
    refine ⟨_, rfl, _, rfl, x, _, dx, _, rfl, upd_same, T.cl_Machine, T.n__steps, few 1 (by decide) (length_putF _ _ _), ?_⟩
    refine ⟨_, rfl, _, rfl, x, _, dx, _, rfl, upd_same, T.cl_Machine, T.n__ends, few 2 (by decide) (Nat.le_trans (length_putF _ _ _) (Nat.succ_le_succ (length_putF _ _ _))), ?_⟩
    refine k _ (((Keep.of_same (z1.trans z2)).trans Keep.at_).trans (Keep.at_.trans Keep.at_)) ?_
    rw [upd_same]
    rfl
theorem ok_law_machine (T : Txt K mg) : FnOk P w K mg base (L2.CX P w) 8 T.a_law_machine T.fd_law_machine ["_law_d"] (sp_machine K T.c_Machine) := by
  refine T.F_law_machine.okX sc_law_machine (fun vs H Q E h => ?_) (fun cdv A outer s H vs Q E hr h => ?_)
  · obtain ⟨d, m, rfl, _⟩ := h
    rfl
  · obtain ⟨d, m, rfl, ⟨t, u, hd, hp⟩, o, k⟩ := h
    refine ⟨_, (PSs.nox (pss_one (ps_ret (pe_make T.mk_Machine (ok_Machine_init T) (hr.mono (by decide)) (by rfl) T.m_Machine T.b_Machine_init .nil passL (pa_cons (pe_dget (hu_of hr) (pv 0) pe_str (fun _ _ => rfl)) (pa_cons (pe_dget (hu_of hr) (pv 0) pe_str (fun _ _ => rfl)) (pa_cons (pe_dget (hu_of hr) (pv 0) pe_str (fun _ _ => rfl)) pa_nil))))))), ?_⟩
    walk_at "begin"
    walk_at "go"
    refine ⟨d, .int (m.n : Nat), rfl, DGet.k (k := .inr "stands") hd, ?_⟩
    walk_at "go"
    refine ⟨d, .ref t, rfl, DGet.k (k := .inr "steps") hd, ?_⟩
    walk_at "go"
    refine ⟨d, .ref u, rfl, DGet.k (k := .inr "ends") hd, ?_⟩
    walk_at "go"
    intro x dx hx hdx ne
    refine ⟨x, dx, t, u, m, rfl, upd_same, (same_tups ((Same.new hdx).trans (Same.new ?_))).parts hp, o, fun H' z e => ⟨rfl, ?_⟩⟩
    · rw [upd_ne ne.symm]; exact hx
    · have zz : Same H H' := fun b ob eb => z b ob (ne_of_none eb hx) (by rw [upd_ne (ne_of_none eb hx), upd_ne (ne_of_none eb hdx)]; exact eb)
      exact k x H' zz hx ⟨dx, t, u, e, (same_tups zz).parts hp⟩
end
/-! ### steps in a tuple or in a list -/
def SqS (K : PySem.W.Frag) (H : Hp) (a : Addr) (xs : List V) : Prop := SqT K H a xs ∨ SqL K H a xs
theorem SqS.same {K : PySem.W.Frag} {H H' : Hp} {a : Addr} {xs : List V} (h : SqS K H a xs) (z : Same H H') : SqS K H' a xs := h.imp (fun h => (same_tups z).sq h) fun h => z.seq h
def StSq (K : PySem.W.Frag) (H : Hp) (t : Addr) (ss : List Stp) : Prop := ∃ us, SqS K H t us ∧ StpsAt K H us ss
theorem StSq.of {K : PySem.W.Frag} {H : Hp} {t : Addr} {ss : List Stp} (h : StAt K H t ss) : StSq K H t ss := let ⟨us, a, b⟩ := h; ⟨us, .inl a, b⟩
theorem StSq.same {K : PySem.W.Frag} {H H' : Hp} {t : Addr} {ss : List Stp} (h : StSq K H t ss) (z : Same H H') : StSq K H' t ss := let ⟨us, a, b⟩ := h; ⟨us, a.same z, (same_tups z).steps b⟩
def iSq (K : PySem.W.Frag) (tl : TE) : TI := fun σ H R => iTup K tl σ H R ∨ iList K tl σ H R
theorem pi_sq {X : L2.Cx} {tg l : Expr} {tl : TE} (hl : PE X l tl) : PI X tg l (iSq X.K tl) := ⟨fun pins s σ H R I h => h.elim ((pi_tup hl).run pins s σ H R I) ((pi_list hl).run pins s σ H R I)⟩
theorem for_sq {K : PySem.W.Frag} {t : Addr} {xs : List V} {j : Nat} {g : TG} {tb : TS} {D : Ends} {σ : L2.St} {H Hb : Hp} (e : σ[j]? = some (some (.ref t))) (hx : SqS K Hb t xs) (Pv : Nat → L2.St → Hp → Prop) (h0 : Pv 0 σ H) (hl : ∀ i σ H, Pv i σ H → Same Hb H)
    (hs : ∀ i x σ H, xs[i]? = some x → Pv i σ H → g x σ H fun σ2 H2 => tb { D with nx := Pv (i + 1), ct := Pv (i + 1), bk := D.nx } σ2 H2) (hd : ∀ σ H, Pv xs.length σ H → D.nx σ H) :
    iSq K (tVar j) σ H fun J H1 => ∃ W : Nat → Nat → L2.St → Hp → Prop, (∃ m, W 0 m σ H1) ∧ ∀ i m σ H, W i m σ H →
      (J.stop i H ∧ D.nx σ H) ∨ (J.go i H ∧ ∃ N : L2.St → Hp → Prop, (∀ σ' H', N σ' H' → ∃ m', m' < m ∧ W (i + 1) m' σ' H') ∧ ∀ x H', J.yld i H x H' → g x σ H' fun σ2 H2 => tb { D with nx := N, ct := N, bk := D.nx } σ2 H2) := by
  have z0 := hl _ _ _ h0
  rcases hx with hx | hx
  · exact .inl (k_var e ⟨t, rfl, ⟨xs, (same_tups z0).sq hx⟩, for_tup Pv h0 (fun i σ H _ p => (same_tups (hl _ _ _ p)).sq hx) hs hd⟩)
  · exact .inr (k_var e ⟨t, rfl, ⟨xs, z0.seq hx⟩, for_list Pv h0 (fun i σ H _ p => (hl _ _ _ p).seq hx) hs hd⟩)
/-! ### the drawn machines -/
def sp_parts (K : PySem.W.Frag) : Sp := fun vs H Q _ => ∃ (a : Addr) (st : Nat) (sz : Int), vs = [.ref a, .int (st : Nat), .int sz] ∧ 1 ≤ st ∧ st ≤ 8 ∧ 0 ≤ sz ∧ 2 * sz + 1 ≤ 10 ^ 30 ∧ RowOk K H a ∧
  ∀ (d : Addr) (m : MD) (H' : Hp), m.Ok → m.n ≤ st → (∀ s ∈ m.ss, -(2 * sz + 1) ≤ s.g ∧ s.g ≤ 2 * sz + 1) → DAt K H' d m → RowOk K H' a → Keep a H H' → H d = none → Q (.ref d) H'
theorem abcd_cut {k : Nat} (h1 : 1 ≤ k) (h4 : k ≤ 4) : cutS "abcd" none (some ((k : Nat) : Int)) = ⟨(([97, 98, 99, 100] : List Nat).take k).toArray⟩ := by
  have z : k = 1 ∨ k = 2 ∨ k = 3 ∨ k = 4 := by omega
  rcases z with rfl | rfl | rfl | rfl <;> decide
theorem abcd_at {k j c : Nat} (h : (([97, 98, 99, 100] : List Nat).take k).toArray[j]? = some c) : c = 97 + j ∧ j < 4 := by
  rw [List.getElem?_toArray, List.getElem?_take] at h
  split at h
  · match j, h with
    | 0, h => simp at h; omega
    | 1, h => simp at h; omega
    | 2, h => simp at h; omega
    | 3, h => simp at h; omega
    | n + 4, h => simp at h
  · cases h
/-- the steps so far: of the stands below i, and of i by the first j letters -/
structure Sofar (K : PySem.W.Frag) (H : Hp) (l : Addr) (n : Nat) (sz : Int) (i j : Nat) (ss : List Stp) : Prop where
  at_ : ∃ vs, H l = some (.lst vs) ∧ StpsAt K H vs ss
  ok : ∀ s ∈ ss, s.Ok n
  up : ss.Pairwise Stp.lt
  bd : ∀ s ∈ ss, s.b < i ∨ (s.b = i ∧ s.c < 97 + j)
  gb : ∀ s ∈ ss, -(2 * sz + 1) ≤ s.g ∧ s.g ≤ 2 * sz + 1
  len : ss.length ≤ 4 * i + j
theorem Sofar.keep {K : PySem.W.Frag} {H H' : Hp} {l a : Addr} {n i j : Nat} {sz : Int} {ss : List Stp} {xs : List V} (h : Sofar K H l n sz i j ss) (k : Keep a H H') (ha : H a = some (.lst xs)) (ne : l ≠ a) : Sofar K H' l n sz i j ss :=
  let ⟨vs, e, q⟩ := h.at_
  ⟨⟨vs, k _ _ ne e, (k.tups ha).steps q⟩, h.ok, h.up, h.bd, h.gb, h.len⟩
theorem Sofar.more {K : PySem.W.Frag} {H : Hp} {l : Addr} {n i j j' : Nat} {sz : Int} {ss : List Stp} (h : Sofar K H l n sz i j ss) (e : j ≤ j') : Sofar K H l n sz i j' ss :=
  ⟨h.at_, h.ok, h.up, fun s hs => (h.bd s hs).imp id fun z => ⟨z.1, by omega⟩, h.gb, by have := h.len; omega⟩
theorem Sofar.line {K : PySem.W.Frag} {H : Hp} {l : Addr} {n i j : Nat} {sz : Int} {ss : List Stp} (h : Sofar K H l n sz i j ss) (e : j ≤ 4) : Sofar K H l n sz (i + 1) 0 ss :=
  ⟨h.at_, h.ok, h.up, fun s hs => .inl (by rcases h.bd s hs with z | z <;> omega), h.gb, by have := h.len; omega⟩
theorem Sofar.snoc {K : PySem.W.Frag} {H : Hp} {l p : Addr} {n i j e : Nat} {sz g : Int} {ss : List Stp} (h : Sofar K H l n sz i j ss) (hp : H p = none) (hi : i < n) (hj : j < 4) (he : e < n) (z1 : 2 * sz + 1 ≤ 10 ^ 30)
    (g1 : -(2 * sz + 1) ≤ g) (g2 : g ≤ 2 * sz + 1) : ∀ vs, H l = some (.lst vs) →
    Sofar K (upd (upd H p (.tup (stpV ⟨i, 97 + j, e, g⟩))) l (.lst (vs ++ [.ref p]))) l n sz i (j + 1) (ss ++ [⟨i, 97 + j, e, g⟩]) := fun vs ev => by
  obtain ⟨vs', e', q⟩ := h.at_
  rw [ev] at e'
  cases e'
  have np : l ≠ p := ne_of_none ev hp
  have t1 : Tups H (upd H p (.tup (stpV ⟨i, 97 + j, e, g⟩))) := Tups.new hp
  have el : (upd H p (.tup (stpV ⟨i, 97 + j, e, g⟩))) l = some (.lst vs) := by rw [upd_ne np]; exact ev
  have t2 := Tups.lst (o := .lst (vs ++ [.ref p])) el
  have mem : ∀ s, s ∈ ss ++ [(⟨i, 97 + j, e, g⟩ : Stp)] → s ∈ ss ∨ s = ⟨i, 97 + j, e, g⟩ := fun s hs => by simpa using hs
  refine ⟨⟨_, upd_same, (t2.steps ((t1.steps q).snoc (SqT.of upd_same)))⟩, fun s hs => ?_, ?_, fun s hs => ?_, fun s hs => ?_, ?_⟩
  · rcases mem s hs with hs | rfl
    · exact h.ok s hs
    · exact ⟨hi, by show 97 ≤ 97 + j; omega, by show 97 + j ≤ 100; omega, he, by show -(10 ^ 30) ≤ g; omega, by show g ≤ 10 ^ 30; omega⟩
  · refine List.pairwise_append.mpr ⟨h.up, List.pairwise_singleton _ _, fun s hs t ht => ?_⟩
    have ht' : t = ⟨i, 97 + j, e, g⟩ := by simpa using ht
    subst ht'
    rcases h.bd s hs with z | ⟨z, z'⟩
    · exact .inl z
    · exact .inr ⟨z, z'⟩
  · rcases mem s hs with hs | rfl
    · rcases h.bd s hs with z | ⟨z, z'⟩
      · exact .inl z
      · exact .inr ⟨z, by omega⟩
    · exact .inr ⟨rfl, by show 97 + j < 97 + (j + 1); omega⟩
  · rcases mem s hs with hs | rfl
    · exact h.gb s hs
    · exact ⟨g1, g2⟩
  · rw [List.length_append, List.length_singleton]
    have := h.len
    omega
section
variable {P : Program} {w : World} {K : PySem.W.Frag} {mg : Str → Option Value} {base : Heap}
theorem ok_law_parts (T : Txt K mg) : FnOk P w K mg base (L2.CX P w) 2 T.a_law_parts T.fd_law_parts ["_law_row", "_law_stands", "_law_size"] (sp_parts K) := by
  refine T.F_law_parts.okX sc_law_parts (fun vs H Q E h => ?_) (fun cdv A outer s H vs Q E hr h => ?_)
  · obtain ⟨a, st, sz, rfl, _⟩ := h
    rfl
  · obtain ⟨a, st, sz, rfl, st1, st8, sz0, sz1, R0, k⟩ := h
    refine ⟨_, (PSs.nox (pss_cons (ps_par (i := 3) (j := 4) (by rfl) sc_law_parts.nd rfl rfl (by decide) rfl rfl (pa_cons (pe_op op_add pe_int (pe_call (ok_law_taken T) (hr.mono (by decide)) (by rfl) T.m_law_taken T.k_law_taken T.b_law_taken .nil passL (pa_cons (pv 0) (pa_cons (pv 1) pa_nil)))) (pa_cons (pe_call (ok_law_taken T) (hr.mono (by decide)) (by rfl) T.m_law_taken T.k_law_taken T.b_law_taken .nil passL (pa_cons (pv 0) (pa_cons pe_int pa_nil))) pa_nil)) (by rfl))
  (pss_cons (ps_setLc (i := 5) (own := [("_law_stand", 13)]) (g := (gName 13)) (tt := tYes) rfl sc_law_parts.nd rfl rfl (sw_true rfl rfl rfl (by decide +kernel)) (pi_range1 (by rfl) T.z_range (pa_cons (pv 3) pa_nil)) (blkOk_by (own := [("_law_stand", 13)]) (N := ["_law_row", "_law_stands", "_law_size", "_law_many", "_law_kind", "_law_heights", "_law_steps", "_law_letters", "_law_begun", "_law_letter", "_law_end", "_law_gain", "_law_ends", "_law_stand"]) (sc := defScope s_law_parts) (by decide +kernel)) (fun _ _ _ _ _ => (pg_name (i := 13) sc_law_parts.nd rfl (Or.inl rfl))) (fun _ _ _ _ _ => pts_nil) (fun _ _ _ _ _ => (pe_op op_sub (pe_call (ok_law_taken T) (hr.mono (by decide)) (by rfl) T.m_law_taken T.k_law_taken T.b_law_taken .nil passL (pa_cons (pv 0) (pa_cons (pe_op op_add (pe_op op_mulW pe_int (pv 2)) pe_int) pa_nil))) (pv 2))))
  (pss_cons (ps_par (i := 6) (j := 7) (by rfl) sc_law_parts.nd rfl rfl (by decide) rfl rfl (pa_cons (pe_lst pa_nil) (pa_cons (pe_slice sl_str pe_str po_none (po_some (pe_op op_add pe_int (pe_call (ok_law_taken T) (hr.mono (by decide)) (by rfl) T.m_law_taken T.k_law_taken T.b_law_taken .nil passL (pa_cons (pv 0) (pa_cons pe_int pa_nil)))))) pa_nil)) (by rfl))
  (pss_cons (ps_for PassesOwn.never rfl (pi_range1 (by rfl) T.z_range (pa_cons (pv 3) pa_nil)) (pg_name (i := 8) sc_law_parts.nd rfl (Or.inl rfl))
  (pss_one (ps_for PassesOwn.never rfl (pi_str (pv 7)) (pg_name (i := 9) sc_law_parts.nd rfl (Or.inl rfl))
  (pss_one (ps_if (pt_cmpR op_gt (pe_call (ok_law_taken T) (hr.mono (by decide)) (by rfl) T.m_law_taken T.k_law_taken T.b_law_taken .nil passL (pa_cons (pv 0) (pa_cons pe_int pa_nil))) pe_int (nomark _))
  (pss_cons (ps_set (i := 10) sc_law_parts.nd rfl (Or.inl rfl) (pe_call (ok_law_taken T) (hr.mono (by decide)) (by rfl) T.m_law_taken T.k_law_taken T.b_law_taken .nil passL (pa_cons (pv 0) (pa_cons (pv 3) pa_nil))))
  (pss_cons (ps_set (i := 11) sc_law_parts.nd rfl (Or.inl rfl) (pe_op op_sub (pe_ix ix_list (pv 5) (pv 10) (fun _ _ => rfl)) (pe_ix ix_list (pv 5) (pv 8) (fun _ _ => rfl))))
  (C8.pss_cut (ps_if (PW.pt (pw_or (PW.pt (pw_and (pt_cmpR op_eq (pv 4) pe_int (nomark _)) (pw_and1 (pt_cmpR op_eq (pe_call (ok_law_taken T) (hr.mono (by decide)) (by rfl) T.m_law_taken T.k_law_taken T.b_law_taken .nil passL (pa_cons (pv 0) (pa_cons pe_int pa_nil))) pe_int (nomark _))))) (pw_or1 (pt_cmpR op_eq (pv 4) pe_int (nomark _)))))
  (pss_one (ps_set (i := 11) sc_law_parts.nd rfl (Or.inl rfl) (pe_op op_sub (pe_call (ok_law_taken T) (hr.mono (by decide)) (by rfl) T.m_law_taken T.k_law_taken T.b_law_taken .nil passL (pa_cons (pv 0) (pa_cons (pe_op op_add (pe_op op_mulW pe_int (pv 2)) pe_int) pa_nil))) (pv 2))))
  pss_nil)
  (C8.pss_cut (ps_if (PW.pt (pw_and (pt_cmpR op_eq (pv 4) pe_int (nomark _)) (pw_and1 (pt_cmpR op_eq (pe_call (ok_law_taken T) (hr.mono (by decide)) (by rfl) T.m_law_taken T.k_law_taken T.b_law_taken .nil passL (pa_cons (pv 0) (pa_cons pe_int pa_nil))) pe_int (nomark _)))))
  (pss_one (ps_set (i := 11) sc_law_parts.nd rfl (Or.inl rfl) (pe_op op_add (pv 11) pe_int)))
  pss_nil)
  (pss_one (ps_expr (pe_bm PySem.F.plainAttrs_list PySem.F.slot_list_append PySem.F.type_list_append mt_append (pv 6) (pa_cons (pe_tup (pa_cons (pv 8) (pa_cons (pv 9) (pa_cons (pv 10) (pa_cons (pv 11) pa_nil))))) pa_nil))))))))
  pss_nil)))))
  (pss_cons (ps_set (i := 12) sc_law_parts.nd rfl (Or.inl rfl) (pe_callTy call_tuple_of (by rfl) T.z_tuple PySem.Pv.boot_tuple (pa_cons (pe_lc (own := [("_law_stand", 13)]) (g := (gName 13)) rfl sc_law_parts.nd (pi_range1 (by rfl) T.z_range (pa_cons (pv 3) pa_nil)) (blkOk_by (own := [("_law_stand", 13)]) (N := ["_law_row", "_law_stands", "_law_size", "_law_many", "_law_kind", "_law_heights", "_law_steps", "_law_letters", "_law_begun", "_law_letter", "_law_end", "_law_gain", "_law_ends", "_law_stand"]) (sc := defScope s_law_parts) (by decide +kernel)) (fun _ _ _ _ _ => (pg_name (i := 13) sc_law_parts.nd rfl (Or.inl rfl))) (fun _ _ _ _ _ => (pts_one (pt_cmpR op_eq (pe_call (ok_law_taken T) (hr.mono (by decide)) (by rfl) T.m_law_taken T.k_law_taken T.b_law_taken .nil passL (pa_cons (pv 0) (pa_cons pe_int pa_nil))) pe_int (nomark _)))) (fun _ _ _ _ _ => (pv 13))) pa_nil)))
  (pss_one (ps_ret (pe_disp (pps_cons pe_str (pv 3) (pps_cons pe_str (pe_callTy call_tuple_of (by rfl) T.z_tuple PySem.Pv.boot_tuple (pa_cons (pv 6) pa_nil)) (pps_cons pe_str (pv 12) pps_nil))) (by rfl) (by rfl) (fun z => by cases z) (by decide)))))))))), ?_⟩
    walk_at "begin"
    walk_at "go"
    refine ⟨a, _, rfl, by omega, by omega, R0, fun x1 H1 x1a x1b R1 K1 => ?_⟩
    obtain ⟨y, rfl⟩ := Int.eq_ofNat_of_zero_le x1a
    walk_at "go"
    refine ⟨a, 4, rfl, by omega, by decide, R1, fun kind H2 kda kdb R2 K2 => ?_⟩
    walk_at "go"
    have en : (1 + (y : Int)) = ((y + 1 : Nat) : Int) := by omega
    rw [en]
    refine k_rg (by omega) (by omega) fun D hD => ?_
    have K02 := K1.trans K2
    have nD : a ≠ D := R2.ne hD
    have hD0 : H D = none := K02.free nD.symm hD
    have CM : CMulW 2 sz := wide_mul (a := 2) (b := 101) (by decide) (by omega) (by decide) (by decide) (by decide)
    have small : ∀ {hs : List Int} {i : Nat}, hs.length = i → i < 100 → (hs.map V.int).length < sizeLine := fun e q => by
      rw [List.length_map, e]
      exact Nat.lt_trans q (by decide)
    -- the heights
    refine lc_range (lo := 0) (n := (((y + 1 : Nat) : Int)).toNat) (fun i H' => Keep a H H' ∧ RowOk K H' a ∧ ∃ hs : List Int, H' D = some (.lst (hs.map V.int)) ∧ hs.length = i ∧ ∀ h ∈ hs, -sz ≤ h ∧ h ≤ sz)
      ⟨K02.trans (Keep.new hD), R2.same (Same.new hD), [], upd_same, rfl, fun _ h => absurd h (by simp)⟩ ?_ ?_
    · rintro i H3 hi ⟨K3, R3, hs, eD, hl, hb⟩
      walk_at "go"
      refine ⟨rfl, ?_⟩
      walk_at "go"
      refine iteT ?_
      walk_at "go"
      refine k_I CM ?_
      walk_at "go"
      refine ⟨a, _, rfl, by omega, by omega, R3, fun x H4 xa xb R4 K4 => ?_⟩
      walk_at "go"
      have eD4 := K4 _ _ nD.symm eD
      refine ⟨_, eD4, small hl (by omega), (K3.trans K4).mut hD0, R4.keep nD eD4 Keep.at_, hs ++ [x - sz], ?_, ?_, ?_⟩
      · rw [upd_same, List.map_append]; rfl
      · rw [List.length_append, hl]; rfl
      · intro h hh
        rcases List.mem_append.mp hh with hh | hh
        · exact hb h hh
        · have : h = x - sz := by simpa using hh
          omega
    · rintro H3 ⟨K3, R3, hs, eD, hl, hb⟩
      walk_at "go"
      refine ⟨Nat.zero_le _, fun l hl0 => ?_⟩
      have nl : a ≠ l := R3.ne hl0
      have hlH : H l = none := K3.free nl.symm hl0
      have nDl : D ≠ l := ne_of_none eD hl0
      walk_at "go"
      refine ⟨a, 4, rfl, by omega, by decide, R3.same (Same.new hl0), fun x2 H4 xa xb R4 K4 => ?_⟩
      obtain ⟨y2, rfl⟩ := Int.eq_ofNat_of_zero_le xa
      have en2 : (1 + (y2 : Int)) = ((y2 + 1 : Nat) : Int) := by omega
      walk_at "go"
      rw [en2]
      refine k_slS (by decide) ?_
      rw [abcd_cut (by omega) (by omega)]
      walk_at "go"
      refine k_rg (by omega) (by omega) ?_
      have K04 : Keep a H H4 := (K3.trans (Keep.new hl0)).trans K4
      have eD4 : H4 D = some (.lst (hs.map V.int)) := K4 _ _ nD.symm (Keep.new (a := a) hl0 _ _ nD.symm eD)
      have el4 : H4 l = some (.lst []) := K4 _ _ nl.symm upd_same
      clear K3 R3 eD K4
      -- the steps
      obtain ⟨LT, hLT⟩ : ∃ z : Str, z = ⟨(([97, 98, 99, 100] : List Nat).take (y2 + 1)).toArray⟩ := ⟨_, rfl⟩
      rw [← hLT]
      have nat : ∀ z : Nat, ((z : Int)).toNat = z := fun z => rfl
      refine for_range (lo := 0) (n := (((y + 1 : Nat) : Int)).toNat) (fun i σ H' => ∃ ss s8 s9 s10 s11, Keep a H H' ∧ RowOk K H' a ∧ H' D = some (.lst (hs.map V.int)) ∧ Sofar K H' l (y + 1) sz i 0 ss ∧
        σ = [some (.ref a), some (.int (st : Nat)), some (.int sz), some (.int ((y + 1 : Nat) : Int)), some (.int kind), some (.ref D), some (.ref l), some (.str LT), s8, s9, s10, s11, none, none])
        ⟨[], none, none, none, none, K04, R4, eD4, ⟨⟨[], el4, rfl, fun _ _ h => absurd h (by simp)⟩, fun _ h => absurd h (by simp), .nil, fun _ h => absurd h (by simp), fun _ h => absurd h (by simp), Nat.zero_le _⟩, rfl⟩ ?_ ?_
      · rintro i σ H5 hi ⟨ss, s8, s9, s10, s11, K5, R5, eD5, S5, rfl⟩
        walk_at "go"
        refine ⟨_, rfl, for_it walk_str (fun j σ H' => ∃ ss s9 s10 s11, Keep a H H' ∧ RowOk K H' a ∧ H' D = some (.lst (hs.map V.int)) ∧ Sofar K H' l (y + 1) sz i j ss ∧
          σ = [some (.ref a), some (.int (st : Nat)), some (.int sz), some (.int ((y + 1 : Nat) : Int)), some (.int kind), some (.ref D), some (.ref l), some (.str LT), some (.int (0 + (i : Nat))), s9, s10, s11, none, none])
          ⟨ss, s9, s10, s11, K5, R5, eD5, S5, rfl⟩ (fun _ _ _ _ _ => trivial) ?_ ?_⟩
        · rintro j x σ H6 H6' hj ⟨ss, s9, s10, s11, K6, R6, eD6, S6, rfl⟩ ⟨rfl, c, hc, rfl⟩
          have hc' : c = 97 + j ∧ j < 4 := by
            rw [hLT] at hc
            exact abcd_at hc
          obtain ⟨rfl, j4⟩ := hc'
          walk_at "go"
          refine ⟨a, 4, rfl, by omega, by decide, R6, fun x1 H7 _ _ R7 K7 => ?_⟩
          walk_at "go"
          have eD7 := K7 _ _ nD.symm eD6
          obtain ⟨lr, er6⟩ := R6.lst
          have S7 := S6.keep K7 er6 nl.symm
          refine k_ite (fun c1 => ?_) (fun c1 => ?_)
          · walk_at "go"
            refine ⟨a, _, rfl, by omega, by omega, R7, fun x2 H8 x2a x2b R8 K8 => ?_⟩
            obtain ⟨e, rfl⟩ := Int.eq_ofNat_of_zero_le x2a
            have eD8 := K8 _ _ nD.symm eD7
            obtain ⟨lr7, er7⟩ := R7.lst
            have S8 := S7.keep K8 er7 nl.symm
            walk_at "go"
            have le : e < hs.length := by rw [hl, nat]; omega
            have li : i < hs.length := by rw [hl, nat]; omega
            refine k_ixL (SqL.of eD8) (v := .int (hs[e]'le)) (at_of (j := e) rfl (by rw [List.getElem?_map, List.getElem?_eq_getElem le]; rfl)) ?_
            walk_at "go"
            refine k_ixL (SqL.of eD8) (v := .int (hs[i]'li)) (at_of (j := i) (by omega) (by rw [List.getElem?_map, List.getElem?_eq_getElem li]; rfl)) ?_
            have be := hb _ (List.getElem_mem le)
            have bi := hb _ (List.getElem_mem li)
            generalize hs[e]'le = he at be ⊢
            generalize hs[i]'li = hi' at bi ⊢
            walk_at "go"
            have K68 := (K6.trans K7).trans K8
            refine k_cut (fun σ' H' => ∃ g, -(2 * sz) ≤ g ∧ g ≤ 2 * sz ∧ Keep a H H' ∧ RowOk K H' a ∧ H' D = some (.lst (hs.map V.int)) ∧ Sofar K H' l (y + 1) sz i j ss ∧
              σ' = [some (.ref a), some (.int (st : Nat)), some (.int sz), some (.int ((y + 1 : Nat) : Int)), some (.int kind), some (.ref D), some (.ref l), some (.str LT), some (.int (0 + (i : Nat))), some (.str ⟨#[97 + j]⟩), some (.int (e : Nat)), some (.int g), none, none]) ?_ ?_
            · have old : ∀ H', Keep a H8 H' → RowOk K H' a → H' D = some (.lst (hs.map V.int)) ∧ Sofar K H' l (y + 1) sz i j ss := fun H' kk rr => by
                obtain ⟨lr8, er8⟩ := R8.lst
                exact ⟨kk _ _ nD.symm eD8, S8.keep kk er8 nl.symm⟩
              have draw : ∀ H9, Keep a H8 H9 → RowOk K H9 a → ∀ x H10, 0 ≤ x → x < 2 * sz + 1 → RowOk K H10 a → Keep a H9 H10 → -(2 * sz) ≤ x - sz ∧ x - sz ≤ 2 * sz ∧ Keep a H H10 ∧ RowOk K H10 a ∧ H10 D = some (.lst (hs.map V.int)) ∧ Sofar K H10 l (y + 1) sz i j ss := fun H9 k9 r9 x H10 x0 x1 r10 k10 => by
                have o := old H10 (k9.trans k10) r10
                exact ⟨by omega, by omega, (K68.trans k9).trans k10, r10, o.1, o.2⟩
              walk_at "go"
              refine k_ite (fun d1 => ?_) (fun d1 => ?_)
              · walk_at "go"
                refine ⟨a, 4, rfl, by omega, by decide, R8, fun x3 H9 _ _ R9 K9 => ?_⟩
                walk_at "go"
                refine k_ite (fun d2 => ?_) (fun d2 => ?_)
                · refine iteT ?_
                  walk_at "go"
                  refine k_I CM ?_
                  walk_at "go"
                  refine ⟨a, _, rfl, by omega, by omega, R9, fun x4 H10 x4a x4b R10 K10 => ?_⟩
                  walk_at "go"
                  obtain ⟨q1, q2, q3, q4, q5, q6⟩ := draw H9 K9 R9 x4 H10 x4a x4b R10 K10
                  exact ⟨_, q1, q2, q3, q4, q5, q6, rfl⟩
                · walk_at "go"
                  refine k_ite (fun d3 => ?_) (fun d3 => ?_)
                  · rw [d1] at d3; exact absurd d3 (by decide)
                  · walk_at "go"
                    exact ⟨_, by omega, by omega, K68.trans K9, R9, (old H9 K9 R9).1, (old H9 K9 R9).2, rfl⟩
              · refine iteF ?_
                walk_at "go"
                refine k_ite (fun d3 => ?_) (fun d3 => ?_)
                · walk_at "go"
                  refine k_I CM ?_
                  walk_at "go"
                  refine ⟨a, _, rfl, by omega, by omega, R8, fun x4 H10 x4a x4b R10 K10 => ?_⟩
                  walk_at "go"
                  obtain ⟨q1, q2, q3, q4, q5, q6⟩ := draw H8 (Keep.refl _ _) R8 x4 H10 x4a x4b R10 K10
                  exact ⟨_, q1, q2, q3, q4, q5, q6, rfl⟩
                · walk_at "go"
                  exact ⟨_, by omega, by omega, K68, R8, eD8, S8, rfl⟩
            · rintro σ' H9 ⟨g, g1, g2, K9, R9, eD9, S9, rfl⟩
              refine k_cut (fun σ' H' => ∃ g, -(2 * sz + 1) ≤ g ∧ g ≤ 2 * sz + 1 ∧ Keep a H H' ∧ RowOk K H' a ∧ H' D = some (.lst (hs.map V.int)) ∧ Sofar K H' l (y + 1) sz i j ss ∧
                σ' = [some (.ref a), some (.int (st : Nat)), some (.int sz), some (.int ((y + 1 : Nat) : Int)), some (.int kind), some (.ref D), some (.ref l), some (.str LT), some (.int (0 + (i : Nat))), some (.str ⟨#[97 + j]⟩), some (.int (e : Nat)), some (.int g), none, none]) ?_ ?_
              · walk_at "go"
                refine k_ite (fun d1 => ?_) (fun d1 => ?_)
                · walk_at "go"
                  refine ⟨a, 3, rfl, by omega, by decide, R9, fun x3 H10 _ _ R10 K10 => ?_⟩
                  obtain ⟨lr9, er9⟩ := R9.lst
                  have eD10 := K10 _ _ nD.symm eD9
                  have S10 := S9.keep K10 er9 nl.symm
                  walk_at "go"
                  refine k_ite (fun d2 => ?_) (fun d2 => ?_)
                  · walk_at "go"
                    exact ⟨_, by omega, by omega, K9.trans K10, R10, eD10, S10, rfl⟩
                  · walk_at "go"
                    exact ⟨_, by omega, by omega, K9.trans K10, R10, eD10, S10, rfl⟩
                · refine iteF ?_
                  walk_at "go"
                  exact ⟨_, by omega, by omega, K9, R9, eD9, S9, rfl⟩
              · rintro σ' H10 ⟨g, g1, g2, K10, R10, eD10, S10, rfl⟩
                walk_at "go"
                obtain ⟨vs10, el10, _⟩ := S10.at_
                refine ⟨.inl ⟨rfl, _, SqL.of el10⟩, ?_⟩
                walk_at "go"
                refine ⟨(by decide : 4 ≤ sizeLine), fun p hp => ?_⟩
                have z0 : (0 + (i : Nat) : Int) = ((i : Nat) : Int) := by omega
                rw [z0]
                walk_at "go"
                have npl : l ≠ p := ne_of_none el10 hp
                have npD : D ≠ p := ne_of_none eD10 hp
                have el11 : (upd H10 p (.tup [.int (i : Nat), .str ⟨#[97 + j]⟩, .int (e : Nat), .int g])) l = some (.lst vs10) := by rw [upd_ne npl]; exact el10
                have lv : vs10.length < sizeLine := by
                  obtain ⟨vs', e', q'⟩ := S10.at_
                  rw [el10] at e'
                  cases e'
                  have := S10.len
                  have : vs10.length < 100 := by rw [q'.1]; omega
                  exact Nat.lt_trans this (by decide)
                refine k_append el11 lv ?_
                walk_at "go"
                have S11 := S10.snoc hp (by omega) j4 (show e < y + 1 by omega) sz1 g1 g2 vs10 el10
                have R11 := R10.same (Same.new (o := .tup [.int (i : Nat), .str ⟨#[97 + j]⟩, .int (e : Nat), .int g]) hp)
                refine ⟨_, some (.str ⟨#[97 + j]⟩), some (.int (e : Nat)), some (.int g), (K10.trans (Keep.new hp)).mut hlH, R11.keep nl el11 Keep.at_, ?_, S11, ?_⟩
                · rw [upd_ne nDl, upd_ne npD]; exact eD10
                · rfl
          · walk_at "go"
            exact ⟨ss, _, _, _, K6.trans K7, R7, eD7, S7.more (Nat.le_succ _), rfl⟩
        · rintro σ H6 ⟨ss, s9, s10, s11, K6, R6, eD6, S6, rfl⟩
          refine ⟨ss, _, _, _, _, K6, R6, eD6, S6.line ?_, rfl⟩
          rw [hLT]
          simp
          omega
      · rintro σ H5 ⟨ss, s8, s9, s10, s11, K5, R5, eD5, S5, rfl⟩
        obtain ⟨vs, el5, q5⟩ := S5.at_
        walk_at "go"
        refine k_rg (by omega) (by omega) fun B hB => ?_
        have nB : a ≠ B := R5.ne hB
        have hB0 : H B = none := K5.free nB.symm hB
        have nlB : l ≠ B := ne_of_none el5 hB
        -- the ends
        refine lc_range (lo := 0) (n := (((y + 1 : Nat) : Int)).toNat) (fun i H' => Keep a H H' ∧ RowOk K H' a ∧ H' l = some (.lst vs) ∧ StpsAt K H' vs ss ∧ ∃ es : List Nat, H' B = some (.lst (nats es)) ∧ es.length ≤ i ∧ (∀ e ∈ es, e < i) ∧ es.Pairwise (· < ·))
          ⟨K5.trans (Keep.new hB), R5.same (Same.new hB), by rw [upd_ne nlB]; exact el5, (Tups.new hB).steps q5, [], upd_same, Nat.le_refl _, fun _ h => absurd h (by simp), .nil⟩ ?_ ?_
        · rintro i H6 hi ⟨K6, R6, el6, q6, es, eB, h1, h2, h3⟩
          obtain ⟨lr6, er6⟩ := R6.lst
          walk_at "go"
          refine ⟨rfl, ?_⟩
          walk_at "go"
          refine ⟨a, 2, rfl, by omega, by decide, R6, fun x H7 _ _ R7 K7 => ?_⟩
          have eB7 := K7 _ _ nB.symm eB
          have el7 := K7 _ _ nl.symm el6
          have q7 := (K7.tups er6).steps q6
          walk_at "go"
          refine k_ite (fun c => ?_) (fun c => ?_)
          · walk_at "go"
            have z0 : (0 + (i : Nat) : Int) = ((i : Nat) : Int) := by omega
            rw [z0]
            refine ⟨_, eB7, ?_, (K6.trans K7).mut hB0, R7.keep nB eB7 Keep.at_, by rw [upd_ne nlB]; exact el7, (Tups.lst eB7).steps q7, es ++ [i], ?_, ?_, ?_, ?_⟩
            · have : (nats es).length < 100 := by unfold nats; rw [List.length_map]; omega
              exact Nat.lt_trans this (by decide)
            · rw [upd_same]; unfold nats; rw [List.map_append]; rfl
            · rw [List.length_append]; simp; omega
            · intro e he
              rcases List.mem_append.mp he with he | he
              · have := h2 e he; omega
              · have : e = i := by simpa using he
                omega
            · refine List.pairwise_append.mpr ⟨h3, List.pairwise_singleton _ _, fun e he f hf => ?_⟩
              have : f = i := by simpa using hf
              have := h2 e he
              omega
          · exact ⟨K6.trans K7, R7, el7, q7, es, eB7, by omega, fun e he => by have := h2 e he; omega, h3⟩
        · rintro H6 ⟨K6, R6, el6, q6, es, eB, h1, h2, h3⟩
          walk_at "go"
          refine ⟨B, _, rfl, .inl ⟨SqL.of eB, fun u hu => ?_⟩⟩
          have nu : a ≠ u := R6.ne hu
          have K7 := K6.trans (Keep.new (o := .tup (nats es)) hu)
          have R7 := R6.same (Same.new (o := .tup (nats es)) hu)
          have el7 : (upd H6 u (.tup (nats es))) l = some (.lst vs) := by rw [upd_ne (ne_of_none el6 hu)]; exact el6
          have q7 := (Tups.new (o := .tup (nats es)) hu).steps q6
          walk_at "go"
          intro d hd
          have K8 := K7.trans (Keep.new (o := .dK []) hd)
          have R8 := R7.same (Same.new (o := .dK []) hd)
          have el8 : (upd (upd H6 u (.tup (nats es))) d (.dK [])) l = some (.lst vs) := by rw [upd_ne (ne_of_none el7 hd)]; exact el7
          have q8 := (Tups.new (o := .dK []) hd).steps q7
          have hd0 : H d = none := K7.free (R7.ne hd).symm hd
          walk_at "go"
          refine ⟨l, vs, rfl, .inl ⟨SqL.of el8, fun t ht => ?_⟩⟩
          walk_at "go"
          have ntd : d ≠ t := ne_of_none upd_same ht
          have e1 : (upd (upd (upd H6 u (.tup (nats es))) d (.dK [])) t (.tup vs)) d = some (.dK []) := by rw [upd_ne ntd, upd_same]
          refine ⟨e1, [(.inr "stands", .int ((y + 1 : Nat) : Int)), (.inr "steps", .ref t), (.inr "ends", .ref u)], rfl, (by decide : 3 ≤ 15), ?_⟩
          have em : mergeK [] [((.inr "stands" : Key), V.int ((y + 1 : Nat) : Int)), (.inr "steps", .ref t), (.inr "ends", .ref u)] = [(.inr "stands", .int ((y + 1 : Nat) : Int)), (.inr "steps", .ref t), (.inr "ends", .ref u)] := rfl
          rw [em]
          have t9 : Tups (upd (upd H6 u (.tup (nats es))) d (.dK [])) (upd (upd (upd H6 u (.tup (nats es))) d (.dK [])) t (.tup vs)) := Tups.new ht
          have nuD : u ≠ d := ne_of_none (upd_same (H := H6) (o := .tup (nats es))) hd
          have t10 : Tups (upd (upd (upd H6 u (.tup (nats es))) d (.dK [])) t (.tup vs)) (upd (upd (upd (upd H6 u (.tup (nats es))) d (.dK [])) t (.tup vs)) d (.dK [(.inr "stands", .int ((y + 1 : Nat) : Int)), (.inr "steps", .ref t), (.inr "ends", .ref u)])) :=
            ⟨fun b xs e => by rw [upd_ne (fun z => by rw [z, e1] at e; cases e)]; exact e, fun b o xs e => by rw [upd_ne (fun z => by rw [z, e1] at e; cases e)]; exact e⟩
          refine k d ⟨y + 1, ss, es⟩ _ ⟨by show 1 ≤ y + 1; omega, by show y + 1 ≤ 8; omega, S5.ok, S5.up, ?_, fun e he => ?_, h3, ?_⟩ (by show y + 1 ≤ st; omega) S5.gb ⟨t, u, upd_same, ⟨vs, t10.sq (SqT.of upd_same), (t10.steps (t9.steps q8))⟩, ?_⟩ ?_ ?_ hd0
          · have := S5.len
            show ss.length ≤ 32
            rw [nat] at this
            omega
          · have := h2 e he
            rw [nat] at this
            exact this
          · show es.length ≤ 8
            rw [nat] at h1
            omega
          · exact t10.sq (t9.sq ((Tups.new (o := .dK []) hd).sq (SqT.of upd_same)))
          · have R9 := R8.same (Same.new (o := .tup vs) ht)
            obtain ⟨sc, ns, i, z, r, e, q, rest⟩ := R9
            have nad : a ≠ d := R7.ne hd
            refine ⟨sc, ns, i, z, r, by rw [upd_ne nad]; exact e, ?_, rest⟩
            rcases q with ⟨o, q⟩ | q
            · exact .inl ⟨o, by rw [upd_ne (fun z => by rw [z, e1] at q; cases q)]; exact q⟩
            · exact .inr q
          · exact (K8.trans (Keep.new ht)).mut hd0
end
/-! ### name = {k: v for ..} -/
theorem sw_trueD {kx vx : Expr} {gs : List Comprehension} {scope : Scope} {pos py : Pos} {y : Str} {n : Nat} {env : Env} (hk : env.scope.kind = .function) (hy : env.scope.names.lookup y = some .local) (hl : (py.line == pos.line) = true)
    (ha : (scope.names.any fun (m, c) => m == y && (c == .local || c == .cell)) = false) : swapsWith (.DictComp kx vx gs scope pos) (some (.Name y py)) n env = pure true := by
  have k1 : env.kindOf y = some .local := hy
  have k2 : env.blockKind = .function := by
    unfold Env.blockKind
    rw [hk]
    rfl
  unfold swapsWith
  simp only [k1, k2, ha, Expr.pos, hl]
  rfl
section
variable {X : Cx}
theorem ps_setDc {i : Nat} {y : Str} {py : Pos} {kx vx tg it : Expr} {ifs : List Expr} {scope : Scope} {own : List (Str × Nat)} {pos sp : Pos} {wi : TI} {g : TG} {tt : TT} {tk tv : TE} (hc : X.calm = true) (hN : X.N.Nodup)
    (hy : X.N[i]? = some y) (hyl : X.env.scope.names.lookup y = some .local) (hsw : swapsWith (.DictComp kx vx [⟨tg, it, ifs, 0⟩] scope pos) (some (.Name y py)) sp.line X.env = pure true)
    (hi : PI X tg it wi) (ok : BlkOk X.N X.env.scope scope own)
    (hg : ∀ (s : Shared) (H : Hp) (C : Addr) (cl : List (Str × Addr)) (fp : List Addr), PG (X.blk s H scope (compEnvC scope cl C X.env) fp) tg g)
    (ht : ∀ (s : Shared) (H : Hp) (C : Addr) (cl : List (Str × Addr)) (fp : List Addr), PTs (X.blk s H scope (compEnvC scope cl C X.env) fp) ifs tt)
    (hk : ∀ (s : Shared) (H : Hp) (C : Addr) (cl : List (Str × Addr)) (fp : List Addr), PE (X.blk s H scope (compEnvC scope cl C X.env) fp) kx tk)
    (hv : ∀ (s : Shared) (H : Hp) (C : Addr) (cl : List (Str × Addr)) (fp : List Addr), PE (X.blk s H scope (compEnvC scope cl C X.env) fp) vx tv)
    (hs : ∀ x, foldedSetIterable it X.env x = pure x := by intro _; rfl) :
    PS X (.Assign [.Name y py] (.DictComp kx vx [⟨tg, it, ifs, 0⟩] scope pos) sp) (tAsg (tDc wi g tt tk tv (own.map (·.2))) (gName i)) := by
  constructor
  intro pins s σ H D I h
  rw [exec_Assign_Name_used _ _ _ _ hsw]
  refine wpAny_bind (wpAny_standAt (wpAny_bind ?_))
  show wpAny _ X.A (do let _ ← comprehension (.DictComp kx vx [⟨tg, it, ifs, 0⟩] scope pos) scope X.env (firstIterPos [⟨tg, it, ifs, 0⟩] pos) newDict false (eval it X.env) (some (assign (.Name y py) X.env))) _ _ s
  have h' : tDc wi g tt tk tv (own.map (·.2)) σ H (fun x H1 => gName i x σ H1 D.nx) := h
  refine wpAny_bind (thn (dc_core (Qf := fun _ s' => SP X pins D .next s') hc hN I hi ok hg ht hk hv hs h' ?_) fun _ s' hq => wpAny_pure (wpAny_pure hq))
  intro L C s' m H' I' q hn f
  show wpAny _ _ (assign (.Name y py) X.env (.ref L)) _ _ _
  refine wpAny_assign_Name (store_ok2 (v := V.ref L) I' hN hy (.inl hyl) rfl ?_ (.inr hyl))
  rintro s2 I2 ⟨a, sb, ha⟩
  obtain ⟨f0, f1, f2, f3, f4, f5⟩ := f
  have ne : C ≠ a := by
    rcases ha with z | z
    · rw [z]; exact f1
    · exact fun e => f4 y a z e.symm
  exact ⟨m, hn.sameBut sb ne, fun h3 sb3 => ⟨_, H', I2.turned (t' := s2.toks) (fun b o hb e => (sb3.2 b hb).trans e) f0 f1 f3 f4 f5, q⟩⟩
/-- over a list that stays -/
theorem dc_lst {K : PySem.W.Frag} {a : Addr} {xs : List V} {g : TG} {tt : TT} {tk tv : TE} {vs : List Nat} {σ : L2.St} {H1 : Hp} {D : Addr} {Qd : Hp → Prop} (Pv : Nat → Hp → Prop) (h0 : Pv 0 (upd H1 D (.dK [])))
    (hl : ∀ i H, i ≤ xs.length → Pv i H → SqL K H a xs)
    (hs : ∀ i x H, xs[i]? = some x → Pv i H → g x (wipe σ vs) H fun σ2 H2 => wipe σ2 vs = wipe σ vs ∧ tt σ2 H2 fun b H3 =>
      if b = true then tk σ2 H3 fun y H4 => tv σ2 H4 fun z H5 => ∃ kvs k, y = kV k ∧ H5 D = some (.dK kvs) ∧ kvs.length < sizeLine ∧ Pv (i + 1) (upd H5 D (.dK (putK kvs k z))) else Pv (i + 1) H3) (hd : ∀ H, Pv xs.length H → Qd H) :
    ∃ W : Nat → Nat → Hp → Prop, (∃ m, W 0 m (upd H1 D (.dK []))) ∧ ∀ i m H, W i m H → ((Itl K a).stop i H ∧ Qd H) ∨
      ((Itl K a).go i H ∧ ∃ Nx : Hp → Prop, (∀ H', Nx H' → ∃ m', m' < m ∧ W (i + 1) m' H') ∧ ∀ x H', (Itl K a).yld i H x H' → g x (wipe σ vs) H' fun σ2 H2 => wipe σ2 vs = wipe σ vs ∧ tt σ2 H2 fun b H3 =>
        if b = true then tk σ2 H3 fun y H4 => tv σ2 H4 fun z H5 => ∃ kvs k, y = kV k ∧ H5 D = some (.dK kvs) ∧ kvs.length < sizeLine ∧ Nx (upd H5 D (.dK (putK kvs k z))) else Nx H3) := by
  refine ⟨fun i m H => m + i = xs.length ∧ Pv i H, ⟨xs.length, by simp, h0⟩, fun i m H ⟨em, hP⟩ => ?_⟩
  have sq := hl i H (by omega) hP
  by_cases c : i < xs.length
  · refine .inr ⟨⟨xs, xs[i], sq, List.getElem?_eq_getElem c⟩, Pv (i + 1), fun H' z => ⟨m - 1, by omega, by omega, z⟩, ?_⟩
    rintro x H' ⟨rfl, hx⟩
    exact hs i x _ (hx xs sq) hP
  · have e : i = xs.length := by omega
    exact .inl ⟨⟨xs, sq, by omega⟩, hd H (e ▸ hP)⟩
end
/-! ### rows by their codes; what is best so far, by stand -/
abbrev Wd := List Nat
def sOf (w : Wd) : Str := ⟨w.toArray⟩
theorem sOf_snoc (w : Wd) (c : Nat) : sOf w ++ ⟨#[c]⟩ = sOf (w ++ [c]) := by
  show Str.mk (w.toArray ++ #[c]) = _
  rw [List.append_toArray]
  rfl
theorem sOf_len (w : Wd) : (sOf w).length = w.length := by
  show w.toArray.size = _
  simp
theorem sOf_cps (w : Wd) : (sOf w).cps.toList = w := rfl
theorem sOf_inj {v w : Wd} (h : sOf v = sOf w) : v = w := by
  have := congrArg (fun s => s.cps.toList) h
  exact this
abbrev RF := Nat → Option (Int × Wd)
def better (x : Int × Wd) : Option (Int × Wd) → Bool
  | none => true
  | some y => decide (y.1 < x.1) || (decide (x.1 = y.1) && decide (x.2 < y.2))
def RF.put (f : RF) (k : Nat) (x : Int × Wd) : RF := fun j => if j = k then some x else f j
def turnL (sg : Int) (f acc : RF) (s : Stp) : RF := match f s.b with
  | none => acc
  | some y => if better (y.1 + sg * s.g, y.2 ++ [s.c]) (acc s.e) = true then acc.put s.e (y.1 + sg * s.g, y.2 ++ [s.c]) else acc
def longer (sg : Int) (f : RF) (ss : List Stp) : RF := ss.foldl (turnL sg f) fun _ => none
/-! ### dicts from stands to tuples -/
def ent2 (x : Int × Wd) : List V := [.int x.1, .str (sOf x.2)]
def E2 (f : RF) : Nat → Option (List V) := fun n => (f n).map ent2
def KvOk (K : PySem.W.Frag) (H : Hp) (kvs : List (Key × V)) (e : Nat → Option (List V)) : Prop :=
  (∀ p ∈ kvs, ∃ n : Nat, p.1 = .inl (n : Int)) ∧ ∀ n : Nat, (e n = none → valV kvs (.inl (n : Int)) = none) ∧ ∀ l, e n = some l → ∃ p, valV kvs (.inl (n : Int)) = some (.ref p) ∧ SqT K H p l
section
variable {K : PySem.W.Frag} {H H' : Hp} {kvs : List (Key × V)} {e : Nat → Option (List V)}
theorem KvOk.tups (h : KvOk K H kvs e) (t : Tups H H') : KvOk K H' kvs e := ⟨h.1, fun n => ⟨(h.2 n).1, fun l el => let ⟨p, q, z⟩ := (h.2 n).2 l el; ⟨p, q, t.sq z⟩⟩⟩
theorem KvOk.nil : KvOk K H [] fun _ => none := ⟨fun _ h => absurd h (by simp), fun n => ⟨fun _ => rfl, fun l h => by cases h⟩⟩
theorem KvOk.put {n : Nat} {p : Addr} {l : List V} (h : KvOk K H kvs e) (hp : SqT K H p l) : KvOk K H (putK kvs (.inl (n : Int)) (.ref p)) fun j => if j = n then some l else e j := by
  refine ⟨fun q hq => ?_, fun j => ?_⟩
  · unfold putK at hq
    split at hq
    · obtain ⟨r, hr, rfl⟩ := List.mem_map.mp hq
      split
      · rename_i z; exact ⟨n, z⟩
      · exact h.1 r hr
    · rcases List.mem_append.mp hq with hq | hq
      · exact h.1 q hq
      · have : q = (.inl (n : Int), .ref p) := by simpa using hq
        exact ⟨n, by rw [this]⟩
  · rw [valV_put]
    by_cases c : j = n
    · have c' : (Sum.inl (j : Int) : Key) = .inl (n : Int) := by rw [c]
      simp only [if_pos c, if_pos c']
      refine ⟨fun z => (by cases z), fun l' el => ?_⟩
      cases el
      exact ⟨p, rfl, hp⟩
    · have c' : ¬ (Sum.inl (j : Int) : Key) = .inl (n : Int) := fun z => c (by injection z with z; omega)
      simp only [if_neg c, if_neg c']
      exact h.2 j
theorem KvOk.congr {e' : Nat → Option (List V)} (h : KvOk K H kvs e) (q : ∀ n, e n = e' n) : KvOk K H kvs e' := (funext q : e = e') ▸ h
end
theorem E2_put (f : RF) (k : Nat) (x : Int × Wd) (n : Nat) : (if n = k then some (ent2 x) else E2 f n) = E2 (f.put k x) n := by
  unfold E2 RF.put
  by_cases c : n = k
  · rw [if_pos c, if_pos c]; rfl
  · rw [if_neg c, if_neg c]
theorem Same.mut {p : Addr} {H H' : Hp} {o : HO} (x : Same H H') (hp : H p = none) : Same H (upd H' p o) := fun b u h => by rw [upd_ne (ne_of_none h hp)]; exact x b u h
theorem Tups.dk {p : Addr} {H : Hp} {kvs : List (Key × V)} {o : HO} (h : H p = some (.dK kvs)) : Tups H (upd H p o) :=
  ⟨fun b xs e => by rw [upd_ne (fun z => by rw [z, h] at e; cases e)]; exact e, fun b _ xs e => by rw [upd_ne (fun z => by rw [z, h] at e; cases e)]; exact e⟩
theorem take_fold {α β : Type} (f : β → α → β) (z : β) {l : List α} {i : Nat} {x : α} (h : l[i]? = some x) : (l.take (i + 1)).foldl f z = f ((l.take i).foldl f z) x := by
  rw [List.take_add_one, h, List.foldl_append]
  rfl
/-! ### the parts read off a machine -/
section
variable {P : Program} {w : World} {K : PySem.W.Frag} {mg : Str → Option Value} {base : Heap}
theorem ok_Machine_stands (T : Txt K mg) : FnOk P w K mg base (L2.CX P w) 1 T.a_Machine_stands T.fd_Machine_stands ["self"] (getSp T.c_Machine "_stands") := by
  refine T.F_Machine_stands.okX sc_Machine_stands (fun vs H Q E h => ?_) (fun cdv A outer s H vs Q E hr h => ?_)
  · obtain ⟨a, dx, fs, v, rfl, _⟩ := h
    rfl
  · obtain ⟨a, dx, fs, v, rfl, ha, hl, k⟩ := h
    refine ⟨_, (PSs.nox (pss_one (ps_ret (pe_fld (pv 0) rfl)))), ?_⟩
    exact ⟨_, rfl, a, _, dx, fs, v, rfl, ha, T.cl_Machine, T.n__stands, hl, k⟩
theorem ok_Machine_steps (T : Txt K mg) : FnOk P w K mg base (L2.CX P w) 1 T.a_Machine_steps T.fd_Machine_steps ["self"] (getSp T.c_Machine "_steps") := by
  refine T.F_Machine_steps.okX sc_Machine_steps (fun vs H Q E h => ?_) (fun cdv A outer s H vs Q E hr h => ?_)
  · obtain ⟨a, dx, fs, v, rfl, _⟩ := h
    rfl
  · obtain ⟨a, dx, fs, v, rfl, ha, hl, k⟩ := h
    refine ⟨_, (PSs.nox (pss_one (ps_ret (pe_fld (pv 0) rfl)))), ?_⟩
    exact ⟨_, rfl, a, _, dx, fs, v, rfl, ha, T.cl_Machine, T.n__steps, hl, k⟩
end
/-! ### the parts read off a machine; the next length's best rows -/
def rLtS : R2 := fun x y H Q => ∃ i j, x = .str i ∧ y = .str j ∧ Q (.bl (decide (i.cps.toList < j.cps.toList))) H
theorem test_better {K : PySem.W.Frag} {σ : L2.St} {H : Hp} {R : Bool → Hp → Prop} {D : Addr} {kvs : List (Key × V)} {acc : RF} {e : Nat} {x : Int × Wd} (hD : H D = some (.dK kvs)) (ok : KvOk K H kvs (E2 acc))
    (h3 : σ[3]? = some (some (.ref D))) (h6 : σ[6]? = some (some (.int (e : Nat)))) (h8 : σ[8]? = some (some (.int x.1))) (h9 : σ[9]? = some (some (.str (sOf x.2)))) (h : R (better x (acc e)) H) :
    tOr (tB (tDNotIn (tVar 6) (tVar 3))) (tOr (tTest (tOp (rI0 fun i j => V.bl (decide (j < i))) (tVar 8) (tOp (rIxT K) (tDGet (tVar 3) (tVar 6)) (tC (.int 0)))))
      (tAnd (tTest (tOp rEq (tVar 8) (tOp (rIxT K) (tDGet (tVar 3) (tVar 6)) (tC (.int 0))))) (tTest (tOp rLtS (tVar 9) (tOp (rIxT K) (tDGet (tVar 3) (tVar 6)) (tC (.int 1))))))) σ H R := by
  have dg : DGet H D (.int (e : Nat)) (valV kvs (.inl (e : Int))) := DGet.k (k := .inl (e : Int)) hD
  refine k_or (k_tB (k_dnotin (k_var h6 (k_var h3 ⟨D, _, rfl, dg, k_bl ?_⟩))))
  cases ea : acc e with
  | none =>
    have z := (ok.2 e).1 (by unfold E2; rw [ea]; rfl)
    rw [z]
    refine iteT ?_
    rw [ea] at h
    exact h
  | some y =>
    obtain ⟨p, z, sq⟩ := (ok.2 e).2 (ent2 y) (by unfold E2; rw [ea]; rfl)
    rw [ea] at h
    rw [z] at dg ⊢
    have at0 : ∀ {Q : VK}, Q (.int y.1) H → tOp (rIxT K) (tDGet (tVar 3) (tVar 6)) (tC (.int 0)) σ H Q := fun q => k_op (k_dget (k_var h3 (k_var h6 ⟨D, _, rfl, dg, k_c (k_ixT sq (v := .int y.1) rfl q)⟩)))
    have at1 : ∀ {Q : VK}, Q (.str (sOf y.2)) H → tOp (rIxT K) (tDGet (tVar 3) (tVar 6)) (tC (.int 1)) σ H Q := fun q => k_op (k_dget (k_var h3 (k_var h6 ⟨D, _, rfl, dg, k_c (k_ixT sq (v := .str (sOf y.2)) rfl q)⟩)))
    refine iteF (k_or (k_test (k_op (k_var h8 (at0 (k_I0 (k_bl ?_)))))))
    have hb : better x (some y) = (decide (y.1 < x.1) || (decide (x.1 = y.1) && decide (x.2 < y.2))) := rfl
    rw [hb] at h
    refine k_ite (fun c => ?_) (fun c => ?_)
    · rw [decide_eq_true c, Bool.true_or] at h
      exact h
    · rw [decide_eq_false c, Bool.false_or] at h
      refine k_and (k_test (k_op (k_var h8 (at0 (k_eq rfl (k_bl ?_))))))
      refine k_ite (fun d => ?_) (fun d => ?_)
      · have d' : x.1 = y.1 := by injection d
        rw [decide_eq_true d', Bool.true_and] at h
        refine k_test (k_op (k_var h9 (at1 ⟨_, _, rfl, rfl, k_bl ?_⟩)))
        exact h
      · have d' : ¬ x.1 = y.1 := fun z => d (by rw [z])
        rw [decide_eq_false d', Bool.false_and] at h
        exact h
def Sgn (sg : Int) : Prop := sg = 1 ∨ sg = -1 ∨ sg = 0
theorem Sgn.of {sg : Int} (h : sg = 1 ∨ sg = -1) : Sgn sg := by rcases h with h | h; exact .inl h; exact .inr (.inl h)
def sp_longer (K : PySem.W.Frag) : Sp := fun vs H Q _ => ∃ (t r : Addr) (sg : Int) (N : Nat) (ss : List Stp) (f : RF) (kvs : List (Key × V)), vs = [.ref t, .int sg, .ref r] ∧ StSq K H t ss ∧ SsOk N ss ∧ H r = some (.dK kvs) ∧ KvOk K H kvs (E2 f) ∧
  Sgn sg ∧ (∀ n y, f n = some y → y.2.length ≤ 64) ∧ ∀ p kvs' H', Same H H' → H p = none → H' p = some (.dK kvs') → KvOk K H' kvs' (E2 (longer sg f ss)) → kvs'.length ≤ 300 → Q (.ref p) H'
section
variable {P : Program} {w : World} {K : PySem.W.Frag} {mg : Str → Option Value} {base : Heap}
theorem ok_longer_rows (T : Txt K mg) : FnOk P w K mg base (L2.CX P w) 3 T.a_longer_rows T.fd_longer_rows ["steps", "sign", "rows"] (sp_longer K) := by
  refine T.F_longer_rows.okX sc_longer_rows (fun vs H Q E h => ?_) (fun cdv A outer s H vs Q E hr h => ?_)
  · obtain ⟨t, r, sg, N, ss, f, kvs, rfl, _⟩ := h
    rfl
  · obtain ⟨t, r, sg, N, ss, f, kvs, rfl, ⟨us, ht, hs⟩, o, hr0, hf, hsg, hw, k⟩ := h
    refine ⟨_, (PSs.nox (pss_cons (ps_set (i := 3) sc_longer_rows.nd rfl (Or.inl rfl) pe_dnewK)
  (pss_cons (ps_for PassesOwn.never rfl (pi_sq (pv 0)) (pg_tup rfl (pgs_cons (pg_name (i := 4) sc_longer_rows.nd rfl (Or.inl rfl)) (pgs_cons (pg_name (i := 5) sc_longer_rows.nd rfl (Or.inl rfl)) (pgs_cons (pg_name (i := 6) sc_longer_rows.nd rfl (Or.inl rfl)) (pgs_cons (pg_name (i := 7) sc_longer_rows.nd rfl (Or.inl rfl)) pgs_nil)))))
  (pss_one (ps_if (pt_cmp (pc_din (hu_of hr) (pv 4) (pv 2)) (by rfl))
  (pss_cons (ps_asg (pe_dget (hu_of hr) (pv 2) (pv 4) (fun _ _ => rfl)) (pg_tup rfl (pgs_cons (pg_name (i := 8) sc_longer_rows.nd rfl (Or.inl rfl)) (pgs_cons (pg_name (i := 9) sc_longer_rows.nd rfl (Or.inl rfl)) pgs_nil))))
  (pss_cons (ps_aug (i := 8) sc_longer_rows.nd rfl (Or.inl rfl) (pe_op op_mulW (pv 1) (pv 7)) ip_add)
  (pss_cons (ps_aug (i := 9) sc_longer_rows.nd rfl (Or.inl rfl) (pv 5) iop_add_str)
  (pss_one (ps_if (PW.pt (pw_or (pt_cmp (pc_dnotin (hu_of hr) (pv 6) (pv 3)) (by rfl)) (pw_or (pt_cmpR op_gt (pv 8) (pe_ix ix_tup (pe_dget (hu_of hr) (pv 3) (pv 6) (fun _ _ => rfl)) pe_int (fun _ _ => rfl)) (nomark _)) (pw_or1 (PW.pt (pw_and (pt_cmpR op_eq (pv 8) (pe_ix ix_tup (pe_dget (hu_of hr) (pv 3) (pv 6) (fun _ _ => rfl)) pe_int (fun _ _ => rfl)) (nomark _)) (pw_and1 (pt_cmpR op_lt_str (pv 9) (pe_ix ix_tup (pe_dget (hu_of hr) (pv 3) (pv 6) (fun _ _ => rfl)) pe_int (fun _ _ => rfl)) (nomark _)))))))))
  (pss_one (ps_dput (hu_of hr) (pv 3) (pv 6) (pe_tup (pa_cons (pv 8) (pa_cons (pv 9) pa_nil))) rfl))
  pss_nil)))))
  pss_nil)))
  (pss_one (ps_ret (pv 3)))))), ?_⟩
    walk_at "begin"
    walk_at "go"
    intro D hD
    walk_at "go"
    refine for_sq (xs := us) rfl ht (fun i σ H' => ∃ kvs' a4 a5 a6 a7 a8 a9, Same H H' ∧ H' D = some (.dK kvs') ∧ KvOk K H' kvs' (E2 ((ss.take i).foldl (turnL sg f) fun _ => none)) ∧ kvs'.length ≤ i ∧
      σ = [some (.ref t), some (.int sg), some (.ref r), some (.ref D), a4, a5, a6, a7, a8, a9]) ⟨[], none, none, none, none, none, none, Same.new hD, upd_same, KvOk.nil, Nat.le_refl _, rfl⟩
      (fun i σ H' ⟨_, _, _, _, _, _, _, z, _⟩ => z) ?_ ?_
    · rintro i y σ H1 hy ⟨kvs', a4, a5, a6, a7, a8, a9, z, eD, ok, len, rfl⟩
      have il : i < ss.length := by rw [← hs.1]; exact (List.getElem?_eq_some_iff.mp hy).1
      have ei : ss[i]? = some (ss[i]'il) := List.getElem?_eq_getElem il
      obtain ⟨q, eq, hq⟩ := hs.2 i _ ei
      rw [hy] at eq
      cases eq
      have ok1 := o.ok _ (List.getElem_mem il)
      have len32 := o.len
      rw [take_fold _ _ ei]
      generalize ss[i]'il = st at hq ok1 ⊢
      generalize (ss.take i).foldl (turnL sg f) (fun _ => none) = acc at ok ⊢
      have dg := DGet.k (k := .inl (st.b : Int)) (z _ _ hr0)
      refine k_gt ((same_tups z).sq hq) rfl ?_
      unfold stpV
      walk_at "go"
      refine ⟨r, _, rfl, dg, ?_⟩
      walk_at "go"
      cases fb : f st.b with
      | none =>
        rw [(hf.2 st.b).1 (by unfold E2; rw [fb]; rfl)]
        refine iteF ?_
        walk_at "go"
        have et : turnL sg f acc st = acc := by unfold turnL; rw [fb]
        rw [et]
        exact ⟨kvs', _, _, _, _, _, _, z, eD, ok, by omega, rfl⟩
      | some v =>
        obtain ⟨p, ep, sp⟩ := (hf.2 st.b).2 (ent2 v) (by unfold E2; rw [fb]; rfl)
        have lw := hw _ _ fb
        rw [ep] at dg ⊢
        refine iteT ?_
        walk_at "go"
        refine ⟨r, _, rfl, dg, ?_⟩
        refine k_gt ((same_tups z).sq sp) rfl ?_
        unfold ent2
        walk_at "go"
        refine k_I (wide_mul (a := 1) (b := 108) (by rcases hsg with rfl | rfl | rfl <;> decide) (by have := ok1.g; have := ok1.g'; omega) (by decide) (by decide) (by decide)) ?_
        walk_at "go"
        refine ⟨_, _, rfl, rfl, by rw [sOf_len]; show v.2.length + 1 ≤ sizeLine; exact Nat.le_trans (show v.2.length + 1 ≤ 65 by omega) (by decide), ?_⟩
        rw [sOf_snoc]
        dsimp only
        refine k_ifS ?_
        refine test_better (x := (v.1 + sg * st.g, v.2 ++ [st.c])) (acc := acc) (e := st.e) eD ok ?_ ?_ ?_ ?_ ?_
        iterate 4 rfl
        have et : turnL sg f acc st = if better (v.1 + sg * st.g, v.2 ++ [st.c]) (acc st.e) = true then acc.put st.e (v.1 + sg * st.g, v.2 ++ [st.c]) else acc := by unfold turnL; rw [fb]
        rw [et]
        refine k_bool (fun c => ?_) (fun c => ?_)
        · rw [if_pos c]
          walk_at "go"
          refine ⟨(by decide : 2 ≤ sizeLine), fun pn hpn => ?_⟩
          walk_at "go"
          have eD2 : (upd H1 pn (.tup [.int (v.1 + sg * st.g), .str (sOf (v.2 ++ [st.c]))])) D = some (.dK kvs') := by rw [upd_ne (ne_of_none eD hpn)]; exact eD
          refine ⟨D, _, rfl, DPut.k (k := .inl (st.e : Int)) eD2 (Nat.lt_of_le_of_lt len (Nat.lt_trans (show i < 1000 by omega) (by decide))), ?_⟩
          refine ⟨_, _, _, _, _, _, _, Same.mut (z.trans (Same.new hpn)) hD, upd_same, ?_, by have := length_putK kvs' (.inl (st.e : Int)) (V.ref pn); omega, rfl⟩
          refine ((KvOk.put (n := st.e) (ok.tups (Tups.new hpn)) (l := ent2 (v.1 + sg * st.g, v.2 ++ [st.c])) (SqT.of upd_same)).tups (Tups.dk eD2)).congr fun n => ?_
          exact E2_put acc st.e _ n
        · rw [if_neg (by rw [c]; exact Bool.false_ne_true)]
          walk_at "go"
          exact ⟨kvs', _, _, _, _, _, _, z, eD, ok, by omega, rfl⟩
    · rintro σ H1 ⟨kvs', a4, a5, a6, a7, a8, a9, z, eD, ok, len, rfl⟩
      walk_at "go"
      rw [hs.1, List.take_length] at ok
      have := o.len
      exact k D kvs' H1 z hD eD ok (by rw [hs.1] at len; omega)
end
/-! ### which stands have a better row; which stands letters lead to -/
inductive Reach (ss : List Stp) (l : List Nat) : Nat → Prop
  | base {n : Nat} : n ∈ l → Reach ss l n
  | step {s : Stp} : s ∈ ss → Reach ss l s.b → Reach ss l s.e
def fkv (F : List Nat) : List (Key × V) := F.map fun (n : Nat) => ((.inl (n : Int) : Key), V.bl true)
theorem key_eq (a b : Nat) : ((Sum.inl (a : Int) : Key) = .inl (b : Int)) ↔ a = b := ⟨fun z => by injection z with z; omega, fun z => by rw [z]⟩
theorem valV_fkv (n : Nat) : ∀ F : List Nat, valV (fkv F) (.inl (n : Int)) = if n ∈ F then some (.bl true) else none
  | [] => rfl
  | a :: F => by
    have ih := valV_fkv n F
    by_cases c : a = n
    · rw [if_pos (by rw [c]; exact List.mem_cons_self)]
      exact valV_pos (p := ((.inl (a : Int) : Key), V.bl true)) ((key_eq a n).mpr c)
    · have e : valV (fkv (a :: F)) (.inl (n : Int)) = valV (fkv F) (.inl (n : Int)) := valV_neg (p := ((.inl (a : Int) : Key), V.bl true)) fun z => c ((key_eq a n).mp z)
      rw [e, ih]
      by_cases d : n ∈ F
      · rw [if_pos d, if_pos (List.mem_cons_of_mem _ d)]
      · rw [if_neg d, if_neg (fun z => by rcases List.mem_cons.mp z with z | z; exact c z.symm; exact d z)]
def addN (F : List Nat) (n : Nat) : List Nat := if n ∈ F then F else F ++ [n]
theorem addN_mem {F : List Nat} {n k : Nat} : k ∈ addN F n ↔ k ∈ F ∨ k = n := by
  unfold addN
  by_cases c : n ∈ F
  · rw [if_pos c]
    exact ⟨.inl, fun z => by rcases z with z | rfl <;> assumption⟩
  · rw [if_neg c, List.mem_append, List.mem_singleton]
theorem addN_nodup {F : List Nat} {n : Nat} (h : F.Nodup) : (addN F n).Nodup := by
  unfold addN
  by_cases c : n ∈ F
  · rw [if_pos c]; exact h
  · rw [if_neg c]
    exact List.nodup_append.mpr ⟨h, by simp, fun a ha b hb e => by rw [List.mem_singleton] at hb; rw [e, hb] at ha; exact c ha⟩
theorem putK_fkv (F : List Nat) (n : Nat) : putK (fkv F) (.inl (n : Int)) (.bl true) = fkv (addN F n) := by
  by_cases c : n ∈ F
  · unfold addN putK
    have h := valV_any (.inl (n : Int) : Key) (fkv F)
    rw [valV_fkv, if_pos c] at h
    rw [h, if_pos c, if_pos (show (some (V.bl true)).isSome = true from rfl)]
    unfold fkv
    rw [List.map_map]
    refine List.map_congr_left fun a _ => ?_
    show (if (Sum.inl (a : Int) : Key) = .inl (n : Int) then ((Sum.inl (a : Int) : Key), V.bl true) else ((Sum.inl (a : Int) : Key), V.bl true)) = _
    split <;> rfl
  · rw [putK_new _ (by rw [valV_fkv, if_neg c])]
    unfold addN fkv
    rw [if_neg c, List.map_append]
    rfl
theorem nats_snoc (l : List Nat) (n : Nat) : nats (l ++ [n]) = nats l ++ [.int (n : Nat)] := by unfold nats; rw [List.map_append]; rfl
theorem nats_at {l : List Nat} {i : Nat} {x : V} (h : (nats l)[i]? = some x) : ∃ n, l[i]? = some n ∧ x = .int (n : Nat) := by
  unfold nats at h
  rw [List.getElem?_map] at h
  cases e : l[i]? with
  | none => rw [e] at h; cases h
  | some n => rw [e] at h; exact ⟨n, rfl, (Option.some.inj h).symm⟩
theorem nodup_small {F : List Nat} {n : Nat} (h : F.Nodup) (b : ∀ k ∈ F, k < n) : F.length ≤ n := by
  induction n generalizing F with
  | zero =>
    cases F with
    | nil => exact Nat.le_refl _
    | cons a F => exact absurd (b a List.mem_cons_self) (Nat.not_lt_zero _)
  | succ n ih =>
    by_cases c : n ∈ F
    · have e1 := ih (F := F.erase n) (h.erase n) fun k hk => by
        have hk' := (List.Nodup.mem_erase_iff h).mp hk
        have := b k hk'.2
        have := hk'.1
        omega
      rw [List.length_erase_of_mem c] at e1
      omega
    · have := ih h fun k hk => by
        have := b k hk
        have : k ≠ n := fun z => c (z ▸ hk)
        omega
      omega
def sp_led (K : PySem.W.Frag) : Sp := fun vs H Q _ => ∃ (t p : Addr) (N : Nat) (ss : List Stp) (l : List Nat), vs = [.ref t, .ref p] ∧ StSq K H t ss ∧ SsOk N ss ∧ H p = some (.lst (nats l)) ∧ (∀ n ∈ l, n < N) ∧ l.length ≤ 300 ∧
  ∀ q (l' : List Nat) H', Same H H' → H q = none → H' q = some (.lst (nats l')) → (∀ n, n ∈ l' ↔ Reach ss l n) → l'.Pairwise (· < ·) → Q (.ref q) H'
/-! ### which stands have a better row -/
def impr (f D : RF) (n : Nat) : Bool := match f n with
  | none => false
  | some x => match D n with
    | none => true
    | some y => decide (y.1 < x.1)
def sp_improved (K : PySem.W.Frag) : Sp := fun vs H Q _ => ∃ (r b : Addr) (f D : RF) (kvs kvb : List (Key × V)), vs = [.ref r, .ref b] ∧ H r = some (.dK kvs) ∧ KvOk K H kvs (E2 f) ∧ H b = some (.dK kvb) ∧ KvOk K H kvb (E2 D) ∧ r ≠ b ∧ kvs.length ≤ 300 ∧
  ∀ p (l : List Nat) H', Same H H' → H p = none → H' p = some (.lst (nats l)) → (∀ n, n ∈ l ↔ impr f D n = true) → l.length ≤ 300 → Q (.ref p) H'
section
variable {P : Program} {w : World} {K : PySem.W.Frag} {mg : Str → Option Value} {base : Heap}
theorem ok_improved (T : Txt K mg) : FnOk P w K mg base (L2.CX P w) 1 T.a_improved T.fd_improved ["rows", "best"] (sp_improved K) := by
  refine T.F_improved.okX sc_improved (fun vs H Q E h => ?_) (fun cdv A outer s H vs Q E hr h => ?_)
  · obtain ⟨r, b, f, D, kvs, kvb, rfl, _⟩ := h
    rfl
  · obtain ⟨r, b, f, g, kvs, kvb, rfl, hr0, hf, hb, hg, ne, len, k⟩ := h
    refine ⟨_, (PSs.nox (pss_one (ps_ret (pe_lock (pe_lc (own := [("stand", 2)]) (g := (gName 2)) rfl sc_improved.nd (pi_keys (pv 0)) (blkOk_by (own := [("stand", 2)]) (N := ["rows", "best", "stand"]) (sc := defScope s_improved) (by decide +kernel)) (fun _ _ _ _ _ => (pg_name (i := 2) sc_improved.nd rfl (Or.inl rfl))) (fun _ _ _ _ _ => (pts_one (PW.pt (pw_or (pt_cmp (pc_dnotin (hu_of hr) (pv 2) (pv 1)) (by rfl)) (pw_or1 (pt_cmpR op_gt (pe_ix (show IxR _ (rIxT K) from ix_tup) (pe_dget (hu_of hr) (pv 0) (pv 2) (fun _ _ => rfl)) pe_int (fun _ _ => rfl)) (pe_ix (show IxR _ (rIxT K) from ix_tup) (pe_dget (hu_of hr) (pv 1) (pv 2) (fun _ _ => rfl)) pe_int (fun _ _ => rfl)) (nomark _))))))) (fun _ _ _ _ _ => (pv 2))))))), ?_⟩
    walk_at "begin"
    refine k_ret ⟨r, _, hr0, trivial, fun od => ?_⟩
    obtain ⟨HL, eL⟩ : ∃ z, z = upd H r (.frz od (.dK kvs)) := ⟨_, rfl⟩
    rw [← eL]
    have tL : Tups H HL := by rw [eL]; exact Tups.dk hr0
    have bL : HL b = some (.dK kvb) := by rw [eL, upd_ne ne.symm]; exact hb
    have rL : HL r = some (.frz od (.dK kvs)) := by rw [eL, upd_same]
    walk_at "go"
    refine ⟨_, rfl, r, od, rfl, .inl ⟨kvs, rL, fun L hL => ?_⟩⟩
    have nLr : L ≠ r := fun z => by rw [z, rL] at hL; cases hL
    have hL0 : H L = none := by rw [eL, upd_ne nLr] at hL; exact hL
    refine lc_it walk_keys (fun i H' => Same HL H' ∧ ∃ l : List Nat, H' L = some (.lst (nats l)) ∧ l.length ≤ i ∧ ∀ n, n ∈ l ↔ (impr f g n = true ∧ ∃ j v, j < i ∧ kvs[j]? = some (.inl (n : Int), v)))
      ⟨Same.new hL, [], upd_same, Nat.le_refl _, fun n => ⟨fun z => absurd z (by simp), fun ⟨_, j, _, hj, _⟩ => absurd hj (Nat.not_lt_zero _)⟩⟩ (fun i H' _ ⟨z, _⟩ => z _ _ rL) ?_ ?_
    · rintro i x H0 H1 hi ⟨z, l, el, ll, hl⟩ ⟨rfl, key, v, hk, rfl⟩
      obtain ⟨n, rfl⟩ := hf.1 (key, v) (List.mem_of_getElem? hk)
      have more : ∀ q, (q ∈ l ∨ (impr f g n = true ∧ q = n)) ↔ (impr f g q = true ∧ ∃ j v, j < i + 1 ∧ kvs[j]? = some (.inl (q : Int), v)) := fun q => by
        constructor
        · rintro (h | ⟨h, rfl⟩)
          · obtain ⟨h1, j, v', hj, e⟩ := (hl q).mp h
            exact ⟨h1, j, v', by omega, e⟩
          · exact ⟨h, i, v, by omega, hk⟩
        · rintro ⟨h1, j, v', hj, e⟩
          by_cases c : j = i
          · rw [c, hk] at e
            have e' : ((Sum.inl (n : Int) : Key), v) = (.inl (q : Int), v') := Option.some.inj e
            have e2 : n = q := (key_eq n q).mp (congrArg Prod.fst e')
            exact .inr ⟨by rw [e2]; exact h1, e2.symm⟩
          · exact .inl ((hl q).mpr ⟨h1, j, v', by omega, e⟩)
      have keep : ∀ {H2 : Hp}, H2 = H1 → impr f g n = false → (Same HL H2 ∧ ∃ l : List Nat, H2 L = some (.lst (nats l)) ∧ l.length ≤ i + 1 ∧ ∀ q, q ∈ l ↔ (impr f g q = true ∧ ∃ j v, j < i + 1 ∧ kvs[j]? = some (.inl (q : Int), v))) := by
        rintro H2 rfl h
        refine ⟨z, l, el, by omega, fun q => ?_⟩
        rw [← more q, h]
        simp
      have snoc : impr f g n = true → ∃ acc, H1 L = some (.lst acc) ∧ acc.length < sizeLine ∧ (Same HL (upd H1 L (.lst (acc ++ [V.int (n : Nat)]))) ∧ ∃ l : List Nat, (upd H1 L (.lst (acc ++ [V.int (n : Nat)]))) L = some (.lst (nats l)) ∧ l.length ≤ i + 1 ∧ ∀ q, q ∈ l ↔ (impr f g q = true ∧ ∃ j v, j < i + 1 ∧ kvs[j]? = some (.inl (q : Int), v))) := fun h => by
        refine ⟨_, el, ?_, Same.mut z hL, l ++ [n], by rw [upd_same, nats_snoc], by rw [List.length_append, List.length_singleton]; omega, fun q => ?_⟩
        · have : (nats l).length < 1000 := by unfold nats; rw [List.length_map]; omega
          exact Nat.lt_trans this (by decide)
        · rw [← more q, h, List.mem_append, List.mem_singleton]
          simp
      have dr : DGet H1 r (.int (n : Nat)) (valV kvs (.inl (n : Int))) := .inl ⟨kvs, .inl (n : Int), .inr ⟨od, z _ _ rL⟩, rfl, rfl⟩
      have db : DGet H1 b (.int (n : Nat)) (valV kvb (.inl (n : Int))) := DGet.k (k := .inl (n : Int)) (z _ _ bL)
      have fr : ∃ y, f n = some y := by
        cases e : f n with
        | some y => exact ⟨y, rfl⟩
        | none =>
          have q := (hf.2 n).1 (by unfold E2; rw [e]; rfl)
          have a := valV_any (.inl (n : Int) : Key) kvs
          rw [q] at a
          have : kvs.any (fun kv => decide (kv.1 = (.inl (n : Int) : Key))) = true := List.any_eq_true.mpr ⟨_, List.mem_of_getElem? hk, decide_eq_true rfl⟩
          rw [this] at a
          cases a
      obtain ⟨y, ey⟩ := fr
      obtain ⟨p, ep, sp⟩ := (hf.2 n).2 (ent2 y) (by unfold E2; rw [ey]; rfl)
      rw [ep] at dr
      have sp1 := (tL.sq sp)
      have sp2 := (same_tups z).sq sp1
      have ei : impr f g n = match g n with | none => true | some y' => decide (y'.1 < y.1) := by unfold impr; rw [ey]
      walk_at "st"
      refine ⟨rfl, ?_⟩
      walk_at "go"
      refine ⟨b, _, rfl, db, ?_⟩
      walk_at "go"
      cases eg : g n with
      | none =>
        rw [(hg.2 n).1 (by unfold E2; rw [eg]; rfl)]
        rw [eg] at ei
        refine iteT (iteT ?_)
        walk_at "go"
        exact snoc ei
      | some y' =>
        obtain ⟨p', ep', sp'⟩ := (hg.2 n).2 (ent2 y') (by unfold E2; rw [eg]; rfl)
        rw [ep'] at db ⊢
        rw [eg] at ei
        refine iteF ?_
        walk_at "go"
        refine ⟨r, _, rfl, dr, ?_⟩
        walk_at "go"
        refine k_ixT sp2 (v := .int y.1) rfl ?_
        walk_at "go"
        refine ⟨b, _, rfl, db, ?_⟩
        walk_at "go"
        refine k_ixT ((same_tups z).sq (tL.sq sp')) (v := .int y'.1) rfl ?_
        walk_at "go"
        refine k_ite (fun c => ?_) (fun c => ?_)
        · walk_at "go"
          exact snoc (ei.trans (decide_eq_true c))
        · exact keep rfl (ei.trans (decide_eq_false c))
    · rintro H1 ⟨z, l, el, ll, hl⟩
      refine ⟨z _ _ rL, k L l _ (fun c o ec => ?_) hL0 ?_ (fun n => ?_) (by omega)⟩
      · by_cases cr : c = r
        · rw [cr, upd_same]
          rw [cr, hr0] at ec
          exact ec
        · rw [upd_ne cr]
          exact z _ _ (by rw [eL, upd_ne cr]; exact ec)
      · rw [upd_ne nLr]; exact el
      · rw [hl n]
        refine ⟨fun h => h.1, fun h => ⟨h, ?_⟩⟩
        have fs : ∃ y, f n = some y := by
          unfold impr at h
          cases e : f n with
          | none => rw [e] at h; cases h
          | some y => exact ⟨y, rfl⟩
        obtain ⟨y, ey⟩ := fs
        obtain ⟨p, ep, _⟩ := (hf.2 n).2 (ent2 y) (by unfold E2; rw [ey]; rfl)
        have a := valV_any (.inl (n : Int) : Key) kvs
        rw [ep] at a
        obtain ⟨kv, hm, hd⟩ := List.any_eq_true.mp (a.trans rfl)
        obtain ⟨j, hj, ej⟩ := List.getElem_of_mem hm
        refine ⟨j, kv.2, hj, ?_⟩
        rw [List.getElem?_eq_getElem hj, ej]
        have : kv.1 = .inl (n : Int) := of_decide_eq_true hd
        rw [← this]
end
/-- the stands found and those that wait -/
structure Led (N : Nat) (ss : List Stp) (l F Wt : List Nat) : Prop where
  nd : F.Nodup
  bd : ∀ n ∈ F, n < N
  re : ∀ n ∈ F, Reach ss l n
  sub : ∀ n ∈ Wt, n ∈ F
  bas : ∀ n ∈ l, n ∈ F
/-- all but those that wait (and it, from the step i on) are closed -/
def Closed (ss : List Stp) (F Wt : List Nat) : Prop := ∀ s ∈ ss, s.b ∈ F → s.b ∉ Wt → s.e ∈ F
section
variable {P : Program} {w : World} {K : PySem.W.Frag} {mg : Str → Option Value} {base : Heap}
theorem ok_led_to (T : Txt K mg) : FnOk P w K mg base (L2.CX P w) 3 T.a_led_to T.fd_led_to ["steps", "begins"] (sp_led K) := by
  refine T.F_led_to.okX sc_led_to (fun vs H Q E h => ?_) (fun cdv A outer s H vs Q E hr h => ?_)
  · obtain ⟨t, p, N, ss, l, rfl, _⟩ := h
    rfl
  · obtain ⟨t, p, N, ss, l, rfl, ⟨us, ht, hs⟩, o, hp, hl, ll, k⟩ := h
    refine ⟨_, (PSs.nox (pss_cons (ps_setDc (i := 2) (own := [("stand", 4)]) (g := (gName 4)) (tt := tYes) rfl sc_led_to.nd rfl rfl (sw_trueD rfl rfl rfl (by decide +kernel)) (pi_list (pv 1)) (blkOk_by (own := [("stand", 4)]) (N := ["steps", "begins", "found", "waiting", "stand", "begun", "_", "end"]) (sc := defScope s_led_to) (by decide +kernel)) (fun _ _ _ _ _ => (pg_name (i := 4) sc_led_to.nd rfl (Or.inl rfl))) (fun _ _ _ _ _ => pts_nil) (fun _ _ _ _ _ => (pv 4)) (fun _ _ _ _ _ => pe_bl))
  (pss_cons (ps_set (i := 3) sc_led_to.nd rfl (Or.inl rfl) (pe_callTy call_list_of (by rfl) T.z_list PySem.Pv.boot_list (pa_cons (pv 1) pa_nil)))
  (pss_cons (ps_while PassesOwn.never (pt_truth (pv 3) (fun _ => rfl))
  (pss_cons (ps_set (i := 4) sc_led_to.nd rfl (Or.inl rfl) (pe_bm0 PySem.F.plainAttrs_list PySem.F.slot_list_pop PySem.F.type_list_pop mt_pop (pv 3)))
  (pss_one (ps_for PassesOwn.never rfl (pi_sq (pv 0)) (pg_tup rfl (pgs_cons (pg_name (i := 5) sc_led_to.nd rfl (Or.inl rfl)) (pgs_cons (pg_name (i := 6) sc_led_to.nd rfl (Or.inl rfl)) (pgs_cons (pg_name (i := 7) sc_led_to.nd rfl (Or.inl rfl)) (pgs_cons (pg_name (i := 6) sc_led_to.nd rfl (Or.inl rfl)) pgs_nil)))))
  (pss_one (ps_if (PW.pt (pw_and (pt_cmpR op_eq (pv 5) (pv 4) (nomark _)) (pw_and1 (pt_cmp (pc_dnotin (hu_of hr) (pv 7) (pv 2)) (by rfl)))))
  (pss_cons (ps_dput (hu_of hr) (pv 2) (pv 7) pe_bl rfl)
  (pss_one (ps_expr (pe_bm PySem.F.plainAttrs_list PySem.F.slot_list_append PySem.F.type_list_append mt_append (pv 3) (pa_cons (pv 7) pa_nil)))))
  pss_nil))))))
  (pss_one (ps_ret (pe_callB (call_sortedDI rfl) (by rfl) T.z_sorted (by decide +kernel) (pa_cons (pv 2) pa_nil)))))))), ?_⟩
    walk_at "begin"
    walk_at "go"
    refine ⟨p, rfl, ⟨_, SqL.of hp⟩, fun D hD => ?_⟩
    refine dc_lst (xs := nats l) (fun i H' => Same H H' ∧ ∃ F, H' D = some (.dK (fkv F)) ∧ F.length ≤ i ∧ F.Nodup ∧ (∀ n, n ∈ F ↔ n ∈ l.take i)) ⟨Same.new hD, [], upd_same, Nat.le_refl _, .nil, fun n => by simp⟩
      (fun i H' _ ⟨z, _⟩ => z.seq (SqL.of hp)) ?_ ?_
    · rintro i y H1 hy ⟨z, F, eF, lF, nF, mF⟩
      obtain ⟨n, hn, rfl⟩ := nats_at hy
      walk_at "go"
      refine ⟨rfl, ?_⟩
      walk_at "go"
      refine iteT ?_
      walk_at "go"
      have il := (List.getElem?_eq_some_iff.mp hn).1
      refine ⟨_, .inl (n : Int), rfl, eF, ?_, ?_⟩
      · have : (fkv F).length < 1000 := by unfold fkv; rw [List.length_map]; omega
        exact Nat.lt_trans this (by decide)
      · refine ⟨Same.mut z hD, addN F n, by rw [upd_same, putK_fkv], ?_, addN_nodup nF, fun q => ?_⟩
        · unfold addN
          split
          · omega
          · rw [List.length_append, List.length_singleton]; omega
        · rw [addN_mem, mF q, List.take_add_one, hn, List.mem_append]
          simp
    · rintro H1 ⟨z, F, eF, lF, nF, mF⟩
      have tl : l.take (nats l).length = l := by unfold nats; rw [List.length_map, List.take_length]
      rw [tl] at mF
      walk_at "go"
      refine ⟨p, _, rfl, .inl (z.seq (SqL.of hp)), fun B hB => ?_⟩
      have nDB : D ≠ B := ne_of_none eF hB
      have hB0 : H B = none := by
        cases q : H B with
        | none => rfl
        | some ob => rw [z _ _ q] at hB; cases hB
      have L0 : Led N ss l F l := ⟨nF, fun n h => hl n ((mF n).mp h), fun n h => .base ((mF n).mp h), fun n h => (mF n).mpr h, fun n h => (mF n).mpr h⟩
      have C0 : Closed ss F l := fun st _ h1 h2 => absurd ((mF _).mp h1) h2
      walk_at "go"
      refine k_whl (fun q σ H' => ∃ F Wt a4 a5 a6 a7, q = 2 * (64 - F.length) + Wt.length ∧ Same H H' ∧ H' D = some (.dK (fkv F)) ∧ H' B = some (.lst (nats Wt)) ∧ Led N ss l F Wt ∧ Closed ss F Wt ∧ q ≤ 500 ∧
        σ = [some (.ref t), some (.ref p), some (.ref D), some (.ref B), a4, a5, a6, a7]) ⟨_, F, l, none, none, none, none, rfl, Same.mut z hB0, by rw [upd_ne nDB]; exact eF, upd_same, L0, C0, by omega, rfl⟩ ?_
        (fun σ H R R' h ⟨v, e, c, t, q⟩ => ⟨v, e, c, t, h _ _ q⟩)
      rintro q σ H2 ⟨F, Wt, a4, a5, a6, a7, rfl, z, eF, eB, L, C, lW, rfl⟩
      clear mF nF lF L0 C0
      refine k_var rfl ⟨_, .inl ⟨_, SqL.of eB, rfl⟩, ?_⟩
      rcases List.eq_nil_or_concat Wt with rfl | ⟨W', st, eW⟩
      · refine iteF ?_
        walk_at "go"
        have nk : (fkv F).map (·.1) = (F.map fun n : Nat => (n : Int)).map Sum.inl := by unfold fkv; rw [List.map_map, List.map_map]; rfl
        have f8 := nodup_small L.nd L.bd
        refine ⟨D, fkv F, F.map fun n : Nat => (n : Int), rfl, .inl eF, nk, by rw [List.length_map]; have := o.n64; omega, fun ys q perm up hq => ?_⟩
        -- the sorted keys are stands again
        obtain ⟨F', rfl⟩ : ∃ F' : List Nat, ys = F'.map fun n : Nat => (n : Int) := by
          have all : ∀ y ∈ ys, ∃ n : Nat, y = (n : Int) := fun y hy => by
            have := perm.mem_iff.mp hy
            obtain ⟨n, _, rfl⟩ := List.mem_map.mp this
            exact ⟨n, rfl⟩
          clear perm up hq
          induction ys with
          | nil => exact ⟨[], rfl⟩
          | cons y ys ih =>
            obtain ⟨n, rfl⟩ := all y List.mem_cons_self
            obtain ⟨F', e⟩ := ih fun y hy => all y (List.mem_cons_of_mem _ hy)
            exact ⟨n :: F', by rw [e]; rfl⟩
        have mem : ∀ n, n ∈ F' ↔ n ∈ F := fun n => by
          have := perm.mem_iff (a := (n : Int))
          constructor
          · intro h
            have h2 := this.mp (List.mem_map.mpr ⟨n, h, rfl⟩)
            obtain ⟨n', h3, e⟩ := List.mem_map.mp h2
            have : n' = n := by exact_mod_cast e
            rw [← this]; exact h3
          · intro h
            have h2 := this.mpr (List.mem_map.mpr ⟨n, h, rfl⟩)
            obtain ⟨n', h3, e⟩ := List.mem_map.mp h2
            have : n' = n := by exact_mod_cast e
            rw [← this]; exact h3
        have inj : ∀ a b : Nat, (a : Int) = (b : Int) → a = b := fun a b e => by exact_mod_cast e
        have nd' : (F'.map fun n : Nat => (n : Int)).Nodup := perm.nodup_iff.mpr (List.Pairwise.map _ (fun a b h e => h (inj a b e)) L.nd)
        have hq0 : H q = none := by
          cases e : H q with
          | none => rfl
          | some ob => rw [z _ _ e] at hq; cases hq
        refine k q F' _ (z.trans (Same.new hq)) hq0 ?_ (fun n => ?_) ?_
        · rw [upd_same]
          unfold nats
          rw [List.map_map]
          rfl
        · rw [mem n]
          refine ⟨L.re n, fun h => ?_⟩
          induction h with
          | base h => exact L.bas _ h
          | step h _ ih => exact C _ h ih (by simp)
        · have up' : (F'.map fun n : Nat => (n : Int)).Pairwise (· < ·) := by
            have := List.Pairwise.and up nd'
            exact this.imp fun ⟨h1, h2⟩ => by omega
          rw [List.pairwise_map] at up'
          exact up'.imp fun h => by omega
      · rw [List.concat_eq_append] at eW
        subst eW
        have ne : nats (W' ++ [st]) = nats W' ++ [.int (st : Nat)] := nats_snoc W' st
        rw [ne] at eB ⊢
        have ql : (W' ++ [st]).length = W'.length + 1 := by rw [List.length_append]; rfl
        rw [ql] at lW ⊢
        obtain ⟨q0, hq0⟩ : ∃ q0, q0 = 2 * (64 - F.length) + (W'.length + 1) := ⟨_, rfl⟩
        rw [← hq0] at lW ⊢
        refine k_yes (by simp) ?_
        walk_at "go"
        refine ⟨.inl ⟨rfl, _, SqL.of eB⟩, B, _, .int (st : Nat), rfl, rfl, eB, by simp, ?_⟩
        rw [List.dropLast_concat]
        have z3 : Same H (upd H2 B (.lst (nats W'))) := Same.mut z hB0
        have t3 := same_tups z3
        have stF : st ∈ F := L.sub _ (by simp)
        walk_at "go"
        refine for_sq (xs := us) rfl ht (fun i σ H' => ∃ F Wt a5 a6 a7, 2 * (64 - F.length) + Wt.length + 1 ≤ q0 ∧ Same H H' ∧ H' D = some (.dK (fkv F)) ∧ H' B = some (.lst (nats Wt)) ∧ Led N ss l F Wt ∧ st ∈ F ∧
          (∀ s ∈ ss, s.b ∈ F → s.b ∉ Wt → s.b ≠ st → s.e ∈ F) ∧ (∀ s ∈ ss.take i, s.b = st → s.e ∈ F) ∧
          σ = [some (.ref t), some (.ref p), some (.ref D), some (.ref B), some (.int (st : Nat)), a5, a6, a7])
          ⟨F, W', _, _, _, by omega, z3, by rw [upd_ne nDB]; exact eF, upd_same, ⟨L.nd, L.bd, L.re, fun n h => L.sub n (by simp [h]), L.bas⟩, stF, fun s hs h1 h2 h3 => C s hs h1 (by simp [h2, h3]), fun s h => by simp at h, rfl⟩
          (fun i σ H' ⟨_, _, _, _, _, _, z, _⟩ => z) ?_ ?_
        · clear eF eB L C z z3 t3 stF ql hq0 ne
          rintro i y σ H3 hy ⟨F, Wt, a5, a6, a7, le, z, eF, eB, L, stF, C1, C2, rfl⟩
          have il : i < ss.length := by rw [← hs.1]; exact (List.getElem?_eq_some_iff.mp hy).1
          have ei : ss[i]? = some (ss[i]'il) := List.getElem?_eq_getElem il
          obtain ⟨q, eq, hq⟩ := hs.2 i _ ei
          rw [hy] at eq
          cases eq
          have ok1 := o.ok _ (List.getElem_mem il)
          have im : ss[i]'il ∈ ss := List.getElem_mem il
          have tk : ∀ s, s ∈ ss.take (i + 1) ↔ s ∈ ss.take i ∨ s = ss[i]'il := fun s => by rw [List.take_add_one, ei, List.mem_append]; simp
          generalize ss[i]'il = s0 at hq ok1 im tk
          have dg : DGet H3 D (.int (s0.e : Nat)) (valV (fkv F) (.inl (s0.e : Int))) := DGet.k (k := .inl (s0.e : Int)) eF
          refine k_gt ((same_tups z).sq hq) rfl ?_
          unfold stpV
          walk_at "go"
          refine k_ite (fun c => ?_) (fun c => ?_)
          · have c' : s0.b = st := by
              injection c with c
              omega
            walk_at "go"
            refine ⟨D, _, rfl, dg, ?_⟩
            walk_at "go"
            rw [valV_fkv]
            by_cases d : s0.e ∈ F
            · rw [if_pos d]
              refine iteF ?_
              walk_at "go"
              exact ⟨F, Wt, _, _, _, le, z, eF, eB, L, stF, C1, fun s h e => by
                rcases (tk s).mp h with h | rfl
                · exact C2 s h e
                · exact d, rfl⟩
            · rw [if_neg d]
              refine iteT ?_
              walk_at "go"
              have ad : addN F s0.e = F ++ [s0.e] := if_neg d
              have f8 : (fkv F).length < sizeLine := by
                have := nodup_small L.nd L.bd
                have := o.n64
                have : (fkv F).length < 1000 := by unfold fkv; rw [List.length_map]; omega
                exact Nat.lt_trans this (by decide)
              have w8 : (nats Wt).length < sizeLine := by
                have : (nats Wt).length < 1000 := by unfold nats; rw [List.length_map]; omega
                exact Nat.lt_trans this (by decide)
              refine ⟨D, _, rfl, DPut.k (k := .inl (s0.e : Int)) eF f8, ?_⟩
              rw [putK_fkv, ad]
              have eB3 : (upd H3 D (.dK (fkv (F ++ [s0.e])))) B = some (.lst (nats Wt)) := by rw [upd_ne nDB.symm]; exact eB
              walk_at "go"
              refine ⟨.inl ⟨rfl, _, SqL.of eB3⟩, ?_⟩
              walk_at "go"
              refine k_append eB3 w8 ?_
              rw [← nats_snoc]
              have nd2 : (F ++ [s0.e]).Nodup := by rw [← ad]; exact addN_nodup L.nd
              have bd2 : ∀ n ∈ F ++ [s0.e], n < N := fun n h => by
                rcases List.mem_append.mp h with h | h
                · exact L.bd n h
                · rw [List.mem_singleton.mp h]; exact ok1.e
              refine ⟨F ++ [s0.e], Wt ++ [s0.e], _, _, _, ?_, Same.mut (Same.mut z hD) hB0, by rw [upd_ne nDB, upd_same], upd_same, ⟨nd2, bd2, ?_, ?_, fun n h => List.mem_append_left _ (L.bas n h)⟩, List.mem_append_left _ stF, ?_, ?_, rfl⟩
              · have := nodup_small nd2 bd2
                have := o.n64
                rw [List.length_append, List.length_append, List.length_singleton] at *
                omega
              · intro n h
                rcases List.mem_append.mp h with h | h
                · exact L.re n h
                · rw [List.mem_singleton.mp h]
                  exact .step im (L.re _ (by rw [c']; exact stF))
              · intro n h
                rcases List.mem_append.mp h with h | h
                · exact List.mem_append_left _ (L.sub n h)
                · exact List.mem_append_right _ h
              · intro s hs h1 h2 h3
                rcases List.mem_append.mp h1 with h1 | h1
                · exact List.mem_append_left _ (C1 s hs h1 (fun z => h2 (List.mem_append_left _ z)) h3)
                · exact absurd (List.mem_append_right _ h1) h2
              · intro s h e
                rcases (tk s).mp h with h | rfl
                · exact List.mem_append_left _ (C2 s h e)
                · exact List.mem_append_right _ (List.mem_singleton.mpr rfl)
          · refine iteF ?_
            walk_at "go"
            refine ⟨F, Wt, _, _, _, le, z, eF, eB, L, stF, C1, fun s h e => ?_, rfl⟩
            rcases (tk s).mp h with h | rfl
            · exact C2 s h e
            · exact absurd (show V.int (s.b : Nat) = V.int (st : Nat) by rw [e]) c
        · rintro σ H3 ⟨F, Wt, a5, a6, a7, le, z, eF, eB, L, stF, C1, C2, rfl⟩
          rw [hs.1, List.take_length] at C2
          refine ⟨_, ?_, F, Wt, _, _, _, _, rfl, z, eF, eB, L, fun s hs h1 h2 => ?_, by omega, rfl⟩
          · omega
          · by_cases c : s.b = st
            · exact C2 s hs c
            · exact C1 s hs h1 h2 c
end
/-! ### the best rows of all -/
def lvl (sg : Int) (ss : List Stp) : Nat → RF
  | 0 => fun n => if n = 0 then some (0, []) else none
  | i + 1 => longer sg (lvl sg ss i) ss
def bst (sg : Int) (ss : List Stp) : Nat → RF
  | 0 => fun _ => none
  | i + 1 => fun n => if impr (lvl sg ss i) (bst sg ss i) n = true then lvl sg ss i n else bst sg ss i n
theorem longer_ind {sg : Int} {f : RF} {ss : List Stp} {P : Nat → Int × Wd → Prop} (h : ∀ s ∈ ss, ∀ y, f s.b = some y → P s.e (y.1 + sg * s.g, y.2 ++ [s.c])) : ∀ n y, longer sg f ss n = some y → P n y := by
  have gen : ∀ (ss' : List Stp) (acc : RF), (∀ s ∈ ss', s ∈ ss) → (∀ n y, acc n = some y → P n y) → ∀ n y, ss'.foldl (turnL sg f) acc n = some y → P n y := by
    intro ss'
    induction ss' with
    | nil => exact fun acc _ ha => ha
    | cons s r ih =>
      intro acc sub ha
      refine ih (turnL sg f acc s) (fun t ht => sub t (List.mem_cons_of_mem _ ht)) fun n y e => ?_
      unfold turnL at e
      cases fb : f s.b with
      | none => rw [fb] at e; exact ha n y e
      | some v =>
        rw [fb] at e
        dsimp only at e
        split at e
        · unfold RF.put at e
          split at e
          · rename_i q
            cases e
            rw [q]
            exact h s (sub s List.mem_cons_self) v fb
          · exact ha n y e
        · exact ha n y e
  exact gen ss _ (fun _ h => h) fun _ _ e => nomatch e
theorem lvl_sok {sg : Int} {N : Nat} {ss : List Stp} (o : SsOk N ss) : ∀ i n y, lvl sg ss i n = some y → n < N ∧ y.2.length = i
  | 0, n, y, e => by
    unfold lvl at e
    split at e
    · rename_i q
      cases e
      exact ⟨by rw [q]; exact o.n1, rfl⟩
    · cases e
  | i + 1, n, y, e => longer_ind (P := fun n y => n < N ∧ y.2.length = i + 1) (fun s hs v ev => ⟨(o.ok s hs).e, by rw [List.length_append, (lvl_sok o i _ _ ev).2]; rfl⟩) n y e
theorem lvl_ok {sg : Int} {m : MD} (o : m.Ok) : ∀ i n y, lvl sg m.ss i n = some y → n < m.n ∧ y.2.length = i := lvl_sok o.sok
def endE : List V := [.str "endless", .non]
def sp_best (K : PySem.W.Frag) : Sp := fun vs H Q _ => ∃ (t : Addr) (sg : Int) (N : Nat) (ss : List Stp), vs = [.int (N : Nat), .ref t, .int sg] ∧ StSq K H t ss ∧ SsOk N ss ∧ Sgn sg ∧
  ∀ p kvs H' (l L : List Nat), Same H H' → H p = none → H' p = some (.dK kvs) → (∀ n, n ∈ l ↔ impr (lvl sg ss N) (bst sg ss N) n = true) → (∀ n, n ∈ L ↔ Reach ss l n) →
    KvOk K H' kvs (fun n => if n ∈ L then some endE else E2 (bst sg ss N) n) → Q (.ref p) H'
section
variable {P : Program} {w : World} {K : PySem.W.Frag} {mg : Str → Option Value} {base : Heap}
theorem ok_best_rows (T : Txt K mg) : FnOk P w K mg base (L2.CX P w) 4 T.a_best_rows T.fd_best_rows ["many", "steps", "sign"] (sp_best K) := by
  refine T.F_best_rows.okX sc_best_rows (fun vs H Q E h => ?_) (fun cdv A outer s H vs Q E hr h => ?_)
  · obtain ⟨t, sg, N, ss, rfl, _⟩ := h
    rfl
  · obtain ⟨t, sg, N, ss, rfl, hm, o, hsg, k⟩ := h
    refine ⟨_, (PSs.nox (pss_cons (ps_set (i := 3) sc_best_rows.nd rfl (Or.inl rfl) pe_dnewK)
  (pss_cons (ps_set (i := 4) sc_best_rows.nd rfl (Or.inl rfl) (pe_disp (pps_cons pe_int (pe_tup (pa_cons pe_int (pa_cons pe_str pa_nil))) pps_nil) (by rfl) (by rfl) (fun z => by cases z) (by decide)))
  (pss_cons (ps_for PassesOwn.never rfl (pi_range1 (by rfl) T.z_range (pa_cons (pv 0) pa_nil)) (pg_name (i := 5) sc_best_rows.nd rfl (Or.inl rfl))
  (pss_cons (ps_set (i := 6) sc_best_rows.nd rfl (Or.inl rfl) (pe_call (ok_improved T) (hr.mono (by decide)) (by rfl) T.m_improved T.k_improved T.b_improved .nil passL (pa_cons (pv 4) (pa_cons (pv 3) pa_nil))))
  (pss_cons (ps_for PassesOwn.never rfl (pi_list (pv 6)) (pg_name (i := 7) sc_best_rows.nd rfl (Or.inl rfl))
  (pss_one (ps_dput (hu_of hr) (pv 3) (pv 7) (pe_dget (hu_of hr) (pv 4) (pv 7) (fun _ _ => rfl)) rfl)))
  (pss_one (ps_set (i := 4) sc_best_rows.nd rfl (Or.inl rfl) (pe_call (ok_longer_rows T) (hr.mono (by decide)) (by rfl) T.m_longer_rows T.k_longer_rows T.b_longer_rows .nil passL (pa_cons (pv 1) (pa_cons (pv 2) (pa_cons (pv 4) pa_nil)))))))))
  (pss_cons (ps_set (i := 8) sc_best_rows.nd rfl (Or.inl rfl) (pe_call (ok_led_to T) (hr.mono (by decide)) (by rfl) T.m_led_to T.k_led_to T.b_led_to .nil passL (pa_cons (pv 1) (pa_cons (pe_call (ok_improved T) (hr.mono (by decide)) (by rfl) T.m_improved T.k_improved T.b_improved .nil passL (pa_cons (pv 4) (pa_cons (pv 3) pa_nil))) pa_nil))))
  (pss_cons (ps_for PassesOwn.never rfl (pi_list (pv 8)) (pg_name (i := 7) sc_best_rows.nd rfl (Or.inl rfl))
  (pss_one (ps_dput (hu_of hr) (pv 3) (pv 7) (pe_tup (pa_cons (pe_glob (by rfl) T.m_ENDLESS T.r_ENDLESS) (pa_cons pe_non pa_nil))) rfl)))
  (pss_one (ps_ret (pv 3))))))))), ?_⟩
    walk_at "begin"
    walk_at "go"
    intro D hD
    walk_at "go"
    intro r hr0
    walk_at "go"
    refine ⟨(by decide : 2 ≤ sizeLine), fun q hq => ?_⟩
    walk_at "go"
    have nDr : D ≠ r := ne_of_none (upd_same (H := H) (o := .dK [])) hr0
    have nrq : r ≠ q := ne_of_none upd_same hq
    have nDq : D ≠ q := fun e => by rw [← e, upd_ne nDr, upd_same] at hq; cases hq
    have hr1 : H r = none := by rw [upd_ne nDr.symm] at hr0; exact hr0
    have z1 : Same H (upd (upd (upd H D (.dK [])) r (.dK [])) q (.tup [.int 0, .str ""])) := ((Same.new hD).trans (Same.new hr0)).trans (Same.new hq)
    refine ⟨by rw [upd_ne nrq, upd_same], [(.inl 0, .ref q)], rfl, (by decide : 1 ≤ 15), ?_⟩
    have em : mergeK [] [((.inl 0 : Key), V.ref q)] = [(.inl 0, .ref q)] := rfl
    rw [em]
    have z2 := Same.mut (o := .dK [(.inl 0, .ref q)]) z1 hr1
    generalize hH1 : upd (upd (upd (upd H D (.dK [])) r (.dK [])) q (.tup [.int 0, .str ""])) r (.dK [(.inl 0, .ref q)]) = H1 at z2 ⊢
    have eD1 : H1 D = some (.dK []) := by rw [← hH1, upd_ne nDr, upd_ne nDq, upd_ne nDr, upd_same]
    have er1 : H1 r = some (.dK [(.inl 0, .ref q)]) := by rw [← hH1, upd_same]
    have eq1 : H1 q = some (.tup [.int 0, .str ""]) := by rw [← hH1, upd_ne nrq.symm, upd_same]
    have ok0 : KvOk K H1 [(.inl 0, .ref q)] (E2 (lvl sg ss 0)) := by
      have := KvOk.put (n := 0) (KvOk.nil (K := K) (H := H1)) (l := ent2 (0, [])) (SqT.of eq1)
      refine KvOk.congr this fun n => ?_
      unfold E2 lvl
      by_cases c : n = 0
      · rw [if_pos c, if_pos c]; rfl
      · rw [if_neg c, if_neg c]; rfl
    clear hH1 z1 em hq hr0 nrq nDq eq1
    walk_at "go"
    have n8 := o.n64
    refine k_rg (by omega) (by omega) ?_
    refine for_range (lo := 0) (n := (((N : Nat) : Int)).toNat) (fun i σ H' => ∃ kvD kvR r a4 a5 a6 a7, Same H H' ∧ H' D = some (.dK kvD) ∧ KvOk K H' kvD (E2 (bst sg ss i)) ∧ kvD.length ≤ 300 * i ∧ H' r = some (.dK kvR) ∧ KvOk K H' kvR (E2 (lvl sg ss i)) ∧
      kvR.length ≤ 300 ∧ r ≠ D ∧ σ = [some (.int (N : Nat)), some (.ref t), some (.int sg), some (.ref D), some (.ref r), a4, a5, a6, a7])
      ⟨[], _, r, none, none, none, none, z2, eD1, KvOk.nil, Nat.le_refl _, er1, ok0, (by decide : 1 ≤ 300), nDr.symm, rfl⟩ ?_ ?_
    · clear z2 eD1 er1 ok0 nDr hr1
      rintro i σ H2 hi ⟨kvD, kvR, r, a4, a5, a6, a7, z, eD, okD, lD, er, okR, lR, ne, rfl⟩
      have im : i < N := hi
      walk_at "go"
      refine ⟨r, D, _, _, kvR, kvD, rfl, er, okR, eD, okD, ne, by omega, fun p l H3 z3 hp0 ep mem ll => ?_⟩
      walk_at "go"
      have nDp : D ≠ p := ne_of_none eD hp0
      refine ⟨p, rfl, ⟨_, SqL.of ep⟩, for_list (xs := nats l) (fun j σ H' => ∃ kvD' a6, Same H H' ∧ H' D = some (.dK kvD') ∧ KvOk K H' kvD' (E2 fun n => if n ∈ l.take j then lvl sg ss i n else bst sg ss i n) ∧ kvD'.length ≤ 300 * i + j ∧
        H' r = some (.dK kvR) ∧ KvOk K H' kvR (E2 (lvl sg ss i)) ∧ H' p = some (.lst (nats l)) ∧ σ = [some (.int (N : Nat)), some (.ref t), some (.int sg), some (.ref D), some (.ref r), some (.int (0 + (i : Nat))), some (.ref p), a6, a7])
        ⟨kvD, a6, z.trans z3, z3 _ _ eD, (okD.tups (same_tups z3)).congr fun n => by simp [E2], by omega, z3 _ _ er, okR.tups (same_tups z3), ep, rfl⟩ (fun _ _ _ _ ⟨_, _, _, _, _, _, _, _, h, _⟩ => SqL.of h) ?_ ?_⟩
      · rintro j y σ H4 hy ⟨kvD', a6, z4, eD4, ok4, l4, er4, okR4, ep4, rfl⟩
        obtain ⟨n, hn, rfl⟩ := nats_at hy
        have jl : j < l.length := (List.getElem?_eq_some_iff.mp hn).1
        have nm := (mem n).mp (List.mem_of_getElem? hn)
        obtain ⟨yv, ey⟩ : ∃ y, lvl sg ss i n = some y := by
          unfold impr at nm
          cases e : lvl sg ss i n with
          | none => rw [e] at nm; cases nm
          | some y => exact ⟨y, rfl⟩
        obtain ⟨p4, ep4', sp4⟩ := (okR4.2 n).2 (ent2 yv) (by unfold E2; rw [ey]; rfl)
        have dg : DGet H4 r (.int (n : Nat)) (valV kvR (.inl (n : Int))) := DGet.k (k := .inl (n : Int)) er4
        rw [ep4'] at dg
        walk_at "go"
        refine ⟨r, _, rfl, dg, ?_⟩
        walk_at "go"
        refine ⟨D, _, rfl, DPut.k (k := .inl (n : Int)) eD4 (Nat.lt_trans (show kvD'.length < 30000 by omega) (by decide)), ?_⟩
        refine ⟨_, _, Same.mut z4 hD, upd_same, ?_, by have := length_putK kvD' (.inl (n : Int)) (V.ref p4); omega, by rw [upd_ne ne]; exact er4, okR4.tups (Tups.dk eD4), by rw [upd_ne nDp.symm]; exact ep4, rfl⟩
        refine ((KvOk.put (n := n) ok4 sp4).tups (Tups.dk eD4)).congr fun n' => ?_
        have m1 : n' ∈ l.take (j + 1) ↔ n' ∈ l.take j ∨ n' = n := by rw [List.take_add_one, hn, List.mem_append]; simp
        unfold E2
        dsimp only
        by_cases c : n' = n
        · rw [if_pos c, if_pos (m1.mpr (.inr c)), c, ey]
          rfl
        · rw [if_neg c]
          by_cases d : n' ∈ l.take j
          · rw [if_pos d, if_pos (m1.mpr (.inl d))]
          · rw [if_neg d, if_neg (fun z => by rcases m1.mp z with z | z; exact d z; exact c z)]
      · rintro σ H4 ⟨kvD', a6, z4, eD4, ok4, l4, er4, okR4, ep4, rfl⟩
        have tl : l.take (nats l).length = l := by unfold nats; rw [List.length_map, List.take_length]
        rw [tl] at ok4
        have ll' : (nats l).length = l.length := by unfold nats; rw [List.length_map]
        walk_at "go"
        refine ⟨t, r, sg, N, ss, _, kvR, rfl, hm.same z4, o, er4, okR4, hsg, fun n y e => by have := (lvl_sok o i n y e).2; omega, fun p' kvs' H5 z5 hp5 ep5 ok5 l5 => ?_⟩
        walk_at "go"
        refine ⟨kvD', kvs', p', _, _, _, _, z4.trans z5, z5 _ _ eD4, (ok4.tups (same_tups z5)).congr fun n => ?_, by omega, ep5, ok5, l5, (ne_of_none eD4 hp5).symm, rfl⟩
        unfold E2
        show Option.map ent2 (if n ∈ l then lvl sg ss i n else bst sg ss i n) = Option.map ent2 (if impr (lvl sg ss i) (bst sg ss i) n = true then lvl sg ss i n else bst sg ss i n)
        by_cases c : n ∈ l
        · rw [if_pos c, if_pos ((mem n).mp c)]
        · rw [if_neg c, if_neg fun q => c ((mem n).mpr q)]
    · clear z2 eD1 er1 ok0 nDr hr1
      rintro σ H2 ⟨kvD, kvR, r, a4, a5, a6, a7, z, eD, okD, lD, er, okR, lR, ne, rfl⟩
      have nn : (((N : Nat) : Int)).toNat = N := rfl
      rw [nn] at okD okR lD
      walk_at "go"
      refine ⟨r, D, _, _, kvR, kvD, rfl, er, okR, eD, okD, ne, by omega, fun p l H3 z3 hp0 ep mem ll => ?_⟩
      walk_at "go"
      have lb : ∀ n ∈ l, n < N := fun n h => by
        have nm := (mem n).mp h
        unfold impr at nm
        cases e : lvl sg ss N n with
        | none => rw [e] at nm; cases nm
        | some y => exact (lvl_sok o _ _ _ e).1
      refine ⟨t, p, N, ss, l, rfl, hm.same (z.trans z3), o, ep, lb, ll, fun q L H4 z4 hq0 eq mL up => ?_⟩
      have nDq : D ≠ q := ne_of_none (z3 _ _ eD) hq0
      have lL : L.length ≤ 64 := by
        have nd : L.Nodup := up.imp fun h => Nat.ne_of_lt h
        have b : ∀ n ∈ L, n < N := fun n h => by
          have hr2 := (mL n).mp h
          clear h
          induction hr2 with
          | base h => exact lb _ h
          | step hs _ _ => exact (o.ok _ hs).e
        have := nodup_small nd b
        omega
      walk_at "go"
      refine ⟨q, rfl, ⟨_, SqL.of eq⟩, for_list (xs := nats L) (fun j σ H' => ∃ kvD' a6, Same H H' ∧ H' D = some (.dK kvD') ∧ KvOk K H' kvD' (fun n => if n ∈ L.take j then some endE else E2 (bst sg ss N) n) ∧ kvD'.length ≤ 20000 + j ∧
        H' q = some (.lst (nats L)) ∧ σ = [some (.int (N : Nat)), some (.ref t), some (.int sg), some (.ref D), some (.ref r), a4, a5, a6, some (.ref q)])
        ⟨kvD, a6, (z.trans z3).trans z4, z4 _ _ (z3 _ _ eD), (okD.tups (same_tups (z3.trans z4))).congr fun n => by simp, by omega, eq, rfl⟩ (fun _ _ _ _ ⟨_, _, _, _, _, _, h, _⟩ => SqL.of h) ?_ ?_⟩
      · rintro j y σ H5 hy ⟨kvD', a6, z5, eD5, ok5, l5, eq5, rfl⟩
        obtain ⟨n, hn, rfl⟩ := nats_at hy
        have jl : j < L.length := (List.getElem?_eq_some_iff.mp hn).1
        walk_at "go"
        refine ⟨(by decide : 2 ≤ sizeLine), fun pn hpn => ?_⟩
        walk_at "go"
        have eD6 : (upd H5 pn (.tup [.str "endless", .non])) D = some (.dK kvD') := by rw [upd_ne (ne_of_none eD5 hpn)]; exact eD5
        have eq6 : (upd H5 pn (.tup [.str "endless", .non])) q = some (.lst (nats L)) := by rw [upd_ne (ne_of_none eq5 hpn)]; exact eq5
        refine ⟨D, _, rfl, DPut.k (k := .inl (n : Int)) eD6 (Nat.lt_trans (show kvD'.length < 30000 by omega) (by decide)), ?_⟩
        refine ⟨_, _, Same.mut (z5.trans (Same.new hpn)) hD, upd_same, ?_, by have := length_putK kvD' (.inl (n : Int)) (V.ref pn); omega, by rw [upd_ne nDq.symm]; exact eq6, rfl⟩
        refine ((KvOk.put (n := n) (ok5.tups (Tups.new hpn)) (l := endE) (SqT.of upd_same)).tups (Tups.dk eD6)).congr fun n' => ?_
        have m1 : n' ∈ L.take (j + 1) ↔ n' ∈ L.take j ∨ n' = n := by rw [List.take_add_one, hn, List.mem_append]; simp
        by_cases c : n' = n
        · rw [if_pos c, if_pos (m1.mpr (.inr c))]
        · rw [if_neg c]
          by_cases d : n' ∈ L.take j
          · rw [if_pos d, if_pos (m1.mpr (.inl d))]
          · rw [if_neg d, if_neg (fun z => by rcases m1.mp z with z | z; exact d z; exact c z)]
      · rintro σ H5 ⟨kvD', a6, z5, eD5, ok5, l5, eq5, rfl⟩
        have tl : L.take (nats L).length = L := by unfold nats; rw [List.length_map, List.take_length]
        rw [tl] at ok5
        walk_at "go"
        exact k D kvD' H5 l L z5 hD eD5 mem mL ok5
end
/-! ### a machine is one -/
def sp_check_machine (C : Addr) : Sp := fun vs H Q _ => ∃ x dx fs, vs = [.ref x] ∧ H x = some (.ins C dx fs) ∧ Q .non H
section
variable {P : Program} {w : World} {K : PySem.W.Frag} {mg : Str → Option Value} {base : Heap}
theorem ty_Machine (T : Txt K mg) {H : Hp} {x dx : Addr} {fs : List (Str × V)} (h : H x = some (.ins T.c_Machine dx fs)) : TyX K H (.ref x) (.ref T.c_Machine) := .base (.ins h T.cl_Machine T.i1_Machine T.i2_Machine T.i3_Machine T.i4_Machine)
theorem kit_self {C : Addr} : PySem.W.kitOne K (.ref C) (.ref C) = some true := by
  unfold PySem.W.kitOne
  rw [if_pos (by simp)]
theorem ok_check_machine (T : Txt K mg) : FnOk P w K mg base (L2.CX P w) 1 T.a_check_machine T.fd_check_machine ["value"] (sp_check_machine T.c_Machine) := by
  refine T.F_check_machine.okX sc_check_machine (fun vs H Q E h => ?_) (fun cdv A outer s H vs Q E hr h => ?_)
  · obtain ⟨x, dx, fs, rfl, _⟩ := h
    rfl
  · obtain ⟨x, dx, fs, rfl, hx, k⟩ := h
    refine ⟨_, (PSs.nox (pss_one (ps_if (pt_not (pt_val (pe_callB call_isi (by rfl) T.z_isinstance (by decide +kernel) (pa_cons (pv 0) (pa_cons (pe_glob (v := .ref T.c_Machine) (by rfl) T.m_Machine rfl) pa_nil)))))
  (pss_one ps_never)
  pss_nil))), ?_⟩
    walk_at "begin"
    walk_at "go"
    refine k_isi (.own _) (ty_Machine T hx) kit_self ?_
    walk_at "go"
    refine iteF ?_
    walk_at "go"
    exact k
end
/-! ### least and greatest tallies and their rows at a stand -/
theorem lvl_small {sg : Int} {m : MD} (o : m.Ok) (hsg : sg = 1 ∨ sg = -1) : ∀ i n y, lvl sg m.ss i n = some y → -(i * 10 ^ 30 : Int) ≤ y.1 ∧ y.1 ≤ i * 10 ^ 30
  | 0, n, y, e => by
    unfold lvl at e
    split at e
    · cases e; exact ⟨by decide, by decide⟩
    · cases e
  | i + 1, n, y, e => longer_ind (P := fun n y => -(((i + 1 : Nat) : Int) * 10 ^ 30) ≤ y.1 ∧ y.1 ≤ ((i + 1 : Nat) : Int) * 10 ^ 30) (fun s hs v ev => by
      have := lvl_small o hsg i _ _ ev
      have := (o.ok s hs).g
      have := (o.ok s hs).g'
      rcases hsg with rfl | rfl
      · constructor <;> dsimp only <;> omega
      · constructor <;> dsimp only <;> omega) n y e
theorem bst_of {sg : Int} {ss : List Stp} : ∀ i n y, bst sg ss i n = some y → ∃ j, j < i ∧ lvl sg ss j n = some y
  | 0, n, y, e => nomatch e
  | i + 1, n, y, e => by
    unfold bst at e
    split at e
    · exact ⟨i, Nat.lt_succ_self _, e⟩
    · obtain ⟨j, h, q⟩ := bst_of i n y e
      exact ⟨j, by omega, q⟩
def impL (sg : Int) (m : MD) : List Nat := (List.range m.n).filter fun n => impr (lvl sg m.ss m.n) (bst sg m.ss m.n) n
theorem mem_impL {sg : Int} {m : MD} (o : m.Ok) (n : Nat) : n ∈ impL sg m ↔ impr (lvl sg m.ss m.n) (bst sg m.ss m.n) n = true := by
  unfold impL
  rw [List.mem_filter, List.mem_range]
  refine ⟨fun h => h.2, fun h => ⟨?_, h⟩⟩
  unfold impr at h
  cases e : lvl sg m.ss m.n n with
  | none => rw [e] at h; cases h
  | some y => exact (lvl_ok o _ _ _ e).1
theorem reach_congr {ss : List Stp} {l l' : List Nat} (h : ∀ n, n ∈ l ↔ n ∈ l') (n : Nat) : Reach ss l n ↔ Reach ss l' n := by
  constructor
  · intro q
    induction q with
    | base q => exact .base ((h _).mp q)
    | step q _ ih => exact .step q ih
  · intro q
    induction q with
    | base q => exact .base ((h _).mpr q)
    | step q _ ih => exact .step q ih
/-- no best tally there -/
def Endl (sg : Int) (m : MD) (n : Nat) : Prop := Reach m.ss (impL sg m) n
open Classical in
noncomputable def bestE (sg : Int) (m : MD) (n : Nat) : Option (List V) := if Endl sg m n then some endE else E2 (bst sg m.ss m.n) n
open Classical in
noncomputable def tallyAt (sg : Int) (m : MD) (n : Nat) : V := if Endl sg m n then .str "endless" else match bst sg m.ss m.n n with
  | none => .non
  | some y => .int (sg * y.1)
open Classical in
noncomputable def rowAt (sg : Int) (m : MD) (n : Nat) : V := if Endl sg m n then .non else match bst sg m.ss m.n n with
  | none => .non
  | some y => .str (sOf y.2)
def sp_check_stand (K : PySem.W.Frag) (C : Addr) : Sp := fun vs H Q _ => ∃ (x : Addr) (n : Nat) (m : MD), vs = [.ref x, .int (n : Nat)] ∧ MAt K C H x m ∧ n < m.n ∧ Q .non H
def sp_at3 (K : PySem.W.Frag) (C : Addr) (f : Int → MD → Nat → V) : Sp := fun vs H Q _ => ∃ (x : Addr) (n : Nat) (sg : Int) (m : MD), vs = [.ref x, .int (n : Nat), .int sg] ∧ MAt K C H x m ∧ m.Ok ∧ n < m.n ∧ (sg = 1 ∨ sg = -1) ∧ ∀ H', Same H H' → Q (f sg m n) H'
def sp_at2 (K : PySem.W.Frag) (C : Addr) (f : MD → Nat → V) : Sp := fun vs H Q _ => ∃ (x : Addr) (n : Nat) (m : MD), vs = [.ref x, .int (n : Nat)] ∧ MAt K C H x m ∧ m.Ok ∧ n < m.n ∧ ∀ H', Same H H' → Q (f m n) H'
section
variable {P : Program} {w : World} {K : PySem.W.Frag} {mg : Str → Option Value} {base : Heap}
theorem bestE_of {sg : Int} {m : MD} {l L : List Nat} (o : m.Ok) (h : ∀ n, n ∈ l ↔ impr (lvl sg m.ss m.n) (bst sg m.ss m.n) n = true) (h2 : ∀ n, n ∈ L ↔ Reach m.ss l n) : (fun n => if n ∈ L then some endE else E2 (bst sg m.ss m.n) n) = bestE sg m := by
  funext n
  unfold bestE Endl
  have e : n ∈ L ↔ Reach m.ss (impL sg m) n := (h2 n).trans (reach_congr (fun k => (h k).trans (mem_impL o k).symm) n)
  by_cases c : n ∈ L
  · rw [if_pos c, if_pos (e.mp c)]
  · rw [if_neg c, if_neg fun z => c (e.mpr z)]
end
/-! ### what the best rows are worth -/
theorem le_of_not {v w : Wd} (h : ¬ w < v) : v ≤ w := h
theorem wd_trans {u v w : Wd} (h : ¬ v < u) (q : ¬ w < v) : ¬ w < u := List.le_trans (le_of_not h) (le_of_not q)
theorem wd_asymm {v w : Wd} (h : v < w) : ¬ w < v := List.lt_asymm h
theorem wd_snoc : ∀ {v w : Wd} {c : Nat}, v.length = w.length → (v ++ [c] < w ++ [c] ↔ v < w)
  | [], [], c, _ => by simp
  | a :: v, b :: w, c, h => by
    have ih := wd_snoc (v := v) (w := w) (c := c) (by simpa using h)
    rw [List.cons_append, List.cons_append, List.cons_lt_cons_iff, List.cons_lt_cons_iff, ih]
  | [], _ :: _, _, h => by simp at h
  | _ :: _, [], _, h => by simp at h
/-- y is at least as good as x -/
def NW (x y : Int × Wd) : Prop := x.1 < y.1 ∨ (x.1 = y.1 ∧ ¬ x.2 < y.2)
theorem NW.refl (x : Int × Wd) : NW x x := .inr ⟨rfl, List.lt_irrefl _⟩
theorem NW.trans {x y z : Int × Wd} (h : NW x y) (q : NW y z) : NW x z := by
  rcases h with h | ⟨h1, h2⟩
  · rcases q with q | ⟨q1, q2⟩
    · exact .inl (by omega)
    · exact .inl (by omega)
  · rcases q with q | ⟨q1, q2⟩
    · exact .inl (by omega)
    · exact .inr ⟨by omega, wd_trans q2 h2⟩
theorem NW.le {x y : Int × Wd} (h : NW x y) : x.1 ≤ y.1 := by
  rcases h with h | ⟨h, _⟩ <;> omega
theorem better_no {x y : Int × Wd} (h : better x (some y) = false) : NW x y := by
  have e : better x (some y) = (decide (y.1 < x.1) || (decide (x.1 = y.1) && decide (x.2 < y.2))) := rfl
  rw [e, Bool.or_eq_false_iff, Bool.and_eq_false_iff] at h
  obtain ⟨h1, h2⟩ := h
  have h1 := of_decide_eq_false h1
  by_cases c : x.1 = y.1
  · rcases h2 with h2 | h2
    · exact absurd c (of_decide_eq_false h2)
    · exact .inr ⟨c, of_decide_eq_false h2⟩
  · exact .inl (by omega)
theorem better_yes {x y : Int × Wd} (h : better x (some y) = true) : NW y x := by
  have e : better x (some y) = (decide (y.1 < x.1) || (decide (x.1 = y.1) && decide (x.2 < y.2))) := rfl
  rw [e, Bool.or_eq_true, Bool.and_eq_true] at h
  rcases h with h | ⟨h1, h2⟩
  · exact .inl (of_decide_eq_true h)
  · exact .inr ⟨(of_decide_eq_true h1).symm, wd_asymm (of_decide_eq_true h2)⟩
theorem turnL_grow {sg : Int} {f acc : RF} {s : Stp} {n : Nat} {y : Int × Wd} (h : acc n = some y) : ∃ z, turnL sg f acc s n = some z ∧ NW y z := by
  unfold turnL
  cases fb : f s.b with
  | none => exact ⟨y, h, .refl y⟩
  | some v =>
    dsimp only
    by_cases c : better (v.1 + sg * s.g, v.2 ++ [s.c]) (acc s.e) = true
    · rw [if_pos c]
      unfold RF.put
      by_cases d : n = s.e
      · rw [if_pos d]
        rw [← d, h] at c
        exact ⟨_, rfl, better_yes c⟩
      · rw [if_neg d]
        exact ⟨y, h, .refl y⟩
    · rw [if_neg c]
      exact ⟨y, h, .refl y⟩
theorem turnL_has {sg : Int} {f acc : RF} {s : Stp} {v : Int × Wd} (h : f s.b = some v) : ∃ z, turnL sg f acc s s.e = some z ∧ NW (v.1 + sg * s.g, v.2 ++ [s.c]) z := by
  unfold turnL
  rw [h]
  dsimp only
  by_cases c : better (v.1 + sg * s.g, v.2 ++ [s.c]) (acc s.e) = true
  · rw [if_pos c]
    unfold RF.put
    rw [if_pos rfl]
    exact ⟨_, rfl, .refl _⟩
  · rw [if_neg c]
    cases e : acc s.e with
    | none => rw [e] at c; exact absurd rfl c
    | some y =>
      rw [e] at c
      exact ⟨y, rfl, better_no (by simpa using c)⟩
theorem fold_grow {sg : Int} {f : RF} {n : Nat} : ∀ (ss : List Stp) (acc : RF) (y : Int × Wd), acc n = some y → ∃ z, ss.foldl (turnL sg f) acc n = some z ∧ NW y z
  | [], _, y, h => ⟨y, h, .refl y⟩
  | s :: r, acc, y, h => by
    obtain ⟨z, e, q⟩ := turnL_grow (sg := sg) (f := f) (s := s) h
    obtain ⟨z', e', q'⟩ := fold_grow r _ z e
    exact ⟨z', e', q.trans q'⟩
theorem longer_has {sg : Int} {f : RF} {s : Stp} {v : Int × Wd} (h : f s.b = some v) : ∀ (ss : List Stp), s ∈ ss → ∀ acc : RF, ∃ z, ss.foldl (turnL sg f) acc s.e = some z ∧ NW (v.1 + sg * s.g, v.2 ++ [s.c]) z
  | a :: r, hs, acc => by
    rcases List.mem_cons.mp hs with rfl | hs
    · obtain ⟨z, e, q⟩ := turnL_has (sg := sg) (f := f) (acc := acc) h
      obtain ⟨z', e', q'⟩ := fold_grow (sg := sg) (f := f) r _ z e
      exact ⟨z', e', q.trans q'⟩
    · exact longer_has h r hs _
/-- the rows -/
def stepOf (m : MD) (b c : Nat) : Option Stp := m.ss.find? fun s => s.b == b && s.c == c
def runW (m : MD) : Nat × Int → Wd → Option (Nat × Int)
  | st, [] => some st
  | st, c :: w => match stepOf m st.1 c with
    | none => none
    | some x => runW m (x.e, st.2 + x.g) w
def run (m : MD) (w : Wd) : Option (Nat × Int) := runW m (0, 0) w
theorem runW_snoc (m : MD) (c : Nat) : ∀ (w : Wd) (st : Nat × Int), runW m st (w ++ [c]) = (runW m st w).bind fun q => (stepOf m q.1 c).map fun x => (x.e, q.2 + x.g)
  | [], st => by
    show (match stepOf m st.1 c with | none => none | some x => some (x.e, st.2 + x.g)) = (stepOf m st.1 c).map _
    cases stepOf m st.1 c <;> rfl
  | a :: w, st => by
    show (match stepOf m st.1 a with | none => none | some x => runW m (x.e, st.2 + x.g) (w ++ [c])) = (match stepOf m st.1 a with | none => none | some x => runW m (x.e, st.2 + x.g) w).bind _
    cases stepOf m st.1 a with
    | none => rfl
    | some x => exact runW_snoc m c w (x.e, st.2 + x.g)
theorem stepOf_mem {m : MD} {b c : Nat} {s : Stp} (h : stepOf m b c = some s) : s ∈ m.ss ∧ s.b = b ∧ s.c = c := by
  have h1 := List.mem_of_find?_eq_some h
  have h2 := List.find?_some h
  rw [Bool.and_eq_true] at h2
  exact ⟨h1, by simpa using h2.1, by simpa using h2.2⟩
theorem stepOf_self {m : MD} (o : m.Ok) {s : Stp} (h : s ∈ m.ss) : stepOf m s.b s.c = some s := by
  cases e : stepOf m s.b s.c with
  | none =>
    have := List.find?_eq_none.mp e s h
    simp at this
  | some t =>
    obtain ⟨h1, h2, h3⟩ := stepOf_mem e
    obtain ⟨i, hi, ei⟩ := List.getElem_of_mem h
    obtain ⟨j, hj, ej⟩ := List.getElem_of_mem h1
    have up := List.pairwise_iff_getElem.mp o.up
    have : i = j := by
      rcases Nat.lt_trichotomy i j with c | c | c
      · have := up i j hi hj c
        rw [ei, ej] at this
        rcases this with z | z <;> omega
      · exact c
      · have := up j i hj hi c
        rw [ei, ej] at this
        rcases this with z | z <;> omega
    subst this
    rw [← ei, ← ej]
theorem run_snoc {m : MD} {w : Wd} {c : Nat} {n : Nat} {t : Int} : run m (w ++ [c]) = some (n, t) ↔ ∃ u t' s, run m w = some (u, t') ∧ stepOf m u c = some s ∧ n = s.e ∧ t = t' + s.g := by
  unfold run
  rw [runW_snoc]
  constructor
  · intro h
    cases e : runW m (0, 0) w with
    | none => rw [e] at h; cases h
    | some q =>
      rw [e] at h
      cases e2 : stepOf m q.1 c with
      | none =>
        have h' : (stepOf m q.1 c).map (fun x => (x.e, q.2 + x.g)) = some (n, t) := h
        rw [e2] at h'
        cases h'
      | some s =>
        have h' : (stepOf m q.1 c).map (fun x => (x.e, q.2 + x.g)) = some (n, t) := h
        rw [e2] at h'
        have h2 : (s.e, q.2 + s.g) = (n, t) := Option.some.inj h'
        injection h2 with h3 h4
        exact ⟨q.1, q.2, s, rfl, e2, h3.symm, h4.symm⟩
  · rintro ⟨u, t', s, e, e2, rfl, rfl⟩
    rw [e]
    show (stepOf m u c).map _ = _
    rw [e2]
    rfl
theorem lvl_run {sg : Int} {m : MD} (o : m.Ok) (hsg : sg = 1 ∨ sg = -1) : ∀ i n y, lvl sg m.ss i n = some y → run m y.2 = some (n, sg * y.1)
  | 0, n, y, e => by
    unfold lvl at e
    split at e
    · rename_i q
      cases e
      rw [q, Int.mul_zero]
      rfl
    · cases e
  | i + 1, n, y, e => longer_ind (P := fun n y => run m y.2 = some (n, sg * y.1)) (fun s hs v ev => by
      refine run_snoc.mpr ⟨s.b, _, s, lvl_run o hsg i _ _ ev, stepOf_self o hs, rfl, ?_⟩
      rcases hsg with rfl | rfl
      · omega
      · omega) n y e
theorem lvl_best {sg : Int} {m : MD} (o : m.Ok) (hsg : sg = 1 ∨ sg = -1) : ∀ i (w : Wd) n t, w.length = i → run m w = some (n, t) → ∃ y, lvl sg m.ss i n = some y ∧ NW (sg * t, w) y := by
  intro i
  induction i with
  | zero =>
    intro w n t hl hr
    have : w = [] := List.eq_nil_of_length_eq_zero hl
    subst this
    cases hr
    exact ⟨(0, []), rfl, .inr ⟨by rw [Int.mul_zero], by simp⟩⟩
  | succ i ih =>
    intro w n t hl hr
    rcases List.eq_nil_or_concat w with rfl | ⟨w', c, e⟩
    · cases hl
    · rw [List.concat_eq_append] at e
      subst e
      obtain ⟨u, t', s, h1, h2, rfl, rfl⟩ := run_snoc.mp hr
      obtain ⟨hs, hb, hc⟩ := stepOf_mem h2
      have hl' : w'.length = i := by simpa using hl
      obtain ⟨v, ev, nv⟩ := ih w' u t' hl' h1
      have lv := (lvl_ok o i _ _ ev).2
      rw [← hb] at ev
      obtain ⟨z, ez, nz⟩ := longer_has (sg := sg) ev m.ss hs fun _ => none
      refine ⟨z, ez, NW.trans ?_ nz⟩
      rw [hc]
      have e1 : sg * (t' + s.g) = sg * t' + sg * s.g := Int.mul_add ..
      rcases nv with nv | ⟨n1, n2⟩
      · exact .inl (by show sg * (t' + s.g) < v.1 + sg * s.g; dsimp only at nv; omega)
      · refine .inr ⟨by show sg * (t' + s.g) = v.1 + sg * s.g; dsimp only at n1; omega, fun q => n2 ((wd_snoc (by rw [hl', lv])).mp q)⟩
/-- the best of the lengths below i, and where it is found first -/
theorem bst_spec {sg : Int} {ss : List Stp} {n : Nat} : ∀ i y, bst sg ss i n = some y → (∃ j, j < i ∧ lvl sg ss j n = some y ∧ ∀ k x, k < j → lvl sg ss k n = some x → x.1 < y.1) ∧ ∀ k x, k < i → lvl sg ss k n = some x → x.1 ≤ y.1
  | 0, _, h => nomatch h
  | i + 1, y, h => by
    unfold bst at h
    split at h
    · rename_i c
      have up : ∀ k x, k < i → lvl sg ss k n = some x → x.1 < y.1 := fun k x hk ex => by
        unfold impr at c
        rw [h] at c
        dsimp only at c
        cases eb : bst sg ss i n with
        | none =>
          exfalso
          have none_of : ∀ i, bst sg ss i n = none → ∀ k, k < i → lvl sg ss k n = none := by
            intro i
            induction i with
            | zero => exact fun _ k hk => absurd hk (Nat.not_lt_zero _)
            | succ i ih =>
              intro hn k hk
              unfold bst at hn
              split at hn
              · rename_i q
                unfold impr at q
                rw [hn] at q
                cases q
              · rename_i q
                by_cases e : k = i
                · cases el : lvl sg ss i n with
                  | none => rw [e]; exact el
                  | some z =>
                    exfalso
                    apply q
                    unfold impr
                    rw [el, hn]
                · exact ih hn k (by omega)
          have := none_of i eb k hk
          rw [ex] at this
          cases this
        | some z =>
          rw [eb] at c
          have c' := of_decide_eq_true c
          have := (bst_spec i z eb).2 k x hk ex
          omega
      refine ⟨⟨i, Nat.lt_succ_self _, h, up⟩, fun k x hk ex => ?_⟩
      by_cases e : k = i
      · rw [e, h] at ex
        cases ex
        exact Int.le_refl _
      · exact Int.le_of_lt (up k x (by omega) ex)
    · rename_i c
      obtain ⟨⟨j, hj, ej, up⟩, all⟩ := bst_spec i y h
      refine ⟨⟨j, by omega, ej, up⟩, fun k x hk ex => ?_⟩
      by_cases e : k = i
      · unfold impr at c
        rw [e] at ex
        rw [ex, h] at c
        have c' : ¬ decide (y.1 < x.1) = true := c
        have : ¬ y.1 < x.1 := fun z => c' (decide_eq_true z)
        omega
      · exact all k x (by omega) ex
theorem bst_has {sg : Int} {ss : List Stp} {n : Nat} : ∀ i k x, k < i → lvl sg ss k n = some x → ∃ y, bst sg ss i n = some y
  | i + 1, k, x, hk, ex => by
    unfold bst
    by_cases c : impr (lvl sg ss i) (bst sg ss i) n = true
    · rw [if_pos c]
      unfold impr at c
      cases e : lvl sg ss i n with
      | none => rw [e] at c; cases c
      | some y => exact ⟨y, rfl⟩
    · rw [if_neg c]
      by_cases e : k = i
      · rw [e] at ex
        unfold impr at c
        rw [ex] at c
        cases eb : bst sg ss i n with
        | none => rw [eb] at c; exact absurd rfl c
        | some y => exact ⟨y, rfl⟩
      · exact bst_has i k x (by omega) ex
/-- no row is better, if there is a best one -/
theorem no_better {sg : Int} {m : MD} (o : m.Ok) (hsg : sg = 1 ∨ sg = -1) : ∀ (k : Nat) (w : Wd) n t, w.length = k → run m w = some (n, t) → ¬ Endl sg m n → ∃ y, bst sg m.ss m.n n = some y ∧ sg * t ≤ y.1 := by
  have up : ∀ j x n, j ≤ m.n → lvl sg m.ss j n = some x → ¬ Endl sg m n → ∃ y, bst sg m.ss m.n n = some y ∧ x.1 ≤ y.1 := fun j x n hj ex hn => by
    by_cases c : j < m.n
    · obtain ⟨y, ey⟩ := bst_has m.n j x c ex
      exact ⟨y, ey, (bst_spec _ _ ey).2 j x c ex⟩
    · have e : j = m.n := by omega
      rw [e] at ex
      have ni : ¬ impr (lvl sg m.ss m.n) (bst sg m.ss m.n) n = true := fun q => hn (.base ((mem_impL o n).mpr q))
      unfold impr at ni
      rw [ex] at ni
      cases eb : bst sg m.ss m.n n with
      | none => rw [eb] at ni; exact absurd rfl ni
      | some y =>
        rw [eb] at ni
        refine ⟨y, rfl, ?_⟩
        have : ¬ y.1 < x.1 := fun z => ni (decide_eq_true z)
        omega
  intro k
  induction k with
  | zero =>
    intro w n t hl hr hn
    have e0 : w = [] := List.eq_nil_of_length_eq_zero hl
    subst e0
    cases hr
    obtain ⟨y, ey, hy⟩ := up 0 (0, []) 0 (Nat.zero_le _) rfl hn
    exact ⟨y, ey, by rw [Int.mul_zero]; exact hy⟩
  | succ k ih =>
    intro w n t hl hr hn
    rcases List.eq_nil_or_concat w with rfl | ⟨w', c, e⟩
    · cases hl
    · rw [List.concat_eq_append] at e
      subst e
      obtain ⟨u, t', s, h1, h2, rfl, rfl⟩ := run_snoc.mp hr
      obtain ⟨hs, hb, hc⟩ := stepOf_mem h2
      have hu : ¬ Endl sg m u := fun q => hn (.step hs (by rw [hb]; exact q))
      obtain ⟨y, ey, hy⟩ := ih w' u t' (by simpa using hl) h1 hu
      obtain ⟨⟨j, hj, ej, _⟩, _⟩ := bst_spec _ _ ey
      have r1 := lvl_run o hsg j _ _ ej
      have l1 := (lvl_ok o j _ _ ej).2
      obtain ⟨x, ex, nx⟩ := lvl_best o hsg (j + 1) (y.2 ++ [c]) s.e (sg * y.1 + s.g) (by rw [List.length_append, l1]; rfl) (run_snoc.mpr ⟨u, _, s, r1, h2, rfl, rfl⟩)
      obtain ⟨z, ez, hz⟩ := up (j + 1) x s.e (by omega) ex hn
      refine ⟨z, ez, ?_⟩
      have := nx.le
      dsimp only at this
      rcases hsg with rfl | rfl
      · omega
      · omega
/-- the best one that is told is the least of the shortest ones -/
theorem first_best {sg : Int} {m : MD} (o : m.Ok) (hsg : sg = 1 ∨ sg = -1) {w : Wd} {n : Nat} {t : Int} {y : Int × Wd} (hr : run m w = some (n, t)) (ey : bst sg m.ss m.n n = some y) (ht : sg * t = y.1) : y.2.length < w.length ∨ (y.2.length = w.length ∧ ¬ w < y.2) := by
  obtain ⟨⟨j, hj, ej, first⟩, all⟩ := bst_spec _ _ ey
  have l1 := (lvl_ok o j _ _ ej).2
  by_cases c : w.length < m.n
  · obtain ⟨x, ex, nx⟩ := lvl_best o hsg w.length w n t rfl hr
    have hx := all _ _ c ex
    rcases nx with nx | ⟨n1, n2⟩
    · dsimp only at nx
      omega
    · dsimp only at n1 n2
      rcases Nat.lt_trichotomy w.length j with d | d | d
      · have := first _ _ d ex
        omega
      · rw [d, ej] at ex
        cases ex
        exact .inr ⟨by omega, n2⟩
      · exact .inl (by omega)
  · exact .inl (by omega)
/-! ### two words one after the other -/
theorem runW_append (m : MD) (v : Wd) : ∀ (u : Wd) (st : Nat × Int), runW m st (u ++ v) = (runW m st u).bind fun q => runW m q v
  | [], st => rfl
  | a :: u, st => by
    show (match stepOf m st.1 a with | none => none | some x => runW m (x.e, st.2 + x.g) (u ++ v)) = (match stepOf m st.1 a with | none => none | some x => runW m (x.e, st.2 + x.g) u).bind _
    cases stepOf m st.1 a with
    | none => rfl
    | some x => exact runW_append m v u (x.e, st.2 + x.g)
/-! ### the steps from a stand -/
def nxV (s : Stp) : List V := [.str ⟨#[s.c]⟩, .int (s.e : Nat), .int s.g]
def NxAt (K : PySem.W.Frag) (H : Hp) (vs : List V) (ns : List Stp) : Prop := vs.length = ns.length ∧ ∀ (i : Nat) (s : Stp), ns[i]? = some s → ∃ p, vs[i]? = some (V.ref p) ∧ SqT K H p (nxV s)
theorem NxAt.tups {K : PySem.W.Frag} {H H' : Hp} {vs : List V} {ns : List Stp} (h : NxAt K H vs ns) (t : Tups H H') : NxAt K H' vs ns := ⟨h.1, fun i s e => let ⟨p, q, z⟩ := h.2 i s e; ⟨p, q, t.sq z⟩⟩
theorem NxAt.snoc {K : PySem.W.Frag} {H : Hp} {vs : List V} {ns : List Stp} {p : Addr} {s : Stp} (h : NxAt K H vs ns) (q : SqT K H p (nxV s)) : NxAt K H (vs ++ [V.ref p]) (ns ++ [s]) := by
  refine ⟨by rw [List.length_append, List.length_append, h.1]; rfl, fun i t e => ?_⟩
  by_cases c : i < ns.length
  · rw [List.getElem?_append_left c] at e
    obtain ⟨r, e1, q1⟩ := h.2 i t e
    exact ⟨r, by rw [List.getElem?_append_left (by rw [h.1]; exact c)]; exact e1, q1⟩
  · rw [List.getElem?_append_right (by omega)] at e
    have z : i - ns.length = 0 := by
      have := (List.getElem?_eq_some_iff.mp e).1
      simp at this
      omega
    rw [z] at e
    cases e
    exact ⟨p, by rw [List.getElem?_append_right (by rw [h.1]; omega), h.1, z]; rfl, q⟩
def fromS (m : MD) (n : Nat) : List Stp := m.ss.filter fun s => s.b == n
def sp_next (K : PySem.W.Frag) : Sp := fun vs H Q _ => ∃ (d : Addr) (n : Nat) (m : MD), vs = [.ref d, .int (n : Nat)] ∧ DAt K H d m ∧ m.Ok ∧
  ∀ p us H', Same H H' → H p = none → H' p = some (.lst us) → NxAt K H' us (fromS m n) → Q (.ref p) H'
section
variable {P : Program} {w : World} {K : PySem.W.Frag} {mg : Str → Option Value} {base : Heap}
theorem ok_law_next (T : Txt K mg) : FnOk P w K mg base (L2.CX P w) 1 T.a_law_next T.fd_law_next ["_law_d", "_law_stand"] (sp_next K) := by
  refine T.F_law_next.okX sc_law_next (fun vs H Q E h => ?_) (fun cdv A outer s H vs Q E hr h => ?_)
  · obtain ⟨d, n, m, rfl, _⟩ := h
    rfl
  · obtain ⟨d, n, m, rfl, ⟨t, u, hd, ⟨us, ht, hs⟩, hu⟩, o, k⟩ := h
    refine ⟨_, (PSs.nox (pss_one (ps_ret (pe_lc (own := [("_law_begun", 2), ("_law_letter", 3), ("_law_end", 4), ("_law_gain", 5)]) (g := (gTup K 4 (gCons (gName 2) (gCons (gName 3) (gCons (gName 4) (gCons (gName 5) gNil)))))) rfl sc_law_next.nd (pi_tup (pe_dget (hu_of hr) (pv 0) pe_str (fun _ _ => rfl))) (blkOk_by (own := [("_law_begun", 2), ("_law_letter", 3), ("_law_end", 4), ("_law_gain", 5)]) (N := ["_law_d", "_law_stand", "_law_begun", "_law_letter", "_law_end", "_law_gain"]) (sc := defScope s_law_next) (by decide +kernel)) (fun _ _ _ _ _ => (pg_tup rfl (pgs_cons (pg_name (i := 2) sc_law_next.nd rfl (Or.inl rfl)) (pgs_cons (pg_name (i := 3) sc_law_next.nd rfl (Or.inl rfl)) (pgs_cons (pg_name (i := 4) sc_law_next.nd rfl (Or.inl rfl)) (pgs_cons (pg_name (i := 5) sc_law_next.nd rfl (Or.inl rfl)) pgs_nil)))))) (fun _ _ _ _ _ => (pts_one (pt_cmpR op_eq (pv 2) (pv 1) (nomark _)))) (fun _ _ _ _ _ => (pe_tup (pa_cons (pv 3) (pa_cons (pv 4) (pa_cons (pv 5) pa_nil))))))))), ?_⟩
    walk_at "begin"
    walk_at "go"
    refine ⟨d, .ref t, rfl, DGet.k (k := .inr "steps") hd, t, rfl, ⟨us, ht⟩, fun D hD => ?_⟩
    refine lc_tup (xs := us) (fun i H' => Same H H' ∧ ∃ ws, H' D = some (.lst ws) ∧ NxAt K H' ws ((m.ss.take i).filter fun s => s.b == n) ∧ ws.length ≤ i) ⟨Same.new hD, [], upd_same, ⟨rfl, fun i s e => by simp at e⟩, Nat.le_refl _⟩
      (fun i H' _ ⟨z, _⟩ => (same_tups z).sq ht) ?_ ?_
    · rintro i y H1 hy ⟨z, ws, eD, nx, lw⟩
      have il : i < m.ss.length := by rw [← hs.1]; exact (List.getElem?_eq_some_iff.mp hy).1
      have ei : m.ss[i]? = some (m.ss[i]'il) := List.getElem?_eq_getElem il
      obtain ⟨q, eq, hq⟩ := hs.2 i _ ei
      rw [hy] at eq
      cases eq
      have l32 := o.len
      have tk : (m.ss.take (i + 1)).filter (fun s => s.b == n) = (m.ss.take i).filter (fun s => s.b == n) ++ (if (m.ss[i]'il).b == n then [m.ss[i]'il] else []) := by
        rw [List.take_add_one, ei, List.filter_append]
        congr 1
        show List.filter _ [m.ss[i]'il] = _
        rw [List.filter_cons]
        rfl
      rw [tk]
      generalize m.ss[i]'il = s0 at hq
      refine k_gt ((same_tups z).sq hq) rfl ?_
      unfold stpV
      walk_at "go"
      refine ⟨rfl, ?_⟩
      walk_at "go"
      refine k_ite (fun c => ?_) (fun c => ?_)
      · have c' : s0.b = n := by
          injection c with c
          omega
        walk_at "go"
        refine ⟨(by decide : 3 ≤ sizeLine), fun pn hpn => ?_⟩
        have eD2 : (upd H1 pn (.tup [.str ⟨#[s0.c]⟩, .int (s0.e : Nat), .int s0.g])) D = some (.lst ws) := by rw [upd_ne (ne_of_none eD hpn)]; exact eD
        refine ⟨ws, eD2, Nat.lt_trans (show ws.length < 100 by omega) (by decide), Same.mut (z.trans (Same.new hpn)) hD, _, upd_same, ?_, by rw [List.length_append, List.length_singleton]; omega⟩
        rw [if_pos (by rw [c']; exact beq_self_eq_true n)]
        exact ((nx.tups (Tups.new hpn)).snoc (SqT.of upd_same)).tups (Tups.lst eD2)
      · have c' : ¬ s0.b = n := fun z => c (by rw [z])
        refine ⟨z, ws, eD, ?_, by omega⟩
        rw [if_neg (by simpa using c'), List.append_nil]
        exact nx
    · rintro H1 ⟨z, ws, eD, nx, lw⟩
      rw [hs.1, List.take_length] at nx
      walk_at "go"
      exact k D ws H1 z hD eD nx
end
/-! ### words; the steps told as data -/
theorem bl_ne (b : Bool) : decide (V.bl (!b) = V.bl b) = false := by cases b <;> rfl
theorem sOf_fits {w : Wd} (h : w.length ≤ 100) : (sOf w).length ≤ sizeLine := by rw [sOf_len]; exact Nat.le_trans h (by decide)
theorem dp2 {K : PySem.W.Frag} {H : Hp} {p : Addr} {i j : Int} (h : SqT K H p [.int i, .int j]) : Dp K H (.ref p) (.tuple [.int i, .int j]) := .tup h (.cons (.int _) (.cons (.int _) .nil))
theorem eqv2 (i j : Int) : PyData.eqv (.tuple [.int i, .int j]) (.tuple [.int i, .int j]) = true := by
  show ((i == i) && ((j == j) && true)) = true
  simp
def nxD (s : Stp) : PyData := .tuple [.str ⟨#[s.c]⟩, .int (s.e : Nat), .int s.g]
theorem dp_nx {K : PySem.W.Frag} {H : Hp} : ∀ {us : List V} {ns : List Stp}, NxAt K H us ns → DpAll K H us (ns.map nxD)
  | [], [], _ => .nil
  | [], _ :: _, h => by have := h.1; simp at this
  | _ :: _, [], h => by have := h.1; simp at this
  | v :: us, s :: ns, h => by
    obtain ⟨p, e, q⟩ := h.2 0 s rfl
    have ev : v = .ref p := Option.some.inj e
    subst ev
    refine .cons (.tup q (.cons (.str _) (.cons (.int _) (.cons (.int _) .nil)))) (dp_nx (ns := ns) ⟨by have := h.1; simpa using this, fun i t et => h.2 (i + 1) t et⟩)
theorem nx_shaped : ∀ {ns : List Stp}, (∀ s ∈ ns, s.c ≤ 100) → PyData.canLayAll0 (ns.map nxD) = true ∧ PyData.depthAll (ns.map nxD) ≤ 3
  | [], _ => ⟨rfl, Nat.zero_le _⟩
  | s :: ns, h => by
    obtain ⟨h1, h2⟩ := nx_shaped (ns := ns) fun t ht => h t (List.mem_cons_of_mem _ ht)
    have hc := h s List.mem_cons_self
    constructor
    · show (PyData.canLay0 (nxD s) && PyData.canLayAll0 (ns.map nxD)) = true
      rw [h1, Bool.and_true]
      show ((#[s.c].all (· < 0x110000)) && (true && (true && true))) = true
      simp
      omega
    · show max (PyData.depth (nxD s)) (PyData.depthAll (ns.map nxD)) ≤ 3
      have : PyData.depth (nxD s) ≤ 3 := by
        show max _ (max _ (max _ _)) + 1 ≤ 3
        simp [PyData.depth, PyData.depthAll]
      omega
theorem nx_sh {ns : List Stp} (h : ∀ s ∈ ns, s.c ≤ 100) : SeqAt.shaped (.list (ns.map nxD)) = true := by
  obtain ⟨h1, h2⟩ := nx_shaped h
  show (PyData.canLayAll0 (ns.map nxD) && decide (PyData.depthAll (ns.map nxD) + 1 ≤ 64)) = true
  rw [h1, Bool.true_and]
  exact decide_eq_true (by omega)
theorem nx_eqv (ns : List Stp) : PyData.eqv (.list (ns.map nxD)) (.list []) = ns.isEmpty := by
  cases ns with
  | nil => rfl
  | cons s ns => rfl
/-! ### the reached stands, round by round -/
theorem addN_len {F : List Nat} {n : Nat} : F.length ≤ (addN F n).length := by
  unfold addN
  split
  · exact Nat.le_refl _
  · rw [List.length_append]
    omega
def ClosedS (m : MD) (F : List Nat) : Prop := ∀ s ∈ m.ss, s.b ∈ F → s.e ∈ F
theorem reach_closed {m : MD} {F : List Nat} (h0 : 0 ∈ F) (c : ClosedS m F) : ∀ n, Reach m.ss [0] n → n ∈ F := fun n q => by
  induction q with
  | base q => rw [List.mem_singleton.mp q]; exact h0
  | step hs _ ih => exact c _ hs ih
theorem mem_fromS' {m : MD} {n : Nat} {s : Stp} : s ∈ fromS m n ↔ s ∈ m.ss ∧ s.b = n := by
  unfold fromS
  rw [List.mem_filter]
  simp
/-- what stands found in a round: of F those before, at least those of G and of what they lead to, but no others than the reached ones -/
structure Fd (m : MD) (F : List Nat) : Prop where
  zero : 0 ∈ F
  nd : F.Nodup
  lt : ∀ k ∈ F, k < m.n
  re : ∀ k ∈ F, Reach m.ss [0] k
theorem Fd.add {m : MD} {F : List Nat} (o : m.Ok) (h : Fd m F) {s : Stp} (hs : s ∈ m.ss) (hb : s.b ∈ F) : Fd m (addN F s.e) :=
  ⟨addN_mem.mpr (.inl h.zero), addN_nodup h.nd, fun k hk => by
    rcases addN_mem.mp hk with hk | rfl
    · exact h.lt k hk
    · exact (o.ok s hs).e, fun k hk => by
    rcases addN_mem.mp hk with hk | rfl
    · exact h.re k hk
    · exact .step hs (h.re _ hb)⟩
theorem asc_eq : ∀ {l l' : List Nat}, l.Pairwise (· < ·) → l'.Pairwise (· < ·) → (∀ n, n ∈ l ↔ n ∈ l') → l = l'
  | [], [], _, _, _ => rfl
  | [], a :: _, _, _, h => absurd ((h a).mpr List.mem_cons_self) (by simp)
  | a :: _, [], _, _, h => absurd ((h a).mp List.mem_cons_self) (by simp)
  | a :: l, b :: l', h1, h2, h => by
    have p1 := List.pairwise_cons.mp h1
    have p2 := List.pairwise_cons.mp h2
    have e : a = b := by
      rcases List.mem_cons.mp ((h a).mp List.mem_cons_self) with e | e
      · exact e
      · rcases List.mem_cons.mp ((h b).mpr List.mem_cons_self) with d | d
        · exact d.symm
        · have := p1.1 b d
          have := p2.1 a e
          omega
    subst e
    rw [asc_eq p1.2 p2.2 fun n => ⟨fun q => by
      rcases List.mem_cons.mp ((h n).mp (List.mem_cons_of_mem _ q)) with e | e
      · have := p1.1 n q; omega
      · exact e, fun q => by
      rcases List.mem_cons.mp ((h n).mpr (List.mem_cons_of_mem _ q)) with e | e
      · have := p2.1 n q; omega
      · exact e⟩]
def Grown (l l' : List Nat) : Prop := (∀ k ∈ l, k ∈ l') ∧ (l' = l ∨ l.length < l'.length)
theorem Grown.add {l l' : List Nat} {n : Nat} (g : Grown l l') : Grown l (addN l' n) := by
  refine ⟨fun k hk => addN_mem.mpr (.inl (g.1 k hk)), ?_⟩
  unfold addN
  split
  · exact g.2
  · right
    rw [List.length_append, List.length_singleton]
    rcases g.2 with e | e
    · rw [e]; omega
    · omega
theorem inV_nats (n : Nat) : ∀ l : List Nat, inV (.int (n : Nat)) (nats l) = decide (n ∈ l)
  | [] => rfl
  | a :: l => by
    have ih := inV_nats n l
    unfold inV nats at ih ⊢
    rw [List.map_cons, List.any_cons, ih]
    have e : eqV (.int (a : Nat)) (.int (n : Nat)) = decide (n = a) := by
      show ((((a : Nat) : Int)) == ((n : Nat) : Int)) = decide (n = a)
      rw [Bool.eq_iff_iff, beq_iff_eq, decide_eq_true_iff]
      omega
    rw [e]
    by_cases c : n = a
    · subst c
      simp
    · simp [c]
theorem flat_nats : ∀ l : List Nat, (nats l).all flatV = true
  | [] => rfl
  | a :: l => by
    show (flatV (.int (a : Nat)) && (nats l).all flatV) = true
    rw [flat_nats l]
    rfl
def sp_lreached (K : PySem.W.Frag) : Sp := fun vs H Q _ => ∃ (d : Addr) (m : MD), vs = [.ref d] ∧ DAt K H d m ∧ m.Ok ∧
  ∀ q (l' : List Nat) H', Same H H' → H q = none → H' q = some (.lst (nats l')) → (∀ n, n ∈ l' ↔ Reach m.ss [0] n) → l'.Pairwise (· < ·) → Q (.ref q) H'
def sp_reached (K : PySem.W.Frag) (C : Addr) : Sp := fun vs H Q _ => ∃ (x : Addr) (m : MD), vs = [.ref x] ∧ MAt K C H x m ∧ m.Ok ∧
  ∀ q (l' : List Nat) H', Same H H' → H q = none → H' q = some (.lst (nats l')) → (∀ n, n ∈ l' ↔ Reach m.ss [0] n) → l'.Pairwise (· < ·) → Q (.ref q) H'
section
variable {P : Program} {w : World} {K : PySem.W.Frag} {mg : Str → Option Value} {base : Heap}
theorem ok_law_reached (T : Txt K mg) : FnOk P w K mg base (L2.CX P w) 2 T.a_law_reached T.fd_law_reached ["_law_d"] (sp_lreached K) := by
  refine T.F_law_reached.okX sc_law_reached (fun vs H Q E h => ?_) (fun cdv A outer s H vs Q E hr h => ?_)
  · obtain ⟨d, m, rfl, _⟩ := h
    rfl
  · obtain ⟨d, m, rfl, hd, o, k⟩ := h
    refine ⟨_, (PSs.nox (pss_cons (ps_set (i := 1) sc_law_reached.nd rfl (Or.inl rfl) (pe_lst (pa_cons pe_int pa_nil)))
  (pss_cons (ps_for PassesOwn.never rfl (pi_range1 (by rfl) T.z_range (pa_cons (pe_dget (hu_of hr) (pv 0) pe_str (fun _ _ => rfl)) pa_nil)) (pg_name (i := 2) sc_law_reached.nd rfl (Or.inl rfl))
  (pss_one (ps_for PassesOwn.never rfl (pi_list (pe_callTy call_list_of (by rfl) T.z_list PySem.Pv.boot_list (pa_cons (pv 1) pa_nil))) (pg_name (i := 3) sc_law_reached.nd rfl (Or.inl rfl))
  (pss_one (ps_for PassesOwn.never rfl (pi_list (pe_call (ok_law_next T) (hr.mono (by decide)) (by rfl) T.m_law_next T.k_law_next T.b_law_next .nil passL (pa_cons (pv 0) (pa_cons (pv 3) pa_nil)))) (pg_tup rfl (pgs_cons (pg_name (i := 4) sc_law_reached.nd rfl (Or.inl rfl)) (pgs_cons (pg_name (i := 5) sc_law_reached.nd rfl (Or.inl rfl)) (pgs_cons (pg_name (i := 6) sc_law_reached.nd rfl (Or.inl rfl)) pgs_nil))))
  (pss_one (ps_if (pt_cmpR op_notIn_seq (pv 5) (pv 1) (by rfl))
  (pss_one (ps_expr (pe_bm PySem.F.plainAttrs_list PySem.F.slot_list_append PySem.F.type_list_append mt_append (pv 1) (pa_cons (pv 5) pa_nil))))
  pss_nil)))))))
  (pss_one (ps_ret (pe_callB cr_sortedI (by rfl) T.z_sorted (by decide +kernel) (pa_cons (pv 1) pa_nil))))))), ?_⟩
    walk_at "begin"
    walk_at "go"
    refine ⟨(by decide : 1 ≤ sizeLine), fun F hF => ?_⟩
    walk_at "go"
    have zF := Same.new (o := .lst [.int 0]) hF
    have eF := upd_same (H := H) (a := F) (o := .lst [.int 0])
    have n8 := o.n8
    generalize upd H F (.lst [.int 0]) = H1 at zF eF ⊢
    obtain ⟨t, u, ed, _⟩ := id hd
    refine ⟨d, .int (m.n : Nat), rfl, DGet.k (k := .inr "stands") (zF _ _ ed), ?_⟩
    walk_at "go"
    refine k_rg (by omega) (by omega) ?_
    refine for_range (lo := 0) (n := (((m.n : Nat) : Int)).toNat) (fun i σ H' => ∃ l a2 a3 a4 a5 a6, Same H H' ∧ H' F = some (.lst (nats l)) ∧ Fd m l ∧ (ClosedS m l ∨ i + 1 ≤ l.length) ∧ σ = [some (.ref d), some (.ref F), a2, a3, a4, a5, a6])
      ⟨[0], _, _, _, _, _, zF, eF, ⟨List.mem_singleton.mpr rfl, by simp, fun k hk => by rw [List.mem_singleton.mp hk]; exact o.n1, fun k hk => .base hk⟩, .inr (Nat.le_refl _), rfl⟩ ?_ ?_
    · rintro i σ H2 hi ⟨l, a2, a3, a4, a5, a6, z2, eF2, fd, hcl, rfl⟩
      walk_at "go"
      refine ⟨F, nats l, rfl, .inl (SqL.of eF2), fun G hG => ?_⟩
      have zG := Same.new (o := .lst (nats l)) hG
      have eG := upd_same (H := H2) (a := G) (o := .lst (nats l))
      have nGF : G ≠ F := by intro e; rw [e, eF2] at hG; cases hG
      have z3 := z2.trans zG
      have eF3 := zG _ _ eF2
      generalize upd H2 G (.lst (nats l)) = H3 at z3 eF3 eG ⊢
      refine ⟨G, rfl, ⟨_, SqL.of eG⟩, for_list (xs := nats l) (fun j σ H' => ∃ l' a3 a4 a5 a6, Same H H' ∧ H' G = some (.lst (nats l)) ∧ H' F = some (.lst (nats l')) ∧ Fd m l' ∧ Grown l l' ∧ (∀ b n, b < j → l[b]? = some n → ∀ s ∈ m.ss, s.b = n → s.e ∈ l') ∧
          σ = [some (.ref d), some (.ref F), some (.int (0 + (i : Nat))), a3, a4, a5, a6])
        ⟨l, _, _, _, _, z3, eG, eF3, fd, ⟨fun _ h => h, .inl rfl⟩, fun b n h => absurd h (Nat.not_lt_zero _), rfl⟩ (fun _ _ _ _ ⟨_, _, _, _, _, _, e, _⟩ => SqL.of e) ?_ ?_⟩
      · rintro j y σ H4 hy ⟨l', b3, b4, b5, b6, z4, eG4, eF4, fd4, g4, al, rfl⟩
        obtain ⟨n, en, rfl⟩ := nats_at hy
        have hn : n ∈ l := List.mem_of_getElem? en
        walk_at "go"
        refine ⟨d, n, m, rfl, hd.same z4, o, fun p us H5 z5 hp ep nx => ?_⟩
        have npF : p ≠ F := by intro e; rw [e, eF4] at hp; cases hp
        refine ⟨p, rfl, ⟨_, SqL.of ep⟩, for_list (xs := us) (fun c σ H' => ∃ l' a4 a5 a6, Same H H' ∧ H' G = some (.lst (nats l)) ∧ H' F = some (.lst (nats l')) ∧ H' p = some (.lst us) ∧ NxAt K H' us (fromS m n) ∧ Fd m l' ∧ Grown l l' ∧ (∀ b n, b < j → l[b]? = some n → ∀ s ∈ m.ss, s.b = n → s.e ∈ l') ∧
            (∀ s ∈ (fromS m n).take c, s.e ∈ l') ∧ σ = [some (.ref d), some (.ref F), some (.int (0 + (i : Nat))), some (.int (n : Nat)), a4, a5, a6])
          ⟨l', _, _, _, z4.trans z5, z5 _ _ eG4, z5 _ _ eF4, ep, nx, fd4, g4, al, fun s hs => by simp at hs, rfl⟩ (fun _ _ _ _ ⟨_, _, _, _, _, _, _, e, _⟩ => SqL.of e) ?_ ?_⟩
        · rintro c y σ H6 hc ⟨l2, c4, c5, c6, z6, eG6, eF6, ep6, nx6, fd6, g6, al6, tk6, rfl⟩
          have cl : c < (fromS m n).length := by rw [← nx6.1]; exact (List.getElem?_eq_some_iff.mp hc).1
          have es : (fromS m n)[c]? = some ((fromS m n)[c]'cl) := List.getElem?_eq_getElem cl
          have hs : (fromS m n)[c]'cl ∈ fromS m n := List.getElem_mem cl
          have tk : (fromS m n).take (c + 1) = (fromS m n).take c ++ [(fromS m n)[c]'cl] := by rw [List.take_add_one, es]; rfl
          rw [tk]
          generalize (fromS m n)[c]'cl = s0 at es hs
          obtain ⟨hs1, hs2⟩ := mem_fromS'.mp hs
          obtain ⟨q, eq, hq⟩ := nx6.2 _ _ es
          rw [hc] at eq
          cases eq
          refine k_gt hq rfl ?_
          unfold nxV
          walk_at "go"
          refine ⟨F, nats l2, rfl, .inl (SqL.of eF6), rfl, flat_nats _, ?_⟩
          rw [inV_nats]
          have nF : H F = none ∨ True := .inr trivial
          have l2l : l2.length ≤ 8 := Nat.le_trans (nodup_small fd6.nd fd6.lt) n8
          have fd7 := fd6.add o hs1 (by rw [hs2]; exact g6.1 n hn)
          have e7 : ∀ k, k ∈ l2 → k ∈ addN l2 s0.e := fun k hk => addN_mem.mpr (.inl hk)
          walk_at "go"
          refine k_iteN (fun c => ?_) (fun c => ?_)
          · walk_at "go"
            have ea : addN l2 s0.e = l2 := by unfold addN; rw [if_pos c]
            refine ⟨l2, _, _, _, z6, eG6, eF6, ep6, nx6, fd6, g6, al6, fun s h => ?_, rfl⟩
            rcases List.mem_append.mp h with h | h
            · exact tk6 s h
            · rw [List.mem_singleton.mp h]; exact c
          · walk_at "go"
            have ea : addN l2 s0.e = l2 ++ [s0.e] := by unfold addN; rw [if_neg c]
            refine ⟨.inl ⟨rfl, _, SqL.of eF6⟩, ?_⟩
            walk_at "go"
            refine k_append eF6 (by unfold nats; rw [List.length_map]; exact Nat.lt_of_le_of_lt l2l (by decide)) ?_
            have ft := Tups.lst (o := .lst (nats l2 ++ [.int (s0.e : Nat)])) eF6
            refine ⟨addN l2 s0.e, _, _, _, Same.mut z6 hF, by rw [upd_ne nGF]; exact eG6, by rw [upd_same, ea, nats_snoc], by rw [upd_ne npF]; exact ep6, nx6.tups ft, fd7, g6.add, fun b k h1 h2 s h3 h4 => e7 _ (al6 b k h1 h2 s h3 h4), fun s h => ?_, rfl⟩
            rcases List.mem_append.mp h with h | h
            · exact e7 _ (tk6 s h)
            · rw [List.mem_singleton.mp h]; exact addN_mem.mpr (.inr rfl)
        · rintro σ H6 ⟨l2, c4, c5, c6, z6, eG6, eF6, ep6, nx6, fd6, g6, al6, tk6, rfl⟩
          rw [nx6.1, List.take_length] at tk6
          refine ⟨l2, _, _, _, _, z6, eG6, eF6, fd6, g6, fun b k h1 h2 s h3 h4 => ?_, rfl⟩
          by_cases e : b = j
          · rw [e, en] at h2
            cases h2
            exact tk6 s (mem_fromS'.mpr ⟨h3, h4⟩)
          · exact al6 b k (by omega) h2 s h3 h4
      · rintro σ H4 ⟨l', b3, b4, b5, b6, z4, eG4, eF4, fd4, g4, al, rfl⟩
        refine ⟨l', _, _, _, _, _, z4, eF4, fd4, ?_, rfl⟩
        have full : ∀ n ∈ l, ∀ s ∈ m.ss, s.b = n → s.e ∈ l' := fun n hn s hs e => by
          obtain ⟨b, hb, eb⟩ := List.getElem_of_mem hn
          exact al b n (by unfold nats; rw [List.length_map]; exact hb) (by rw [List.getElem?_eq_getElem hb, eb]) s hs e
        rcases g4.2 with e | e
        · left
          rw [e] at full ⊢
          exact fun s hs h => full _ h s hs rfl
        · rcases hcl with c | c
          · left
            exact fun s hs h => g4.1 _ (reach_closed fd.zero c _ (.step hs (fd4.re _ h)))
          · right
            omega
    · rintro σ H2 ⟨l, a2, a3, a4, a5, a6, z2, eF2, fd, hcl, rfl⟩
      have cl : ClosedS m l := by
        rcases hcl with c | c
        · exact c
        · have h1 := nodup_small fd.nd fd.lt
          have : m.n + 1 ≤ l.length := c
          omega
      walk_at "go"
      refine ⟨F, l.map Int.ofNat, rfl, SqL.of (by rw [eF2]; unfold nats; rw [List.map_map]; rfl), fun ns' p pm pw hp => ?_⟩
      have nn : ∀ x ∈ ns', 0 ≤ x := fun x hx => by
        obtain ⟨y, _, rfl⟩ := List.mem_map.mp (pm.mem_iff.mp hx)
        exact Int.natCast_nonneg _
      have em : (ns'.map Int.toNat).map (fun e => ((e : Nat) : Int)) = ns' := by
        rw [List.map_map]
        exact (List.map_congr_left fun x hx => Int.toNat_of_nonneg (nn x hx)).trans (List.map_id _)
      have ev : ns'.map V.int = nats (ns'.map Int.toNat) := by
        unfold nats
        have : (ns'.map Int.toNat).map (fun e => V.int ((e : Nat) : Int)) = ((ns'.map Int.toNat).map (fun e => ((e : Nat) : Int))).map V.int := by rw [List.map_map (g := V.int)]; rfl
        rw [this, em]
      have pm2 : (ns'.map Int.toNat).Perm l := by
        have := pm.map Int.toNat
        rw [List.map_map] at this
        exact this.trans (by rw [show (Int.toNat ∘ Int.ofNat) = id from funext fun _ => rfl, List.map_id])
      have le2 : (ns'.map Int.toNat).Pairwise (· ≤ ·) := List.pairwise_map.mpr (pw.imp fun {a b} h => by omega)
      have lt2 : (ns'.map Int.toNat).Pairwise (· < ·) := by
        have nd2 : (ns'.map Int.toNat).Nodup := pm2.symm.nodup fd.nd
        exact (le2.and nd2).imp fun {a b} h => Nat.lt_of_le_of_ne h.1 h.2
      rw [ev]
      refine k p _ _ (z2.trans (Same.new hp)) ?_ upd_same (fun n => (pm2.mem_iff).trans ⟨fd.re n, reach_closed fd.zero cl n⟩) lt2
      cases e : H p with
      | none => rfl
      | some ob => rw [z2 _ _ e] at hp; cases hp
end
/-! ### rows cut short -/
theorem runW_shift (m : MD) (d : Int) : ∀ (w : Wd) (v : Nat) (a : Int) (k : Nat) (t : Int), runW m (v, a) w = some (k, t) → runW m (v, a + d) w = some (k, t + d)
  | [], v, a, k, t, h => by
    cases h
    rfl
  | c :: w, v, a, k, t, h => by
    unfold runW at h ⊢
    dsimp only at h ⊢
    cases e : stepOf m v c with
    | none => rw [e] at h; cases h
    | some x =>
      rw [e] at h
      have q := runW_shift m d w x.e (a + x.g) k t h
      dsimp only
      rw [show a + d + x.g = a + x.g + d by omega]
      exact q
theorem runW_lt {m : MD} (o : m.Ok) : ∀ (w : Wd) (v : Nat) (a : Int) (k : Nat) (t : Int), v < m.n → runW m (v, a) w = some (k, t) → k < m.n
  | [], v, a, k, t, hv, h => by
    cases h
    exact hv
  | c :: w, v, a, k, t, hv, h => by
    unfold runW at h
    dsimp only at h
    cases e : stepOf m v c with
    | none => rw [e] at h; cases h
    | some x =>
      rw [e] at h
      exact runW_lt o w x.e (a + x.g) k t (o.ok x (stepOf_mem e).1).e h
theorem run_cut {m : MD} {w : Wd} {k : Nat} {t : Int} (h : run m w = some (k, t)) (i : Nat) : ∃ v tv, run m (w.take i) = some (v, tv) ∧ runW m (v, tv) (w.drop i) = some (k, t) := by
  have e : run m (w.take i ++ w.drop i) = some (k, t) := by rw [List.take_append_drop]; exact h
  unfold run at e ⊢
  rw [runW_append] at e
  cases q : runW m (0, 0) (w.take i) with
  | none => rw [q] at e; cases e
  | some p =>
    rw [q] at e
    exact ⟨p.1, p.2, rfl, e⟩
theorem run_reach {m : MD} : ∀ (L : Nat) (w : Wd) (k : Nat) (t : Int), w.length = L → run m w = some (k, t) → Reach m.ss [0] k
  | 0, w, k, t, hl, h => by
    have : w = [] := List.eq_nil_of_length_eq_zero hl
    subst this
    cases h
    exact .base (List.mem_singleton.mpr rfl)
  | L + 1, w, k, t, hl, h => by
    rcases List.eq_nil_or_concat w with rfl | ⟨w', c, e⟩
    · cases hl
    · rw [List.concat_eq_append] at e
      subst e
      obtain ⟨u, t', s, h1, h2, rfl, rfl⟩ := run_snoc.mp h
      obtain ⟨hs, hb, _⟩ := stepOf_mem h2
      have ih := run_reach L w' u t' (by simpa using hl) h1
      rw [← hb] at ih
      exact .step hs ih
/-- F rises at least by what a step adds, into the stands of N, that come from N alone -/
def Pot (sg : Int) (m : MD) (N : Nat → Prop) (F : Nat → Int) : Prop := ∀ s ∈ m.ss, Reach m.ss [0] s.b → N s.e → N s.b ∧ F s.b + sg * s.g ≤ F s.e
theorem pot_run {sg : Int} {m : MD} {N : Nat → Prop} {F : Nat → Int} (p : Pot sg m N F) : ∀ (w : Wd) (v : Nat) (a : Int) (k : Nat) (t : Int), Reach m.ss [0] v → runW m (v, a) w = some (k, t) → N k → N v ∧ F v + sg * (t - a) ≤ F k
  | [], v, a, k, t, hv, h, hk => by
    cases h
    refine ⟨hk, ?_⟩
    rw [Int.sub_self, Int.mul_zero]
    omega
  | c :: w, v, a, k, t, hv, h, hk => by
    unfold runW at h
    dsimp only at h
    cases e : stepOf m v c with
    | none => rw [e] at h; cases h
    | some x =>
      rw [e] at h
      obtain ⟨hs, hb, _⟩ := stepOf_mem e
      rw [← hb] at hv
      obtain ⟨h1, h2⟩ := pot_run p w x.e (a + x.g) k t (.step hs hv) h hk
      obtain ⟨h3, h4⟩ := p x hs hv h1
      rw [hb] at h3 h4
      refine ⟨h3, ?_⟩
      have e1 : sg * (t - a) = sg * (t - (a + x.g)) + sg * x.g := by rw [← Int.mul_add]; congr 1; omega
      omega
theorem not_nodup {l : List Nat} {n : Nat} (b : ∀ k ∈ l, k < n) (h : n < l.length) : ∃ i j, ∃ (hi : i < l.length) (hj : j < l.length), i < j ∧ l[i] = l[j] := by
  apply Classical.byContradiction
  intro c
  have nd : l.Nodup := List.pairwise_iff_getElem.mpr fun i j hi hj hij e => c ⟨i, j, hi, hj, hij, e⟩
  have := nodup_small nd b
  omega
theorem cut_row {sg : Int} {m : MD} (o : m.Ok) {N : Nat → Prop} {F : Nat → Int} (p : Pot sg m N F) {w : Wd} {k : Nat} {t : Int} (h : run m w = some (k, t)) (hk : N k) (hl : m.n ≤ w.length) :
    ∃ w' t', w'.length < w.length ∧ run m w' = some (k, t') ∧ sg * t ≤ sg * t' := by
  have st : ∀ i, ∃ v, ∃ tv, run m (w.take i) = some (v, tv) ∧ runW m (v, tv) (w.drop i) = some (k, t) := run_cut h
  let f : Nat → Nat := fun i => (st i).choose
  have hf : ∀ i, ∃ tv, run m (w.take i) = some (f i, tv) ∧ runW m (f i, tv) (w.drop i) = some (k, t) := fun i => (st i).choose_spec
  have n1 := o.n1
  obtain ⟨i, j, hi, hj, hij, e⟩ := not_nodup (l := (List.range (w.length + 1)).map f) (n := m.n) (fun v hv => by
    obtain ⟨i, _, rfl⟩ := List.mem_map.mp hv
    obtain ⟨tv, q, _⟩ := hf i
    exact runW_lt o _ 0 0 _ _ (by omega) q) (by rw [List.length_map, List.length_range]; omega)
  rw [List.length_map, List.length_range] at hi hj
  rw [List.getElem_map, List.getElem_map, List.getElem_range, List.getElem_range] at e
  obtain ⟨ti, a1, a2⟩ := hf i
  obtain ⟨tj, b1, b2⟩ := hf j
  rw [← e] at b1 b2
  have rv := run_reach _ _ _ _ rfl a1
  have hNv := (pot_run p _ _ _ _ _ rv a2 hk).1
  have mid : runW m (f i, ti) ((w.take j).drop i) = some (f i, tj) := by
    have s : run m (w.take i ++ (w.take j).drop i) = some (f i, tj) := by
      have : w.take i = (w.take j).take i := by rw [List.take_take, Nat.min_eq_left (by omega)]
      rw [this, List.take_append_drop]
      exact b1
    unfold run at s a1
    rw [runW_append, a1] at s
    exact s
  have gain := (pot_run p _ _ _ _ _ rv mid hNv).2
  refine ⟨w.take i ++ w.drop j, t + (ti - tj), ?_, ?_, ?_⟩
  · rw [List.length_append, List.length_take, List.length_drop]
    omega
  · unfold run at a1 ⊢
    rw [runW_append, a1]
    have q := runW_shift m (ti - tj) _ _ _ _ _ b2
    rw [show tj + (ti - tj) = ti by omega] at q
    exact q
  · have e1 : sg * (t + (ti - tj)) = sg * t - sg * (tj - ti) := by rw [← Int.mul_sub]; congr 1; omega
    omega
theorem pot_short {sg : Int} {m : MD} (o : m.Ok) {N : Nat → Prop} {F : Nat → Int} (p : Pot sg m N F) {k : Nat} (hk : N k) : ∀ (L : Nat) (w : Wd) (t : Int), w.length ≤ L → run m w = some (k, t) → ∃ w' t', w'.length < m.n ∧ run m w' = some (k, t') ∧ sg * t ≤ sg * t'
  | 0, w, t, hl, h => ⟨w, t, by have := o.n1; omega, h, Int.le_refl _⟩
  | L + 1, w, t, hl, h => by
    by_cases c : w.length < m.n
    · exact ⟨w, t, c, h, Int.le_refl _⟩
    · obtain ⟨w1, t1, h1, h2, h3⟩ := cut_row o p h hk (by omega)
      obtain ⟨w2, t2, q1, q2, q3⟩ := pot_short o p hk L w1 t1 (by omega) h2
      exact ⟨w2, t2, q1, q2, Int.le_trans h3 q3⟩
theorem best_short {sg : Int} {m : MD} (o : m.Ok) (hsg : sg = 1 ∨ sg = -1) {k : Nat} {w : Wd} {t : Int} (hl : w.length < m.n) (h : run m w = some (k, t)) : ∃ y, bst sg m.ss m.n k = some y ∧ sg * t ≤ y.1 := by
  obtain ⟨x, ex, nx⟩ := lvl_best o hsg w.length w k t rfl h
  obtain ⟨y, ey⟩ := bst_has m.n _ _ hl ex
  have h1 := (bst_spec _ _ ey).2 _ _ hl ex
  have h2 := nx.le
  dsimp only at h2
  exact ⟨y, ey, by omega⟩
theorem endl_reach {sg : Int} {m : MD} (o : m.Ok) (hsg : sg = 1 ∨ sg = -1) : ∀ k, Endl sg m k → Reach m.ss [0] k := fun k h => by
  induction h with
  | base h =>
    have q := (mem_impL o _).mp h
    unfold impr at q
    cases ex : lvl sg m.ss m.n _ with
    | none => rw [ex] at q; cases q
    | some x => exact run_reach _ _ _ _ rfl (lvl_run o hsg _ _ _ ex)
  | step hs _ ih => exact .step hs ih
/-- where there is such an F nothing is endless -/
theorem pot_not_endl {sg : Int} {m : MD} (o : m.Ok) (hsg : sg = 1 ∨ sg = -1) {N : Nat → Prop} {F : Nat → Int} (p : Pot sg m N F) : ∀ k, Endl sg m k → ¬ N k := fun k h => by
  induction h with
  | base h =>
    rename_i k
    intro hk
    have q := (mem_impL o k).mp h
    unfold impr at q
    cases ex : lvl sg m.ss m.n k with
    | none => rw [ex] at q; cases q
    | some x =>
      rw [ex] at q
      have hr := lvl_run o hsg _ _ _ ex
      obtain ⟨w', t', h1, h2, h3⟩ := pot_short o p hk x.2.length x.2 _ (Nat.le_refl _) hr
      obtain ⟨y, ey, hy⟩ := best_short o hsg h1 h2
      rw [ey] at q
      have q : y.1 < x.1 := of_decide_eq_true q
      rcases hsg with rfl | rfl <;> omega
  | step hs hb ih => exact fun he => ih (p _ hs (endl_reach o hsg _ hb) he).1
/-! ### the least and greatest tallies of several stands -/
theorem reach_run {m : MD} (o : m.Ok) {k : Nat} (h : Reach m.ss [0] k) : ∃ w t, run m w = some (k, t) := by
  induction h with
  | base h =>
    rw [List.mem_singleton.mp h]
    exact ⟨[], 0, rfl⟩
  | step hs _ ih =>
    obtain ⟨w, t, q⟩ := ih
    exact ⟨_, _, run_snoc.mpr ⟨_, _, _, q, stepOf_self o hs, rfl, rfl⟩⟩
theorem reach_bst {sg : Int} {m : MD} (o : m.Ok) (hsg : sg = 1 ∨ sg = -1) {k : Nat} (h : Reach m.ss [0] k) (ne : ¬ Endl sg m k) : ∃ y, bst sg m.ss m.n k = some y := by
  obtain ⟨w, t, q⟩ := reach_run o h
  obtain ⟨y, e, _⟩ := no_better o hsg w.length w k t rfl q ne
  exact ⟨y, e⟩
/-- what is told of the stands l: none of them may be endless -/
def EdgeOf (sg : Int) (m : MD) (l : List Nat) (r : V) : Prop := (r = .non ∧ ∃ k ∈ l, Endl sg m k) ∨
  ∃ v : Int, r = .int (sg * v) ∧ (∀ k ∈ l, ¬ Endl sg m k) ∧ (∃ k ∈ l, ∃ y, bst sg m.ss m.n k = some y ∧ y.1 = v) ∧ ∀ k ∈ l, ∀ y, bst sg m.ss m.n k = some y → y.1 ≤ v
theorem EdgeOf.uniq {sg : Int} {m : MD} {l : List Nat} {r r' : V} (h : EdgeOf sg m l r) (h' : EdgeOf sg m l r') : r = r' := by
  rcases h with ⟨e, k, hk, q⟩ | ⟨v, e, h1, ⟨k, hk, y, ey, hy⟩, h3⟩
  · rcases h' with ⟨e', _⟩ | ⟨v', e', h1', _⟩
    · rw [e, e']
    · exact absurd q (h1' k hk)
  · rcases h' with ⟨e', k', hk', q'⟩ | ⟨v', e', h1', ⟨k', hk', y', ey', hy'⟩, h3'⟩
    · exact absurd q' (h1 k' hk')
    · have a1 := h3 k' hk' y' ey'
      have a2 := h3' k hk y ey
      have : v = v' := by omega
      rw [e, e', this]
open Classical in
noncomputable def tl0 (sg : Int) (m : MD) (k : Nat) : V := if Endl sg m k then .str "endless" else match bst sg m.ss m.n k with
  | none => .non
  | some y => .int y.1
theorem tl0_flat {sg : Int} {m : MD} (l : List Nat) : (l.map (tl0 sg m)).all flatV = true := by
  rw [List.all_eq_true]
  intro v hv
  obtain ⟨k, _, rfl⟩ := List.mem_map.mp hv
  unfold tl0
  split
  · rfl
  · split <;> rfl
theorem tl0_in {sg : Int} {m : MD} {l : List Nat} (h : ∃ k ∈ l, Endl sg m k) : inV (.str "endless") (l.map (tl0 sg m)) = true := by
  obtain ⟨k, hk, e⟩ := h
  unfold inV
  rw [List.any_eq_true]
  refine ⟨.str "endless", List.mem_map.mpr ⟨k, hk, by unfold tl0; rw [if_pos e]⟩, by decide⟩
theorem tl0_out {sg : Int} {m : MD} {l : List Nat} (h : ¬ ∃ k ∈ l, Endl sg m k) : inV (.str "endless") (l.map (tl0 sg m)) = false := by
  cases q : inV (.str "endless") (l.map (tl0 sg m)) with
  | false => rfl
  | true =>
    exfalso
    unfold inV at q
    rw [List.any_eq_true] at q
    obtain ⟨v, hv, e⟩ := q
    obtain ⟨k, hk, rfl⟩ := List.mem_map.mp hv
    unfold tl0 at e
    rw [if_neg fun z => h ⟨k, hk, z⟩] at e
    split at e <;> cases e
noncomputable def bst1 (sg : Int) (m : MD) (k : Nat) : Int := ((bst sg m.ss m.n k).getD (0, [])).1
theorem reach_lt {m : MD} (o : m.Ok) {k : Nat} (h : Reach m.ss [0] k) : k < m.n := by
  cases h with
  | base h => rw [List.mem_singleton.mp h]; exact o.n1
  | step hs _ => exact (o.ok _ hs).e
theorem free_of {H H' : Hp} {q : Addr} (z : Same H H') (hq : H' q = none) : H q = none := by
  cases e : H q with
  | none => rfl
  | some ob => rw [z _ _ e] at hq; cases hq
/-! ### the program's reached stands -/
section
variable {P : Program} {w : World} {K : PySem.W.Frag} {mg : Str → Option Value} {base : Heap}
theorem ok_reached (T : Txt K mg) : FnOk P w K mg base (L2.CX P w) 4 T.a_reached T.fd_reached ["machine"] (sp_reached K T.c_Machine) := by
  refine T.F_reached.okX sc_reached (fun vs H Q E h => ?_) (fun cdv A outer s H vs Q E hr h => ?_)
  · obtain ⟨x, m, rfl, _⟩ := h
    rfl
  · obtain ⟨x, m, rfl, hm, o, k⟩ := h
    obtain ⟨dx, t, u, hx, hp0⟩ := id hm
    refine ⟨_, (PSs.nox (pss_cons (ps_expr (pe_call (ok_check_machine T) (hr.mono (by decide)) (by rfl) T.m_check_machine T.k_check_machine T.b_check_machine .nil passL (pa_cons (pv 0) pa_nil)))
  (pss_one (ps_ret (pe_call (ok_led_to T) (hr.mono (by decide)) (by rfl) T.m_led_to T.k_led_to T.b_led_to .nil passL (pa_cons (pe_prop (pv 0) T.cl_Machine T.p_steps (ok_Machine_steps T) (hr.mono (by decide)) T.b_Machine_steps .nil passL rfl) (pa_cons (pe_lst (pa_cons pe_int pa_nil)) pa_nil))))))), ?_⟩
    walk_at "begin"
    walk_at "go"
    refine ⟨x, dx, _, rfl, hx, ?_⟩
    walk_at "go"
    refine ⟨x, dx, _, rfl, hx, x, dx, _, .ref t, rfl, hx, rfl, ?_⟩
    walk_at "go"
    refine ⟨(by decide : 1 ≤ sizeLine), fun p hp => ?_⟩
    walk_at "go"
    refine ⟨t, p, m.n, m.ss, [0], rfl, .of ((Tups.new hp).stAt hp0.1), o.sok, upd_same, fun n hn => by rw [List.mem_singleton.mp hn]; exact o.n1, by decide, fun q l' H' z hq eq h1 h2 => k q l' H' ((Same.new hp).trans z) ?_ eq h1 h2⟩
    cases e : H q with
    | none => rfl
    | some ob => rw [Same.new hp _ _ e] at hq; cases hq
end
/-! ### what the law tells of each stand -/
def ToldOk (sg : Int) (m : MD) (kvs : List (Key × V)) : Prop := ∀ n : Nat, (Reach m.ss [0] n → valV kvs (.inl (n : Int)) = some (tl0 sg m n)) ∧ (¬ Reach m.ss [0] n → valV kvs (.inl (n : Int)) = none)
/-! ### every reached stand has a short row -/
theorem pot_zero {m : MD} : Pot 0 m (fun n => Reach m.ss [0] n ∨ ¬ Reach m.ss [0] n) (fun _ => 0) := fun s _ _ _ => ⟨Classical.em _, by rw [Int.zero_mul]; exact Int.le_refl _⟩
theorem short_row {m : MD} (o : m.Ok) {k : Nat} (h : Reach m.ss [0] k) : ∃ w t, w.length < m.n ∧ run m w = some (k, t) := by
  obtain ⟨w, t, q⟩ := reach_run o h
  obtain ⟨w', t', h1, h2, _⟩ := pot_short (sg := 0) o pot_zero (k := k) (Classical.em _) w.length w t (Nat.le_refl _) q
  exact ⟨w', t', h1, h2⟩
/-- the greatest sg * tally of the rows of length i to k -/
def IsMax (sg : Int) (m : MD) (i k : Nat) (v : Int) : Prop := (∃ w t, w.length = i ∧ run m w = some (k, t) ∧ sg * t = v) ∧ ∀ w t, w.length = i → run m w = some (k, t) → sg * t ≤ v
theorem lvl_max {sg : Int} {m : MD} (o : m.Ok) (hsg : sg = 1 ∨ sg = -1) {i k : Nat} {y : Int × Wd} (h : lvl sg m.ss i k = some y) : IsMax sg m i k y.1 := by
  refine ⟨⟨y.2, sg * y.1, (lvl_ok o i _ _ h).2, lvl_run o hsg i _ _ h, ?_⟩, fun w t hw hr => ?_⟩
  · rcases hsg with rfl | rfl <;> omega
  · obtain ⟨z, ez, nz⟩ := lvl_best o hsg i w k t hw hr
    rw [h] at ez
    cases ez
    exact nz.le
theorem IsMax.uniq {sg : Int} {m : MD} {i k : Nat} {v u : Int} (h : IsMax sg m i k v) (h' : IsMax sg m i k u) : v = u := by
  obtain ⟨⟨w, t, a, b, c⟩, d⟩ := h
  obtain ⟨⟨w', t', a', b', c'⟩, d'⟩ := h'
  have h1 := d _ _ a' b'
  have h2 := d' _ _ a b
  omega
theorem max_lvl {sg : Int} {m : MD} (o : m.Ok) (hsg : sg = 1 ∨ sg = -1) {i k : Nat} {v : Int} (h : IsMax sg m i k v) : ∃ y, lvl sg m.ss i k = some y ∧ y.1 = v := by
  obtain ⟨⟨w, t, a, b, c⟩, d⟩ := id h
  obtain ⟨y, ey, _⟩ := lvl_best o hsg i w k t a b
  exact ⟨y, ey, (lvl_max o hsg ey).uniq h⟩
/-- the greatest sg * tally of the rows to k of at most m.n letters -/
def MaxTo (sg : Int) (m : MD) (k : Nat) (v : Int) : Prop := (∃ w t, w.length ≤ m.n ∧ run m w = some (k, t) ∧ sg * t = v) ∧ ∀ w t, w.length ≤ m.n → run m w = some (k, t) → sg * t ≤ v
theorem maxTo_bst {sg : Int} {m : MD} (o : m.Ok) (hsg : sg = 1 ∨ sg = -1) {k : Nat} {v : Int} (h : MaxTo sg m k v) (ne : ¬ Endl sg m k) : ∃ y, bst sg m.ss m.n k = some y ∧ y.1 = v := by
  obtain ⟨⟨w, t, a, b, c⟩, d⟩ := h
  obtain ⟨y, ey, hy⟩ := no_better o hsg w.length w k t rfl b ne
  obtain ⟨⟨j, hj, ej, _⟩, _⟩ := bst_spec _ _ ey
  have h1 := d y.2 _ (by have := (lvl_ok o j _ _ ej).2; omega) (lvl_run o hsg j _ _ ej)
  refine ⟨y, ey, ?_⟩
  rcases hsg with rfl | rfl <;> omega
/-- the law's loose stands are the endless ones -/
theorem loose_endl {sg : Int} {m : MD} (o : m.Ok) (hsg : sg = 1 ∨ sg = -1) {F : Nat → Int} (hF : ∀ k, Reach m.ss [0] k → MaxTo sg m k (F k)) {Lz : Nat → Prop}
    (base : ∀ s ∈ m.ss, Reach m.ss [0] s.b → F s.e < F s.b + sg * s.g → Lz s.e) (closed : ∀ s ∈ m.ss, Lz s.b → Lz s.e)
    (sound : ∀ P : Nat → Prop, (∀ s ∈ m.ss, Reach m.ss [0] s.b → F s.e < F s.b + sg * s.g → P s.e) → (∀ s ∈ m.ss, P s.b → P s.e) → ∀ k, Lz k → P k) : ∀ k, Lz k ↔ Endl sg m k := fun k => by
  constructor
  · intro h
    refine sound (Endl sg m) (fun s hs hb hlt => ?_) (fun s hs hb => .step hs hb) k h
    apply Classical.byContradiction
    intro ne
    have nb : ¬ Endl sg m s.b := fun z => ne (.step hs z)
    obtain ⟨yb, eb, hyb⟩ := maxTo_bst o hsg (hF _ hb) nb
    obtain ⟨ye, ee, hye⟩ := maxTo_bst o hsg (hF _ (.step hs hb)) ne
    obtain ⟨⟨j, hj, ej, _⟩, _⟩ := bst_spec _ _ eb
    obtain ⟨y2, e2, h2⟩ := no_better o hsg _ _ _ _ rfl (run_snoc.mpr ⟨_, _, s, lvl_run o hsg j _ _ ej, stepOf_self o hs, rfl, rfl⟩) ne
    rw [ee] at e2
    cases e2
    rcases hsg with rfl | rfl <;> omega
  · intro h
    apply Classical.byContradiction
    intro nl
    refine pot_not_endl o hsg (N := fun n => ¬ Lz n) (F := F) (fun s hs hb hn => ⟨fun z => hn (closed s hs z), ?_⟩) k h nl
    apply Classical.byContradiction
    intro c
    exact hn (base s hs hb (by omega))
/-! ### the law's own least and greatest tallies, length by length -/
abbrev LF := Nat → Option Int
def KvI (kvs : List (Key × V)) (f : LF) : Prop := (∀ p ∈ kvs, ∃ n : Nat, p.1 = .inl (n : Int)) ∧ ∀ n : Nat, valV kvs (.inl (n : Int)) = (f n).map V.int
theorem KvI.put {kvs : List (Key × V)} {f : LF} (h : KvI kvs f) (n : Nat) (v : Int) : KvI (putK kvs (.inl (n : Int)) (.int v)) (fun j => if j = n then some v else f j) := by
  refine ⟨fun q hq => ?_, fun j => ?_⟩
  · unfold putK at hq
    split at hq
    · obtain ⟨r, hr, rfl⟩ := List.mem_map.mp hq
      split
      · rename_i z; exact ⟨n, z⟩
      · exact h.1 r hr
    · rcases List.mem_append.mp hq with hq | hq
      · exact h.1 q hq
      · have : q = (.inl (n : Int), .int v) := by simpa using hq
        exact ⟨n, by rw [this]⟩
  · rw [valV_put]
    by_cases c : j = n
    · have c' : (Sum.inl (j : Int) : Key) = .inl (n : Int) := by rw [c]
      simp only [if_pos c, if_pos c']
      rfl
    · have c' : ¬ (Sum.inl (j : Int) : Key) = .inl (n : Int) := fun z => c (by injection z with z; omega)
      simp only [if_neg c, if_neg c']
      exact h.2 j
theorem KvI.key {kvs : List (Key × V)} {f : LF} (h : KvI kvs f) {k : Key} {v : V} (hk : (k, v) ∈ kvs) : ∃ (n : Nat) (u : Int), k = .inl (n : Int) ∧ f n = some u := by
  obtain ⟨n, rfl⟩ : ∃ n : Nat, k = .inl (n : Int) := h.1 _ hk
  cases e : f n with
  | some u => exact ⟨n, u, rfl, e⟩
  | none =>
    have q := h.2 n
    rw [e] at q
    have a := valV_any (.inl (n : Int) : Key) kvs
    rw [q] at a
    have : kvs.any (fun kv => decide (kv.1 = (.inl (n : Int) : Key))) = true := List.any_eq_true.mpr ⟨_, hk, decide_eq_true rfl⟩
    rw [this] at a
    cases a
theorem KvI.has {kvs : List (Key × V)} {f : LF} (h : KvI kvs f) {n : Nat} {u : Int} (e : f n = some u) : ∃ (i : Nat) (v : V), kvs[i]? = some ((Sum.inl (n : Int) : Key), v) := by
  have q := h.2 n
  rw [e] at q
  have a := valV_any (.inl (n : Int) : Key) kvs
  rw [q] at a
  obtain ⟨kv, hm, hd⟩ := List.any_eq_true.mp (a.trans rfl)
  obtain ⟨j, hj, ej⟩ := List.getElem_of_mem hm
  have hd' : kv.1 = .inl (n : Int) := of_decide_eq_true hd
  refine ⟨j, kv.2, ?_⟩
  rw [List.getElem?_eq_getElem hj, ej, ← hd']
theorem putK_nodup {kvs : List (Key × V)} (k : Key) (v : V) (h : (kvs.map (·.1)).Nodup) : ((putK kvs k v).map (·.1)).Nodup := by
  unfold putK
  split
  · rename_i c
    have : (kvs.map fun kv => if kv.1 = k then (kv.1, v) else kv).map (·.1) = kvs.map (·.1) := by
      rw [List.map_map]
      refine List.map_congr_left fun a _ => ?_
      show (if a.1 = k then (a.1, v) else a).1 = a.1
      split
      · rfl
      · rfl
    first
      | rw [this]; exact h
      | (show ((kvs.map _).map _).Nodup; rw [this]; exact h)
  · rename_i c
    rw [List.map_append]
    refine List.nodup_append.mpr ⟨h, by simp, fun a ha b hb e => ?_⟩
    have hb' : b = k := by simpa using hb
    obtain ⟨kv, hm, rfl⟩ := List.mem_map.mp ha
    exact c (List.any_eq_true.mpr ⟨kv, hm, decide_eq_true (by rw [e, hb'])⟩)
theorem KvI.len {kvs : List (Key × V)} {f : LF} {N : Nat} (h : KvI kvs f) (nd : (kvs.map (·.1)).Nodup) (hb : ∀ n u, f n = some u → n < N) : kvs.length ≤ N := by
  have all : ∀ p ∈ kvs, ∃ n : Nat, p.1 = .inl (n : Int) ∧ n < N := fun p hp => by
    obtain ⟨n, u, e, fe⟩ := h.key (k := p.1) (v := p.2) hp
    exact ⟨n, e, hb _ _ fe⟩
  obtain ⟨l, el, hl⟩ : ∃ l : List Nat, kvs.map (·.1) = l.map (fun n : Nat => (.inl (n : Int) : Key)) ∧ ∀ n ∈ l, n < N := by
    clear nd h
    induction kvs with
    | nil => exact ⟨[], rfl, fun n hn => absurd hn (by simp)⟩
    | cons a r ih =>
      obtain ⟨n, en, hn⟩ := all a List.mem_cons_self
      obtain ⟨l, el, hl⟩ := ih fun p hp => all p (List.mem_cons_of_mem _ hp)
      exact ⟨n :: l, by rw [List.map_cons, List.map_cons, el, en], fun k hk => by
        rcases List.mem_cons.mp hk with rfl | hk
        · exact hn
        · exact hl k hk⟩
  have e1 : kvs.length = l.length := by
    have := congrArg List.length el
    rwa [List.length_map, List.length_map] at this
  rw [e1]
  rw [el] at nd
  refine nodup_small ?_ hl
  have : ∀ l : List Nat, (l.map (fun n : Nat => (.inl (n : Int) : Key))).Nodup → l.Nodup := fun l => by
    induction l with
    | nil => exact fun _ => .nil
    | cons a r ih =>
      intro q
      rw [List.map_cons, List.nodup_cons] at q
      rw [List.nodup_cons]
      exact ⟨fun z => q.1 (List.mem_map.mpr ⟨a, z, rfl⟩), ih q.2⟩
  exact this l nd
/-- the greatest over these steps -/
def SMax (sg : Int) (f : LF) (ss : List Stp) (k : Nat) (r : Option Int) : Prop := (r = none ∧ ∀ s ∈ ss, s.e = k → f s.b = none) ∨
  ∃ v, r = some v ∧ (∃ s ∈ ss, s.e = k ∧ ∃ u, f s.b = some u ∧ v = u + sg * s.g) ∧ ∀ s ∈ ss, s.e = k → ∀ u, f s.b = some u → u + sg * s.g ≤ v
theorem SMax.uniq {sg : Int} {f : LF} {ss ss' : List Stp} {k : Nat} {r r' : Option Int} (h : SMax sg f ss k r) (h' : SMax sg f ss' k r') (q : ∀ s, f s.b ≠ none → (s ∈ ss ↔ s ∈ ss')) : r = r' := by
  have q1 : ∀ {s u}, f s.b = some u → (s ∈ ss ↔ s ∈ ss') := fun {s u} e => q s (by rw [e]; simp)
  rcases h with ⟨e, h⟩ | ⟨v, e, ⟨s, hs, hk, u, eu, ev⟩, h⟩
  · rcases h' with ⟨e', _⟩ | ⟨v', e', ⟨s, hs, hk, u, eu, _⟩, _⟩
    · rw [e, e']
    · have := h s ((q1 eu).mpr hs) hk
      rw [eu] at this
      cases this
  · rcases h' with ⟨e', h'⟩ | ⟨v', e', ⟨s', hs', hk', u', eu', ev'⟩, h'⟩
    · have := h' s ((q1 eu).mp hs) hk
      rw [eu] at this
      cases this
    · have a1 := h' s ((q1 eu).mp hs) hk u eu
      have a2 := h s' ((q1 eu').mpr hs') hk' u' eu'
      rw [e, e']
      congr 1
      omega
theorem SMax.snoc {sg : Int} {f : LF} {ss : List Stp} {g : LF} {s : Stp} {u : Int} (h : ∀ k, SMax sg f ss k (g k)) (eu : f s.b = some u) (k : Nat) :
    SMax sg f (ss ++ [s]) k (if (g s.e = none ∨ ∃ y, g s.e = some y ∧ y < u + sg * s.g) ∧ k = s.e then some (u + sg * s.g) else g k) := by
  by_cases ck : k = s.e
  · subst ck
    have hh := h s.e
    by_cases c : g s.e = none ∨ ∃ y, g s.e = some y ∧ y < u + sg * s.g
    · rw [if_pos ⟨c, rfl⟩]
      refine .inr ⟨_, rfl, ⟨s, by simp, rfl, u, eu, rfl⟩, fun s' hs' hk' u' eu' => ?_⟩
      rcases List.mem_append.mp hs' with hs' | hs'
      · rcases hh with ⟨e, h0⟩ | ⟨v, e, _, h0⟩
        · rw [h0 s' hs' hk'] at eu'
          cases eu'
        · have := h0 s' hs' hk' u' eu'
          rcases c with c | ⟨y, ey, hy⟩
          · rw [c] at e; cases e
          · rw [ey] at e
            cases e
            omega
      · rw [List.mem_singleton.mp hs', eu] at eu'
        cases eu'
        rw [List.mem_singleton.mp hs']
        exact Int.le_refl _
    · rw [if_neg fun z => c z.1]
      rcases hh with ⟨e, _⟩ | ⟨v, e, ⟨s', hs', hk', r⟩, h0⟩
      · exact absurd (.inl e) c
      · refine .inr ⟨v, e, ⟨s', List.mem_append_left _ hs', hk', r⟩, fun s2 hs2 hk2 u2 eu2 => ?_⟩
        rcases List.mem_append.mp hs2 with hs2 | hs2
        · exact h0 s2 hs2 hk2 u2 eu2
        · rw [List.mem_singleton.mp hs2, eu] at eu2
          cases eu2
          rw [List.mem_singleton.mp hs2]
          apply Classical.byContradiction
          intro z
          exact c (.inr ⟨v, e, by omega⟩)
  · rw [if_neg fun z => ck z.2]
    rcases h k with ⟨e, h0⟩ | ⟨v, e, ⟨s', hs', r⟩, h0⟩
    · refine .inl ⟨e, fun s2 hs2 hk2 => ?_⟩
      rcases List.mem_append.mp hs2 with hs2 | hs2
      · exact h0 s2 hs2 hk2
      · rw [List.mem_singleton.mp hs2] at hk2
        exact absurd hk2.symm ck
    · refine .inr ⟨v, e, ⟨s', List.mem_append_left _ hs', r⟩, fun s2 hs2 hk2 => ?_⟩
      rcases List.mem_append.mp hs2 with hs2 | hs2
      · exact h0 s2 hs2 hk2
      · rw [List.mem_singleton.mp hs2] at hk2
        exact absurd hk2.symm ck
def lvl1 (sg : Int) (ss : List Stp) (i : Nat) : LF := fun k => (lvl sg ss i k).map (·.1)
theorem lvl1_smax (sg : Int) (ss : List Stp) (i k : Nat) : SMax sg (lvl1 sg ss i) ss k (lvl1 sg ss (i + 1) k) := by
  have up : ∀ s ∈ ss, ∀ v, lvl sg ss i s.b = some v → ∃ z, lvl sg ss (i + 1) s.e = some z ∧ v.1 + sg * s.g ≤ z.1 := fun s hs v ev => by
    obtain ⟨z, ez, nz⟩ := longer_has (sg := sg) ev ss hs fun _ => none
    exact ⟨z, ez, nz.le⟩
  cases e : lvl sg ss (i + 1) k with
  | none =>
    refine .inl ⟨by unfold lvl1; rw [e]; rfl, fun s hs hk => ?_⟩
    cases e2 : lvl sg ss i s.b with
    | none => unfold lvl1; rw [e2]; rfl
    | some v =>
      obtain ⟨z, ez, _⟩ := up s hs v e2
      rw [hk, e] at ez
      cases ez
  | some y =>
    have at_ := longer_ind (sg := sg) (f := lvl sg ss i) (ss := ss) (P := fun n y => ∃ s ∈ ss, s.e = n ∧ ∃ u, lvl1 sg ss i s.b = some u ∧ y.1 = u + sg * s.g) (fun s hs v ev => ⟨s, hs, rfl, v.1, by unfold lvl1; rw [ev]; rfl, rfl⟩) k y e
    refine .inr ⟨y.1, by unfold lvl1; rw [e]; rfl, at_, fun s hs hk u eu => ?_⟩
    unfold lvl1 at eu
    cases e2 : lvl sg ss i s.b with
    | none => rw [e2] at eu; cases eu
    | some v =>
      rw [e2] at eu
      cases eu
      obtain ⟨z, ez, hz⟩ := up s hs v e2
      rw [hk, e] at ez
      cases ez
      exact hz
def LevAt (H : Hp) (us : List V) (lv : Nat → LF) (n : Nat) : Prop := us.length = n ∧ ∀ i, i < n → ∃ q kvs, us[i]? = some (.ref q) ∧ H q = some (.dK kvs) ∧ KvI kvs (lv i)
theorem LevAt.same {H H' : Hp} {us : List V} {lv : Nat → LF} {n : Nat} (h : LevAt H us lv n) (z : Same H H') : LevAt H' us lv n := ⟨h.1, fun i hi => let ⟨q, kvs, a, b, c⟩ := h.2 i hi; ⟨q, kvs, a, z _ _ b, c⟩⟩
theorem LevAt.snoc {H : Hp} {us : List V} {lv : Nat → LF} {n : Nat} {q : Addr} {kvs : List (Key × V)} (h : LevAt H us lv n) (eq : H q = some (.dK kvs)) (ok : KvI kvs (lv n)) : LevAt H (us ++ [.ref q]) lv (n + 1) := by
  refine ⟨by rw [List.length_append, h.1]; rfl, fun i hi => ?_⟩
  by_cases c : i < n
  · obtain ⟨q', kvs', a, b, c'⟩ := h.2 i c
    exact ⟨q', kvs', by rw [List.getElem?_append_left (by rw [h.1]; exact c)]; exact a, b, c'⟩
  · have e : i = n := by omega
    subst e
    exact ⟨q, kvs, by rw [← h.1, List.getElem?_append_right (Nat.le_refl _), Nat.sub_self]; rfl, eq, ok⟩
def sp_bests (K : PySem.W.Frag) : Sp := fun vs H Q _ => ∃ (d : Addr) (sg : Int) (L : Nat) (m : MD), vs = [.ref d, .int sg, .int (L : Nat)] ∧ DAt K H d m ∧ m.Ok ∧ (sg = 1 ∨ sg = -1) ∧ L ≤ 40 ∧
  ∀ p us H', Same H H' → H p = none → H' p = some (.lst us) → LevAt H' us (lvl1 sg m.ss) (L + 1) → (∀ q, V.ref q ∈ us → H q = none) → Q (.ref p) H'
theorem KvI.zero : KvI [(.inl 0, .int 0)] (lvl1 sg ss 0) := by
  refine ⟨fun p hp => ⟨0, by rw [List.mem_singleton.mp hp]; rfl⟩, fun n => ?_⟩
  unfold lvl1 lvl
  by_cases c : n = 0
  · subst c; rfl
  · rw [if_neg c]
    show valV [((.inl 0 : Key), V.int 0)] (.inl (n : Int)) = none
    have : ¬ (Sum.inl (0 : Int) : Key) = .inl (n : Int) := fun z => c (by injection z with z; omega)
    exact valV_neg (p := ((.inl 0 : Key), V.int 0)) this
theorem LevAt.put {H : Hp} {us : List V} {lv : Nat → LF} {n : Nat} {D : Addr} {ob : HO} (h : LevAt H us lv n) (e : ∀ q, V.ref q ∈ us → q ≠ D) : LevAt (upd H D ob) us lv n := ⟨h.1, fun i hi => let ⟨q, kvs, a, b, c⟩ := h.2 i hi; ⟨q, kvs, a, by rw [upd_ne (e q (List.mem_of_getElem? a))]; exact b, c⟩⟩
theorem LevAt.lst {H : Hp} {us : List V} {lv : Nat → LF} {n : Nat} {F : Addr} {xs : List V} {ob : HO} (h : LevAt H us lv n) (e : H F = some (.lst xs)) : LevAt (upd H F ob) us lv n := ⟨h.1, fun i hi => let ⟨q, kvs, a, b, c⟩ := h.2 i hi; ⟨q, kvs, a, by rw [upd_ne (fun z => by rw [z, e] at b; cases b)]; exact b, c⟩⟩
theorem unlock_same {H2 H' : Hp} {e : Addr} {od : _} {kvs : List (Key × V)} (he : H2 e = some (.dK kvs)) (z : Same (upd H2 e (.frz od (.dK kvs))) H') : Same H2 (upd H' e (.dK kvs)) := fun b o eb => by
  by_cases c : b = e
  · rw [c, he] at eb
    rw [c, upd_same]
    exact eb
  · rw [upd_ne c]
    exact z _ _ (by rw [upd_ne c]; exact eb)
/-! ### the law's own greatest tallies and where there are none -/
def KvG (kvs : List (Key × V)) (g : Nat → Option V) : Prop := (∀ p ∈ kvs, ∃ n : Nat, p.1 = .inl (n : Int)) ∧ ∀ n : Nat, valV kvs (.inl (n : Int)) = g n
theorem KvG.put {kvs : List (Key × V)} {g : Nat → Option V} (h : KvG kvs g) (n : Nat) (v : V) : KvG (putK kvs (.inl (n : Int)) v) (fun j => if j = n then some v else g j) := by
  refine ⟨fun q hq => ?_, fun j => ?_⟩
  · unfold putK at hq
    split at hq
    · obtain ⟨r, hr, rfl⟩ := List.mem_map.mp hq
      split
      · rename_i z; exact ⟨n, z⟩
      · exact h.1 r hr
    · rcases List.mem_append.mp hq with hq | hq
      · exact h.1 q hq
      · have : q = (.inl (n : Int), v) := by simpa using hq
        exact ⟨n, by rw [this]⟩
  · rw [valV_put]
    by_cases c : j = n
    · have c' : (Sum.inl (j : Int) : Key) = .inl (n : Int) := by rw [c]
      simp only [if_pos c, if_pos c']
    · have c' : ¬ (Sum.inl (j : Int) : Key) = .inl (n : Int) := fun z => c (by injection z with z; omega)
      simp only [if_neg c, if_neg c']
      exact h.2 j
theorem KvG.keys {kvs : List (Key × V)} {g : Nat → Option V} (h : KvG kvs g) (nd : (kvs.map (·.1)).Nodup) : ∃ l : List Nat, kvs.map (·.1) = l.map (fun n : Nat => (.inl (n : Int) : Key)) ∧ l.Nodup ∧ ∀ n, n ∈ l ↔ g n ≠ none := by
  obtain ⟨l, el⟩ : ∃ l : List Nat, kvs.map (·.1) = l.map (fun n : Nat => (.inl (n : Int) : Key)) := by
    have all := h.1
    clear nd h
    induction kvs with
    | nil => exact ⟨[], rfl⟩
    | cons a r ih =>
      obtain ⟨n, en⟩ := all a List.mem_cons_self
      obtain ⟨l, el⟩ := ih fun p hp => all p (List.mem_cons_of_mem _ hp)
      exact ⟨n :: l, by rw [List.map_cons, List.map_cons, el, en]⟩
  refine ⟨l, el, ?_, fun n => ?_⟩
  · rw [el] at nd
    have : ∀ l : List Nat, (l.map (fun n : Nat => (.inl (n : Int) : Key))).Nodup → l.Nodup := fun l => by
      induction l with
      | nil => exact fun _ => .nil
      | cons a r ih =>
        intro q
        rw [List.map_cons, List.nodup_cons] at q
        rw [List.nodup_cons]
        exact ⟨fun z => q.1 (List.mem_map.mpr ⟨a, z, rfl⟩), ih q.2⟩
    exact this l nd
  · have a := valV_any (.inl (n : Int) : Key) kvs
    rw [h.2 n] at a
    have e1 : n ∈ l ↔ (.inl (n : Int) : Key) ∈ kvs.map (·.1) := by
      rw [el, List.mem_map]
      exact ⟨fun z => ⟨n, z, rfl⟩, fun ⟨k, hk, e⟩ => by rw [← (key_eq k n).mp e]; exact hk⟩
    rw [e1]
    constructor
    · intro hm z
      obtain ⟨kv, h1, h2⟩ := List.mem_map.mp hm
      rw [z] at a
      have : kvs.any (fun kv => decide (kv.1 = (.inl (n : Int) : Key))) = true := List.any_eq_true.mpr ⟨kv, h1, decide_eq_true h2⟩
      rw [this] at a
      cases a
    · intro z
      cases e : g n with
      | none => exact absurd e z
      | some v =>
        rw [e] at a
        obtain ⟨kv, h1, h2⟩ := List.any_eq_true.mp (a.trans rfl)
        exact List.mem_map.mpr ⟨kv, h1, of_decide_eq_true h2⟩
theorem KvG.len {kvs : List (Key × V)} {g : Nat → Option V} {N : Nat} (h : KvG kvs g) (nd : (kvs.map (·.1)).Nodup) (hb : ∀ n, g n ≠ none → n < N) : kvs.length ≤ N := by
  obtain ⟨l, el, nl, ml⟩ := h.keys nd
  have e1 : kvs.length = l.length := by
    have := congrArg List.length el
    rwa [List.length_map, List.length_map] at this
  rw [e1]
  exact nodup_small nl fun n hn => hb n ((ml n).mp hn)
def TKeys (m : MD) (kvs : List (Key × V)) : Prop := ∃ l : List Nat, kvs.map (·.1) = l.map (fun n : Nat => (.inl (n : Int) : Key)) ∧ l.Nodup ∧ ∀ n, n ∈ l ↔ Reach m.ss [0] n
def sp_most (K : PySem.W.Frag) : Sp := fun vs H Q _ => ∃ (d : Addr) (sg : Int) (m : MD), vs = [.ref d, .int sg] ∧ DAt K H d m ∧ m.Ok ∧ (sg = 1 ∨ sg = -1) ∧
  ∀ p kvs H', Same H H' → H p = none → H' p = some (.dK kvs) → ToldOk sg m kvs → TKeys m kvs → Q (.ref p) H'
/-- what is loose, so far -/
def SoundL (sg : Int) (m : MD) (F : Nat → Int) (Ls : List Nat) : Prop := ∀ P : Nat → Prop, (∀ s ∈ m.ss, Reach m.ss [0] s.b → F s.e < F s.b + sg * s.g → P s.e) → (∀ s ∈ m.ss, P s.b → P s.e) → ∀ k, k ∈ Ls → P k
theorem closed_full {m : MD} (o : m.Ok) {Ls : List Nat} (nd : Ls.Nodup) (lt : ∀ k ∈ Ls, k < m.n) (h : ClosedS m Ls ∨ m.n ≤ Ls.length) : ClosedS m Ls := by
  rcases h with h | h
  · exact h
  · intro s hs _
    apply Classical.byContradiction
    intro c
    have := nodup_small (F := s.e :: Ls) (n := m.n) (List.nodup_cons.mpr ⟨c, nd⟩) fun k hk => by
      rcases List.mem_cons.mp hk with rfl | hk
      · exact (o.ok s hs).e
      · exact lt k hk
    rw [List.length_cons] at this
    omega
theorem told_of {sg : Int} {m : MD} (o : m.Ok) (hsg : sg = 1 ∨ sg = -1) {f : LF} {kvs : List (Key × V)} {Ls : List Nat} (hf : ∀ k v, f k = some v → MaxTo sg m k v) (hr : ∀ k, Reach m.ss [0] k ↔ f k ≠ none)
    (base : ∀ s ∈ m.ss, Reach m.ss [0] s.b → (f s.e).getD 0 < (f s.b).getD 0 + sg * s.g → s.e ∈ Ls) (closed : ClosedS m Ls) (sound : SoundL sg m (fun k => (f k).getD 0) Ls)
    (ok : KvG kvs fun n => if n ∈ Ls then some (.str "endless") else (f n).map V.int) (nd : (kvs.map (·.1)).Nodup) : ToldOk sg m kvs ∧ TKeys m kvs := by
  have hF : ∀ k, Reach m.ss [0] k → MaxTo sg m k ((f k).getD 0) := fun k hk => by
    cases e : f k with
    | none => exact absurd e ((hr k).mp hk)
    | some v => exact hf k v e
  have el := loose_endl o hsg hF (Lz := fun k => k ∈ Ls) base closed sound
  have ok2 : ∀ n : Nat, valV kvs (.inl (n : Int)) = if n ∈ Ls then some (V.str "endless") else (f n).map V.int := ok.2
  have t : ToldOk sg m kvs := fun n => by
    rw [ok2 n]
    refine ⟨fun h => ?_, fun h => ?_⟩
    · by_cases c : n ∈ Ls
      · rw [if_pos c]
        unfold tl0
        rw [if_pos ((el n).mp c)]
      · rw [if_neg c]
        have ne := fun z => c ((el n).mpr z)
        obtain ⟨y, ey, hy⟩ := maxTo_bst o hsg (hF n h) ne
        unfold tl0
        rw [if_neg ne, ey]
        cases e : f n with
        | none => exact absurd e ((hr n).mp h)
        | some v =>
          rw [e] at hy
          show some (V.int v) = some (V.int y.1)
          rw [hy]
          rfl
    · have c : n ∉ Ls := fun c => h (endl_reach o hsg n ((el n).mp c))
      rw [if_neg c]
      cases e : f n with
      | none => rfl
      | some v => exact absurd ((hr n).mpr (by rw [e]; simp)) h
  refine ⟨t, ?_⟩
  obtain ⟨l, e1, e2, e3⟩ := ok.keys nd
  refine ⟨l, e1, e2, fun n => (e3 n).trans ?_⟩
  by_cases h : Reach m.ss [0] n
  · exact ⟨fun _ => h, fun _ => by
      show (if n ∈ Ls then some (V.str "endless") else (f n).map V.int) ≠ none
      rw [← ok2 n, (t n).1 h]; simp⟩
  · exact ⟨fun z => absurd (by
      show (if n ∈ Ls then some (V.str "endless") else (f n).map V.int) = none
      rw [← ok2 n]; exact (t n).2 h) z, fun z => absurd z h⟩
/-! ### rings -/
def LoopAt (m : MD) (b : Nat) (v : Wd) (g : Int) : Prop := v ≠ [] ∧ runW m (b, 0) v = some (b, g)
def NoRing (sg : Int) (m : MD) : Prop := ∀ b v g, Reach m.ss [0] b → LoopAt m b v g → v.length ≤ m.n → sg * g ≤ 0
theorem ring_cut {sg : Int} {m : MD} (o : m.Ok) (nr : NoRing sg m) {w : Wd} {k : Nat} {t : Int} (h : run m w = some (k, t)) (hl : m.n ≤ w.length) :
    ∃ w' t', w'.length < w.length ∧ run m w' = some (k, t') ∧ sg * t ≤ sg * t' := by
  have st : ∀ i, ∃ v, ∃ tv, run m (w.take i) = some (v, tv) ∧ runW m (v, tv) (w.drop i) = some (k, t) := run_cut h
  let f : Nat → Nat := fun i => (st i).choose
  have hf : ∀ i, ∃ tv, run m (w.take i) = some (f i, tv) ∧ runW m (f i, tv) (w.drop i) = some (k, t) := fun i => (st i).choose_spec
  have n1 := o.n1
  obtain ⟨i, j, hi, hj, hij, e⟩ := not_nodup (l := (List.range (m.n + 1)).map f) (n := m.n) (fun v hv => by
    obtain ⟨i, _, rfl⟩ := List.mem_map.mp hv
    obtain ⟨tv, q, _⟩ := hf i
    exact runW_lt o _ 0 0 _ _ (by omega) q) (by rw [List.length_map, List.length_range]; omega)
  rw [List.length_map, List.length_range] at hi hj
  rw [List.getElem_map, List.getElem_map, List.getElem_range, List.getElem_range] at e
  obtain ⟨ti, a1, a2⟩ := hf i
  obtain ⟨tj, b1, b2⟩ := hf j
  rw [← e] at b1 b2
  have rv := run_reach _ _ _ _ rfl a1
  have mid : runW m (f i, ti) ((w.take j).drop i) = some (f i, tj) := by
    have s : run m (w.take i ++ (w.take j).drop i) = some (f i, tj) := by
      have : w.take i = (w.take j).take i := by rw [List.take_take, Nat.min_eq_left (by omega)]
      rw [this, List.take_append_drop]
      exact b1
    unfold run at s a1
    rw [runW_append, a1] at s
    exact s
  have lv : ((w.take j).drop i).length = j - i := by rw [List.length_drop, List.length_take]; omega
  have gain := nr (f i) ((w.take j).drop i) (tj - ti) rv ⟨fun z => by rw [z] at lv; simp at lv; omega, by
    have q := runW_shift m (-ti) _ _ _ _ _ mid
    rw [show ti + -ti = 0 by omega] at q
    exact q⟩ (by rw [lv]; omega)
  refine ⟨w.take i ++ w.drop j, t + (ti - tj), ?_, ?_, ?_⟩
  · rw [List.length_append, List.length_take, List.length_drop]
    omega
  · unfold run at a1 ⊢
    rw [runW_append, a1]
    have q := runW_shift m (ti - tj) _ _ _ _ _ b2
    rw [show tj + (ti - tj) = ti by omega] at q
    exact q
  · have e1 : sg * (t + (ti - tj)) = sg * t - sg * (tj - ti) := by rw [← Int.mul_sub]; congr 1; omega
    omega
theorem ring_short {sg : Int} {m : MD} (o : m.Ok) (nr : NoRing sg m) {k : Nat} : ∀ (L : Nat) (w : Wd) (t : Int), w.length ≤ L → run m w = some (k, t) → ∃ w' t', w'.length < m.n ∧ run m w' = some (k, t') ∧ sg * t ≤ sg * t'
  | 0, w, t, hl, h => ⟨w, t, by have := o.n1; omega, h, Int.le_refl _⟩
  | L + 1, w, t, hl, h => by
    by_cases c : w.length < m.n
    · exact ⟨w, t, c, h, Int.le_refl _⟩
    · obtain ⟨w1, t1, h1, h2, h3⟩ := ring_cut o nr h (by omega)
      obtain ⟨w2, t2, q1, q2, q3⟩ := ring_short o nr L w1 t1 (by omega) h2
      exact ⟨w2, t2, q1, q2, Int.le_trans h3 q3⟩
theorem no_ring {sg : Int} {m : MD} (o : m.Ok) (hsg : sg = 1 ∨ sg = -1) (nr : NoRing sg m) : ∀ k, ¬ Endl sg m k := fun k h => by
  induction h with
  | base h =>
    rename_i k
    have q := (mem_impL o k).mp h
    unfold impr at q
    cases ex : lvl sg m.ss m.n k with
    | none => rw [ex] at q; cases q
    | some x =>
      rw [ex] at q
      have hr := lvl_run o hsg _ _ _ ex
      obtain ⟨w', t', h1, h2, h3⟩ := ring_short o nr x.2.length x.2 _ (Nat.le_refl _) hr
      obtain ⟨y, ey, hy⟩ := best_short o hsg h1 h2
      rw [ey] at q
      have q : y.1 < x.1 := of_decide_eq_true q
      rcases hsg with rfl | rfl <;> omega
  | step _ _ ih => exact ih
/-- the tallies of all rows stay -/
def CanP (m : MD) (lo hi : Int) : Prop := ∀ k, Reach m.ss [0] k → ¬ Endl 1 m k ∧ ¬ Endl (-1) m k ∧ (∀ y, bst 1 m.ss m.n k = some y → y.1 ≤ hi) ∧ ∀ y, bst (-1) m.ss m.n k = some y → lo ≤ -y.1
theorem can_rows {m : MD} {lo hi : Int} (o : m.Ok) (c : CanP m lo hi) {w : Wd} {k : Nat} {t : Int} (h : run m w = some (k, t)) : lo ≤ t ∧ t ≤ hi := by
  obtain ⟨h1, h2, h3, h4⟩ := c k (run_reach _ _ _ _ rfl h)
  obtain ⟨y, ey, hy⟩ := no_better o (.inl rfl) _ _ _ _ rfl h h1
  obtain ⟨z, ez, hz⟩ := no_better o (.inr rfl) _ _ _ _ rfl h h2
  have := h3 y ey
  have := h4 z ez
  omega
def rep (v : Wd) : Nat → Wd
  | 0 => []
  | n + 1 => rep v n ++ v
theorem rep_run {m : MD} {b : Nat} {v : Wd} {g : Int} (h : runW m (b, 0) v = some (b, g)) (a : Int) : ∀ N, runW m (b, a) (rep v N) = some (b, a + N * g)
  | 0 => by show some (b, a) = _; congr 2; omega
  | N + 1 => by
    show runW m (b, a) (rep v N ++ v) = _
    rw [runW_append, rep_run h a N]
    have q := runW_shift m (a + N * g) v b 0 b g h
    rw [show (0 : Int) + (a + N * g) = a + N * g by omega] at q
    show runW m (b, a + N * g) v = _
    rw [q]
    congr 2
    rw [show ((N + 1 : Nat) : Int) = (N : Int) + 1 from rfl, Int.add_mul]
    omega
theorem can_no_ring {m : MD} {lo hi : Int} (o : m.Ok) (c : CanP m lo hi) {b : Nat} {v : Wd} {g : Int} (hb : Reach m.ss [0] b) (h : runW m (b, 0) v = some (b, g)) : g = 0 := by
  obtain ⟨u, t, hu⟩ := reach_run o hb
  have all : ∀ N : Nat, lo ≤ t + N * g ∧ t + N * g ≤ hi := fun N => by
    have r : run m (u ++ rep v N) = some (b, t + N * g) := by
      unfold run at hu ⊢
      rw [runW_append, hu]
      exact rep_run h t N
    exact can_rows o c r
  have a0 := all 0
  apply Classical.byContradiction
  intro ne
  have big := all (hi - lo + 1).toNat
  have e0 : (((hi - lo + 1).toNat : Nat) : Int) = hi - lo + 1 := Int.toNat_of_nonneg (by omega)
  rw [e0] at big
  have z0 : t + ((0 : Nat) : Int) * g = t := by omega
  rw [z0] at a0
  have d0 : 0 ≤ hi - lo + 1 := by omega
  by_cases gp : 0 < g
  · have : (hi - lo + 1) * 1 ≤ (hi - lo + 1) * g := Int.mul_le_mul_of_nonneg_left (by omega) d0
    omega
  · have : (hi - lo + 1) * g ≤ (hi - lo + 1) * (-1) := Int.mul_le_mul_of_nonneg_left (by omega) d0
    omega
/-! ### the best rows from a stand -/
def lvlS (s0 : Nat) (sg : Int) (ss : List Stp) : Nat → RF
  | 0 => fun n => if n = s0 then some (0, []) else none
  | i + 1 => longer sg (lvlS s0 sg ss i) ss
theorem lvlS_len {s0 : Nat} {sg : Int} {ss : List Stp} : ∀ i n y, lvlS s0 sg ss i n = some y → y.2.length = i
  | 0, n, y, e => by
    unfold lvlS at e
    split at e
    · cases e; rfl
    · cases e
  | i + 1, n, y, e => longer_ind (P := fun n y => y.2.length = i + 1) (fun s hs v ev => by rw [List.length_append, lvlS_len i _ _ ev]; rfl) n y e
theorem lvlS_run {s0 : Nat} {sg : Int} {m : MD} (o : m.Ok) : ∀ i n y, lvlS s0 sg m.ss i n = some y → ∃ t, runW m (s0, 0) y.2 = some (n, t) ∧ y.1 = sg * t
  | 0, n, y, e => by
    unfold lvlS at e
    split at e
    · rename_i q
      cases e
      exact ⟨0, by rw [q]; rfl, by rw [Int.mul_zero]⟩
    · cases e
  | i + 1, n, y, e => longer_ind (P := fun n y => ∃ t, runW m (s0, 0) y.2 = some (n, t) ∧ y.1 = sg * t) (fun s hs v ev => by
      obtain ⟨t, h1, h2⟩ := lvlS_run o i _ _ ev
      refine ⟨t + s.g, ?_, by rw [h2, Int.mul_add]⟩
      rw [runW_snoc, h1]
      show (stepOf m s.b s.c).map _ = _
      rw [stepOf_self o hs]
      rfl) n y e
theorem lvlS_best {s0 : Nat} {sg : Int} {m : MD} : ∀ i (w : Wd) n t, w.length = i → runW m (s0, 0) w = some (n, t) → ∃ y, lvlS s0 sg m.ss i n = some y ∧ sg * t ≤ y.1 := by
  intro i
  induction i with
  | zero =>
    intro w n t hl hr
    have : w = [] := List.eq_nil_of_length_eq_zero hl
    subst this
    cases hr
    exact ⟨(0, []), if_pos rfl, by rw [Int.mul_zero]; exact Int.le_refl _⟩
  | succ i ih =>
    intro w n t hl hr
    rcases List.eq_nil_or_concat w with rfl | ⟨w', c, e⟩
    · cases hl
    · rw [List.concat_eq_append] at e
      subst e
      have hl' : w'.length = i := by simpa using hl
      rw [runW_snoc] at hr
      cases e1 : runW m (s0, 0) w' with
      | none => rw [e1] at hr; cases hr
      | some q =>
        rw [e1] at hr
        have hr' : (stepOf m q.1 c).map (fun x => (x.e, q.2 + x.g)) = some (n, t) := hr
        cases e2 : stepOf m q.1 c with
        | none => rw [e2] at hr'; cases hr'
        | some s =>
          rw [e2] at hr'
          cases hr'
          obtain ⟨hs, hb, hc⟩ := stepOf_mem e2
          obtain ⟨v, ev, nv⟩ := ih w' q.1 q.2 hl' e1
          rw [← hb] at ev
          obtain ⟨z, ez, nz⟩ := longer_has (sg := sg) ev m.ss hs fun _ => none
          refine ⟨z, ez, ?_⟩
          have := nz.le
          dsimp only at this
          rw [Int.mul_add]
          omega
/-- the best loops at a stand, of 1 to n letters -/
def loopsAt (m : MD) (s0 : Nat) (sg : Int) : List (Int × Wd) := (List.range m.n).filterMap fun i => lvlS s0 sg m.ss (i + 1) s0
theorem loops_true {m : MD} (o : m.Ok) {s0 : Nat} {sg : Int} {x : Int × Wd} (h : x ∈ loopsAt m s0 sg) : x.2.length ≤ m.n ∧ ∃ g, LoopAt m s0 x.2 g ∧ x.1 = sg * g := by
  obtain ⟨i, hi, e⟩ := List.mem_filterMap.mp h
  have li := lvlS_len _ _ _ e
  obtain ⟨g, h1, h2⟩ := lvlS_run o _ _ _ e
  refine ⟨by rw [li]; exact List.mem_range.mp hi, g, ⟨(fun z => by rw [z] at li; cases li), h1⟩, h2⟩
theorem loops_all {m : MD} {s0 : Nat} {sg : Int} {v : Wd} {g : Int} (h : LoopAt m s0 v g) (hl : v.length ≤ m.n) : ∃ x ∈ loopsAt m s0 sg, sg * g ≤ x.1 := by
  obtain ⟨y, ey, hy⟩ := lvlS_best (sg := sg) v.length v s0 g rfl h.2
  have h0 : v.length ≠ 0 := fun z => h.1 (List.eq_nil_of_length_eq_zero z)
  refine ⟨y, List.mem_filterMap.mpr ⟨v.length - 1, List.mem_range.mpr (by omega), ?_⟩, hy⟩
  rw [show v.length - 1 + 1 = v.length by omega]
  exact ey
/-- with the sign 0 all tallies are alike -/
theorem lvl_eq (sg : Int) (ss : List Stp) : ∀ i, lvl sg ss i = lvlS 0 sg ss i
  | 0 => rfl
  | i + 1 => by show longer sg (lvl sg ss i) ss = longer sg (lvlS 0 sg ss i) ss; rw [lvl_eq sg ss i]
theorem bst0 {m : MD} (o : m.Ok) (k : Nat) : (Reach m.ss [0] k → ∃ y, bst 0 m.ss m.n k = some y) ∧ ∀ y, bst 0 m.ss m.n k = some y → ∃ t, run m y.2 = some (k, t) ∧ y.2.length < m.n := by
  constructor
  · intro h
    obtain ⟨w, t, hw, hr⟩ := short_row o h
    obtain ⟨y, ey, _⟩ := lvlS_best (sg := 0) w.length w k t rfl hr
    rw [← lvl_eq] at ey
    exact bst_has m.n _ _ hw ey
  · intro y h
    obtain ⟨j, hj, ej⟩ := bst_of _ _ _ h
    have lj := (lvl_ok o _ _ _ ej).2
    rw [lvl_eq] at ej
    obtain ⟨t, h1, _⟩ := lvlS_run o _ _ _ ej
    exact ⟨t, h1, by omega⟩
theorem endl0 {m : MD} (o : m.Ok) : ∀ k, ¬ Endl 0 m k := fun k h => by
  induction h with
  | base h =>
    rename_i k
    have q := (mem_impL o k).mp h
    unfold impr at q
    cases ex : lvl 0 m.ss m.n k with
    | none => rw [ex] at q; cases q
    | some x =>
      rw [ex] at q
      have ex' := ex
      rw [lvl_eq] at ex'
      obtain ⟨t, hr, e1⟩ := lvlS_run o _ _ _ ex'
      obtain ⟨y, ey⟩ := (bst0 o k).1 (run_reach _ _ _ _ rfl hr)
      rw [ey] at q
      have q : y.1 < x.1 := of_decide_eq_true q
      obtain ⟨j, _, ej⟩ := bst_of _ _ _ ey
      rw [lvl_eq] at ej
      obtain ⟨t', _, e2⟩ := lvlS_run o _ _ _ ej
      omega
  | step _ _ ih => exact ih
/-! ### the best loops at a stand; the shortest rows -/
/-- a list of pairs of a tally and a row -/
def PrAt (K : PySem.W.Frag) (H : Hp) (us : List V) (L : List (Int × Wd)) : Prop := us.length = L.length ∧ ∀ (i : Nat) (x : Int × Wd), L[i]? = some x → ∃ p, us[i]? = some (.ref p) ∧ SqT K H p (ent2 x)
theorem PrAt.tups {K : PySem.W.Frag} {H H' : Hp} {us : List V} {L : List (Int × Wd)} (h : PrAt K H us L) (t : Tups H H') : PrAt K H' us L := ⟨h.1, fun i x e => let ⟨p, q, z⟩ := h.2 i x e; ⟨p, q, t.sq z⟩⟩
theorem PrAt.snoc {K : PySem.W.Frag} {H : Hp} {us : List V} {L : List (Int × Wd)} {p : Addr} {x : Int × Wd} (h : PrAt K H us L) (q : SqT K H p (ent2 x)) : PrAt K H (us ++ [.ref p]) (L ++ [x]) := by
  refine ⟨by rw [List.length_append, List.length_append, h.1]; rfl, fun i y e => ?_⟩
  by_cases c : i < L.length
  · rw [List.getElem?_append_left c] at e
    obtain ⟨r, e1, q1⟩ := h.2 i y e
    exact ⟨r, by rw [List.getElem?_append_left (by rw [h.1]; exact c)]; exact e1, q1⟩
  · rw [List.getElem?_append_right (by omega)] at e
    have z : i - L.length = 0 := by
      have := (List.getElem?_eq_some_iff.mp e).1
      simp at this
      omega
    rw [z] at e
    cases e
    exact ⟨p, by rw [List.getElem?_append_right (by rw [h.1]; omega), h.1, z]; rfl, q⟩
def loopsTo (m : MD) (s0 : Nat) (sg : Int) (i : Nat) : List (Int × Wd) := (List.range i).filterMap fun i => lvlS s0 sg m.ss (i + 1) s0
theorem loopsTo_succ (m : MD) (s0 : Nat) (sg : Int) (i : Nat) : loopsTo m s0 sg (i + 1) = loopsTo m s0 sg i ++ (lvlS s0 sg m.ss (i + 1) s0).toList := by
  unfold loopsTo
  rw [List.range_succ, List.filterMap_append]
  congr 1
def sp_bloops (K : PySem.W.Frag) : Sp := fun vs H Q _ => ∃ (t : Addr) (sg : Int) (s0 : Nat) (m : MD), vs = [.int (m.n : Nat), .ref t, .int (s0 : Nat), .int sg] ∧ StAt K H t m.ss ∧ m.Ok ∧ Sgn sg ∧ s0 < m.n ∧
  ∀ p us H', Same H H' → H p = none → H' p = some (.lst us) → PrAt K H' us (loopsAt m s0 sg) → Q (.ref p) H'
section
variable {P : Program} {w : World} {K : PySem.W.Frag} {mg : Str → Option Value} {base : Heap}
theorem ok_best_loops (T : Txt K mg) : FnOk P w K mg base (L2.CX P w) 4 T.a_best_loops T.fd_best_loops ["many", "steps", "stand", "sign"] (sp_bloops K) := by
  refine T.F_best_loops.okX sc_best_loops (fun vs H Q E h => ?_) (fun cdv A outer s H vs Q E hr h => ?_)
  · obtain ⟨t, sg, s0, m, rfl, _⟩ := h
    rfl
  · obtain ⟨t, sg, s0, m, rfl, hm, o, hsg, hs0, k⟩ := h
    refine ⟨_, (PSs.nox (pss_cons (ps_set (i := 4) sc_best_loops.nd rfl (Or.inl rfl) (pe_lst pa_nil))
  (pss_cons (ps_set (i := 5) sc_best_loops.nd rfl (Or.inl rfl) (pe_disp (pps_cons (pv 2) (pe_tup (pa_cons pe_int (pa_cons pe_str pa_nil))) pps_nil) (by rfl) (by rfl) (fun z => by cases z) (by decide)))
  (pss_cons (ps_for PassesOwn.never rfl (pi_range1 (by rfl) T.z_range (pa_cons (pv 0) pa_nil)) (pg_name (i := 6) sc_best_loops.nd rfl (Or.inl rfl))
  (pss_cons (ps_set (i := 5) sc_best_loops.nd rfl (Or.inl rfl) (pe_call (ok_longer_rows T) (hr.mono (by decide)) (by rfl) T.m_longer_rows T.k_longer_rows T.b_longer_rows .nil passL (pa_cons (pv 1) (pa_cons (pv 3) (pa_cons (pv 5) pa_nil)))))
  (pss_one (ps_if (pt_cmp (pc_din (hu_of hr) (pv 2) (pv 5)) (by rfl))
  (pss_one (ps_expr (pe_bm PySem.F.plainAttrs_list PySem.F.slot_list_append PySem.F.type_list_append mt_append (pv 4) (pa_cons (pe_dget (hu_of hr) (pv 5) (pv 2) (fun _ _ => rfl)) pa_nil))))
  pss_nil))))
  (pss_one (ps_ret (pv 4))))))), ?_⟩
    walk_at "begin"
    walk_at "go"
    refine ⟨by decide, fun D hD => ?_⟩
    walk_at "go"
    intro r hr0
    walk_at "go"
    refine ⟨(by decide : 2 ≤ sizeLine), fun q hq => ?_⟩
    walk_at "go"
    have nDr : D ≠ r := ne_of_none (upd_same (H := H) (o := .lst [])) hr0
    have nrq : r ≠ q := ne_of_none upd_same hq
    have nDq : D ≠ q := fun e => by rw [← e, upd_ne nDr, upd_same] at hq; cases hq
    have hr1 : H r = none := by rw [upd_ne nDr.symm] at hr0; exact hr0
    have z1 : Same H (upd (upd (upd H D (.lst [])) r (.dK [])) q (.tup [.int 0, .str ""])) := ((Same.new hD).trans (Same.new hr0)).trans (Same.new hq)
    refine ⟨by rw [upd_ne nrq, upd_same], [(.inl (s0 : Int), .ref q)], rfl, (by decide : 1 ≤ 15), ?_⟩
    have em : mergeK [] [((.inl (s0 : Int) : Key), V.ref q)] = [(.inl (s0 : Int), .ref q)] := rfl
    rw [em]
    have z2 := Same.mut (o := .dK [(.inl (s0 : Int), .ref q)]) z1 hr1
    generalize hH1 : upd (upd (upd (upd H D (.lst [])) r (.dK [])) q (.tup [.int 0, .str ""])) r (.dK [(.inl (s0 : Int), .ref q)]) = H1 at z2 ⊢
    have eD1 : H1 D = some (.lst []) := by rw [← hH1, upd_ne nDr, upd_ne nDq, upd_ne nDr, upd_same]
    have er1 : H1 r = some (.dK [(.inl (s0 : Int), .ref q)]) := by rw [← hH1, upd_same]
    have eq1 : H1 q = some (.tup [.int 0, .str ""]) := by rw [← hH1, upd_ne nrq.symm, upd_same]
    have ok0 : KvOk K H1 [(.inl (s0 : Int), .ref q)] (E2 (lvlS s0 sg m.ss 0)) := by
      have := KvOk.put (n := s0) (KvOk.nil (K := K) (H := H1)) (l := ent2 (0, [])) (SqT.of eq1)
      refine KvOk.congr this fun n => ?_
      unfold E2 lvlS
      by_cases c : n = s0
      · rw [if_pos c, if_pos c]; rfl
      · rw [if_neg c, if_neg c]; rfl
    clear hH1 z1 em hq hr0 nrq nDq eq1
    have n8 := o.n8
    walk_at "go"
    refine k_rg (by omega) (by omega) ?_
    refine for_range (lo := 0) (n := (((m.n : Nat) : Int)).toNat) (fun i σ H' => ∃ us kvR r a6, Same H H' ∧ H' D = some (.lst us) ∧ PrAt K H' us (loopsTo m s0 sg i) ∧ us.length ≤ i ∧ H' r = some (.dK kvR) ∧ KvOk K H' kvR (E2 (lvlS s0 sg m.ss i)) ∧ r ≠ D ∧
        σ = [some (.int (m.n : Nat)), some (.ref t), some (.int (s0 : Nat)), some (.int sg), some (.ref D), some (.ref r), a6])
      ⟨[], _, r, none, z2, eD1, ⟨rfl, fun i x e => by simp [loopsTo] at e⟩, Nat.le_refl _, er1, ok0, nDr.symm, rfl⟩ ?_ ?_
    · clear z2 eD1 er1 ok0 nDr hr1
      rintro i σ H2 hi ⟨us, kvR, r, a6, z, eD, pr, lu, er, okR, ne, rfl⟩
      have im : i < m.n := hi
      walk_at "go"
      refine ⟨t, r, sg, m.n, m.ss, _, kvR, rfl, .of ((same_tups z).stAt hm), o.sok, er, okR, hsg, fun n y e => by have := lvlS_len i n y e; omega, fun p' kvs' H5 z5 hp5 ep5 ok5 l5 => ?_⟩
      have eD5 := z5 _ _ eD
      have pr5 := pr.tups (same_tups z5)
      have nDp : D ≠ p' := ne_of_none eD hp5
      walk_at "go"
      have dg : DGet H5 p' (.int (s0 : Nat)) (valV kvs' (.inl (s0 : Int))) := DGet.k (k := .inl (s0 : Int)) ep5
      refine ⟨p', _, rfl, dg, ?_⟩
      walk_at "go"
      have ok5' : KvOk K H5 kvs' (E2 (lvlS s0 sg m.ss (i + 1))) := ok5
      rw [loopsTo_succ]
      cases el : lvlS s0 sg m.ss (i + 1) s0 with
      | none =>
        rw [(ok5'.2 s0).1 (by unfold E2; rw [el]; rfl)]
        refine iteF ?_
        walk_at "go"
        exact ⟨us, kvs', p', _, z.trans z5, eD5, by rw [show (none : Option (Int × Wd)).toList = [] from rfl, List.append_nil]; exact pr5, by omega, ep5, ok5', nDp.symm, rfl⟩
      | some y =>
        obtain ⟨pe, epe, spe⟩ := (ok5'.2 s0).2 (ent2 y) (by unfold E2; rw [el]; rfl)
        rw [epe] at dg ⊢
        refine iteT ?_
        walk_at "go"
        refine ⟨.inl ⟨rfl, _, SqL.of eD5⟩, ?_⟩
        walk_at "go"
        refine ⟨p', _, rfl, dg, ?_⟩
        walk_at "go"
        refine k_append eD5 (Nat.lt_trans (show us.length < 100 by omega) (by decide)) ?_
        have tD := Tups.lst (o := .lst (us ++ [V.ref pe])) eD5
        exact ⟨_, kvs', p', _, Same.mut (z.trans z5) hD, upd_same, (pr5.snoc spe).tups tD, by rw [List.length_append]; show us.length + 1 ≤ i + 1; omega, by rw [upd_ne nDp.symm]; exact ep5, ok5'.tups tD, nDp.symm, rfl⟩
    · rintro σ H2 ⟨us, kvR, r, a6, z, eD, pr, lu, er, okR, ne, rfl⟩
      walk_at "go"
      exact k D us H2 z hD eD pr
end
/-! ### the shortest rows -/
theorem dc_by {J : It} {n : Nat} {G : Hp → Prop} {Y : Nat → Hp → V → Hp → Prop} (w : Walk J n G Y) {g : TG} {tt : TT} {tk tv : TE} {vs : List Nat} {σ : L2.St} {H1 : Hp} {D : Addr} {Qd : Hp → Prop} (Pv : Nat → Hp → Prop) (h0 : Pv 0 (upd H1 D (.dK []))) (hG : ∀ i H, i ≤ n → Pv i H → G H)
    (hs : ∀ i x H H', i < n → Pv i H → Y i H x H' → g x (wipe σ vs) H' fun σ2 H2 => wipe σ2 vs = wipe σ vs ∧ tt σ2 H2 fun b H3 => if b = true then tk σ2 H3 fun y H4 => tv σ2 H4 fun z H5 => ∃ kvs k, y = kV k ∧ H5 D = some (.dK kvs) ∧ kvs.length < sizeLine ∧ Pv (i + 1) (upd H5 D (.dK (putK kvs k z))) else Pv (i + 1) H3) (hd : ∀ H, Pv n H → Qd H) :
    ∃ W : Nat → Nat → Hp → Prop, (∃ m, W 0 m (upd H1 D (.dK []))) ∧ ∀ i m H, W i m H → (J.stop i H ∧ Qd H) ∨ (J.go i H ∧ ∃ Nx : Hp → Prop, (∀ H', Nx H' → ∃ m', m' < m ∧ W (i + 1) m' H') ∧ ∀ x H', J.yld i H x H' → g x (wipe σ vs) H' fun σ2 H2 => wipe σ2 vs = wipe σ vs ∧ tt σ2 H2 fun b H3 =>
      if b = true then tk σ2 H3 fun y H4 => tv σ2 H4 fun z H5 => ∃ kvs k, y = kV k ∧ H5 D = some (.dK kvs) ∧ kvs.length < sizeLine ∧ Nx (upd H5 D (.dK (putK kvs k z))) else Nx H3) := by
  refine ⟨fun i m H => m + i = n ∧ Pv i H, ⟨n, by simp, h0⟩, fun i m H ⟨em, hP⟩ => ?_⟩
  have gG := hG i H (by omega) hP
  by_cases c : i < n
  · refine .inr ⟨w.goes i H c gG, Pv (i + 1), fun H' z => ⟨m - 1, by omega, by omega, z⟩, fun x H' y => hs i x H H' c hP (w.yields i H x H' c gG y)⟩
  · have e : i = n := by omega
    subst e
    exact .inl ⟨w.stops H gG, hd H hP⟩
def sp_short (K : PySem.W.Frag) : Sp := fun vs H Q _ => ∃ (t : Addr) (m : MD), vs = [.int (m.n : Nat), .ref t] ∧ StAt K H t m.ss ∧ m.Ok ∧
  ∀ p kvs (f : Nat → Option Wd) H', Same H H' → H p = none → H' p = some (.dK kvs) → KvG kvs (fun n => (f n).map fun w => V.str (sOf w)) → (kvs.map (·.1)).Nodup → (∀ n, f n ≠ none ↔ Reach m.ss [0] n) → (∀ n w, f n = some w → w.length < m.n ∧ ∃ t, run m w = some (n, t)) → Q (.ref p) H'
section
variable {P : Program} {w : World} {K : PySem.W.Frag} {mg : Str → Option Value} {base : Heap}
theorem ok_shortest_rows (T : Txt K mg) : FnOk P w K mg base (L2.CX P w) 5 T.a_shortest_rows T.fd_shortest_rows ["many", "steps"] (sp_short K) := by
  refine T.F_shortest_rows.okX sc_shortest_rows (fun vs H Q E h => ?_) (fun cdv A outer s H vs Q E hr h => ?_)
  · obtain ⟨t, m, rfl, _⟩ := h
    rfl
  · obtain ⟨t, m, rfl, hm, o, k⟩ := h
    refine ⟨_, (PSs.nox (pss_cons (ps_set (i := 2) sc_shortest_rows.nd rfl (Or.inr rfl) (pe_call (ok_best_rows T) (hr.mono (by decide)) (by rfl) T.m_best_rows T.k_best_rows T.b_best_rows .nil passL (pa_cons (pv 0) (pa_cons (pv 1) (pa_cons pe_int pa_nil)))))
  (pss_one (ps_ret (pe_lock (pe_dc (own := [("stand", 3)]) (g := (gName 3)) (tt := tYes) rfl sc_shortest_rows.nd (pi_keys (pv 2)) (blkOk_by (own := [("stand", 3)]) (N := ["many", "steps", "best", "stand"]) (sc := defScope s_shortest_rows) (by decide +kernel)) (fun _ _ _ _ _ => (pg_name (i := 3) sc_shortest_rows.nd rfl (Or.inl rfl))) (fun _ _ _ _ _ => pts_nil) (fun _ _ _ _ _ => (pv 3)) (fun _ _ _ _ _ => (pe_ix (show IxR _ (rIxT K) from ix_tup) (pe_dget (hu_of hr) (pv 2) (pv 3) (fun _ _ => rfl)) pe_int (fun _ _ => rfl))))))))), ?_⟩
    walk_at "begin"
    walk_at "go"
    refine ⟨t, 0, m.n, m.ss, rfl, .of hm, o.sok, .inr (.inr rfl), fun p kvs H1 l L z _ ep hl hL ok => ?_⟩
    rw [bestE_of o hl hL] at ok
    walk_at "go"
    refine ⟨p, _, ep, trivial, fun od => ?_⟩
    obtain ⟨HL, eHL⟩ : ∃ z, z = upd H1 p (.frz od (.dK kvs)) := ⟨_, rfl⟩
    rw [← eHL]
    have tL : Tups H1 HL := by rw [eHL]; exact Tups.dk ep
    have pL : HL p = some (.frz od (.dK kvs)) := by rw [eHL, upd_same]
    walk_at "go"
    refine ⟨_, rfl, p, od, rfl, .inl ⟨kvs, pL, fun D hD => ?_⟩⟩
    have b0 : ∀ n, bestE 0 m n = E2 (bst 0 m.ss m.n) n := fun n => by unfold bestE; rw [if_neg (endl0 o n)]
    refine dc_by walk_keys (fun i H' => Same HL H' ∧ ∃ (kv : List (Key × V)) (f : Nat → Option Wd), H' D = some (.dK kv) ∧ KvG kv (fun n => (f n).map fun w => V.str (sOf w)) ∧ (kv.map (·.1)).Nodup ∧ (∀ n w, f n = some w → ∃ y, bst 0 m.ss m.n n = some y ∧ y.2 = w) ∧ ∀ n, f n ≠ none ↔ ∃ (j : Nat) (v : V), j < i ∧ kvs[j]? = some ((Sum.inl (n : Int) : Key), v))
      ⟨Same.new hD, [], fun _ => none, upd_same, ⟨fun p hp => absurd hp (by simp), fun n => rfl⟩, by simp, (fun n w (e : (none : Option Wd) = some w) => nomatch e), fun n => ⟨fun z => absurd rfl z, fun ⟨j, _, hj, _⟩ => absurd hj (Nat.not_lt_zero _)⟩⟩ (fun i H' _ ⟨z, _⟩ => z _ _ pL) ?_ ?_
    · rintro i x H3 H4 hi ⟨z4, kv, f, eD, ok4, nd, fx, fm⟩ ⟨rfl, key, v, hk, rfl⟩
      obtain ⟨n, rfl⟩ := ok.1 (key, v) (List.mem_of_getElem? hk)
      have inK : valV kvs (.inl (n : Int)) ≠ none := fun q => by
        have a := valV_any (.inl (n : Int) : Key) kvs
        rw [q] at a
        have : kvs.any (fun kv => decide (kv.1 = (.inl (n : Int) : Key))) = true := List.any_eq_true.mpr ⟨_, List.mem_of_getElem? hk, decide_eq_true rfl⟩
        rw [this] at a
        cases a
      obtain ⟨y, ey⟩ : ∃ y, bst 0 m.ss m.n n = some y := by
        cases e : bst 0 m.ss m.n n with
        | some y => exact ⟨y, rfl⟩
        | none => exact absurd ((ok.2 n).1 (by rw [b0]; unfold E2; rw [e]; rfl)) inK
      obtain ⟨q, eq, sq⟩ := (ok.2 n).2 (ent2 y) (by rw [b0]; unfold E2; rw [ey]; rfl)
      have dg : DGet H4 p (.int (n : Nat)) (valV kvs (.inl (n : Int))) := .inl ⟨kvs, .inl (n : Int), .inr ⟨od, z4 _ _ pL⟩, rfl, rfl⟩
      rw [eq] at dg
      walk_at "go"
      refine ⟨rfl, ?_⟩
      walk_at "go"
      refine iteT ?_
      walk_at "go"
      refine ⟨p, _, rfl, dg, ?_⟩
      walk_at "go"
      refine k_ixT ((same_tups z4).sq (tL.sq sq)) (v := .str (sOf y.2)) rfl ?_
      have rl : ∀ k, f k ≠ none → k < m.n := fun k hk2 => by
        cases e : f k with
        | none => exact absurd e hk2
        | some w =>
          obtain ⟨y2, e2, _⟩ := fx k w e
          obtain ⟨t2, h2, _⟩ := (bst0 o k).2 y2 e2
          exact reach_lt o (run_reach _ _ _ _ rfl h2)
      have lk : kv.length ≤ 8 := Nat.le_trans (ok4.len nd (N := m.n) fun k (hk2 : (f k).map (fun w => V.str (sOf w)) ≠ none) => rl k fun z => hk2 (by rw [z]; rfl)) o.n8
      refine ⟨kv, .inl (n : Int), rfl, eD, Nat.lt_of_le_of_lt lk (by decide), Same.mut z4 hD, _, fun j => if j = n then some y.2 else f j, upd_same, ?_, putK_nodup _ _ nd, fun k w e => ?_, fun k => ?_⟩
      · have q4 := ok4.put n (.str (sOf y.2))
        have eqf : (fun j => if j = n then some (V.str (sOf y.2)) else (f j).map fun w => V.str (sOf w)) = fun j => (if j = n then some y.2 else f j).map fun w => V.str (sOf w) := by
          funext j
          by_cases c : j = n
          · rw [if_pos c, if_pos c]; rfl
          · rw [if_neg c, if_neg c]
        rw [← eqf]
        exact q4
      · by_cases c : k = n
        · have e' : some y.2 = some w := by rw [← e]; exact (if_pos c).symm
          cases e'
          exact ⟨y, by rw [c]; exact ey, rfl⟩
        · exact fx k w (by rw [← e]; exact (if_neg c).symm)
      · show (if k = n then some y.2 else f k) ≠ none ↔ _
        by_cases c : k = n
        · rw [if_pos c]
          exact ⟨fun _ => ⟨i, v, by omega, by rw [c]; exact hk⟩, fun _ => by simp⟩
        · rw [if_neg c, fm k]
          constructor
          · rintro ⟨j, u, hj, e⟩
            exact ⟨j, u, by omega, e⟩
          · rintro ⟨j, u, hj, e⟩
            by_cases cj : j = i
            · rw [cj, hk] at e
              have e' : ((Sum.inl (n : Int) : Key), v) = (.inl (k : Int), u) := Option.some.inj e
              exact absurd ((key_eq n k).mp (congrArg Prod.fst e')).symm c
            · exact ⟨j, u, by omega, e⟩
    · rintro H4 ⟨z4, kv, f, eD, ok4, nd, fx, fm⟩
      have nDp : D ≠ p := fun z => by rw [z, pL] at hD; cases hD
      have hD1 : H1 D = none := by
        rw [eHL, upd_ne nDp] at hD
        exact hD
      refine ⟨z4 _ _ pL, k D kv f _ (z.trans ?_) (free_of z hD1) (by rw [upd_ne nDp]; exact eD) ok4 nd (fun n => ?_) fun n w e => ?_⟩
      · rw [eHL] at z4
        exact unlock_same ep z4
      · rw [fm n]
        constructor
        · rintro ⟨j, u, hj, e⟩
          have inK : valV kvs (.inl (n : Int)) ≠ none := fun q => by
            have a := valV_any (.inl (n : Int) : Key) kvs
            rw [q] at a
            have : kvs.any (fun kv => decide (kv.1 = (.inl (n : Int) : Key))) = true := List.any_eq_true.mpr ⟨_, List.mem_of_getElem? e, decide_eq_true rfl⟩
            rw [this] at a
            cases a
          cases e2 : bst 0 m.ss m.n n with
          | none => exact absurd ((ok.2 n).1 (by rw [b0]; unfold E2; rw [e2]; rfl)) inK
          | some y =>
            obtain ⟨t2, h2, _⟩ := (bst0 o n).2 y e2
            exact run_reach _ _ _ _ rfl h2
        · intro hr
          obtain ⟨y, ey⟩ := (bst0 o n).1 hr
          obtain ⟨q, eq, _⟩ := (ok.2 n).2 (ent2 y) (by rw [b0]; unfold E2; rw [ey]; rfl)
          have a := valV_any (.inl (n : Int) : Key) kvs
          rw [eq] at a
          obtain ⟨kv, hm2, hd⟩ := List.any_eq_true.mp (a.trans rfl)
          obtain ⟨j, hj, ej⟩ := List.getElem_of_mem hm2
          have hd' : kv.1 = .inl (n : Int) := of_decide_eq_true hd
          exact ⟨j, kv.2, hj, by rw [List.getElem?_eq_getElem hj, ej, ← hd']⟩
      · obtain ⟨y, ey, e2⟩ := fx n w e
        obtain ⟨t2, h2, h3⟩ := (bst0 o n).2 y ey
        rw [e2] at h2 h3
        exact ⟨h3, t2, h2⟩
end
/-! ### the best mean of all loops -/
def BestM (m : MD) (sg : Int) (r : Option (Nat × Int × Wd)) : Prop := (r = none ∧ ∀ b, Reach m.ss [0] b → loopsAt m b sg = []) ∨
  ∃ s0 x, r = some (s0, x) ∧ Reach m.ss [0] s0 ∧ x ∈ loopsAt m s0 sg ∧ ∀ b, Reach m.ss [0] b → ∀ y ∈ loopsAt m b sg, y.1 * x.2.length ≤ x.1 * y.2.length
theorem loops_pos {m : MD} (o : m.Ok) {b : Nat} {sg : Int} {x : Int × Wd} (h : x ∈ loopsAt m b sg) : 0 < x.2.length ∧ x.2.length ≤ m.n := by
  obtain ⟨l, g, ⟨ne, _⟩, _⟩ := loops_true o h
  exact ⟨List.length_pos_iff.mpr ne, l⟩
/-- a long loop is made of two shorter ones -/
theorem loop_split {m : MD} (o : m.Ok) {b : Nat} (hb : Reach m.ss [0] b) {v : Wd} {g : Int} (h : LoopAt m b v g) (hl : m.n < v.length) :
    ∃ b' v1 g1 v2 g2, Reach m.ss [0] b' ∧ LoopAt m b' v1 g1 ∧ LoopAt m b v2 g2 ∧ v1.length + v2.length = v.length ∧ 0 < v1.length ∧ 0 < v2.length ∧ g1 + g2 = g := by
  obtain ⟨u, t0, hu⟩ := reach_run o hb
  have st : ∀ i, ∃ s, ∃ ts, runW m (b, 0) (v.take i) = some (s, ts) ∧ runW m (s, ts) (v.drop i) = some (b, g) := fun i => by
    have e : runW m (b, 0) (v.take i ++ v.drop i) = some (b, g) := by rw [List.take_append_drop]; exact h.2
    rw [runW_append] at e
    cases q : runW m (b, 0) (v.take i) with
    | none => rw [q] at e; cases e
    | some p =>
      rw [q] at e
      exact ⟨p.1, p.2, rfl, e⟩
  let f : Nat → Nat := fun i => (st i).choose
  have hf : ∀ i, ∃ ts, runW m (b, 0) (v.take i) = some (f i, ts) ∧ runW m (f i, ts) (v.drop i) = some (b, g) := fun i => (st i).choose_spec
  have hlt := reach_lt o hb
  have rf : ∀ i, Reach m.ss [0] (f i) := fun i => by
    obtain ⟨ts, q, _⟩ := hf i
    have r : run m (u ++ v.take i) = some (f i, ts + t0) := by
      unfold run at hu ⊢
      rw [runW_append, hu]
      have := runW_shift m t0 _ _ _ _ _ q
      rw [show (0 : Int) + t0 = t0 by omega] at this
      exact this
    exact run_reach _ _ _ _ rfl r
  obtain ⟨i, j, hi, hj, hij, e⟩ := not_nodup (l := (List.range (m.n + 1)).map f) (n := m.n) (fun v hv => by
    obtain ⟨i, _, rfl⟩ := List.mem_map.mp hv
    exact reach_lt o (rf i)) (by rw [List.length_map, List.length_range]; omega)
  rw [List.length_map, List.length_range] at hi hj
  rw [List.getElem_map, List.getElem_map, List.getElem_range, List.getElem_range] at e
  obtain ⟨ti, a1, a2⟩ := hf i
  obtain ⟨tj, c1, c2⟩ := hf j
  rw [← e] at c1 c2
  have mid : runW m (f i, ti) ((v.take j).drop i) = some (f i, tj) := by
    have s : runW m (b, 0) (v.take i ++ (v.take j).drop i) = some (f i, tj) := by
      have : v.take i = (v.take j).take i := by rw [List.take_take, Nat.min_eq_left (by omega)]
      rw [this, List.take_append_drop]
      exact c1
    rw [runW_append, a1] at s
    exact s
  have lv : ((v.take j).drop i).length = j - i := by rw [List.length_drop, List.length_take]; omega
  have lw : (v.take i ++ v.drop j).length = v.length - (j - i) := by rw [List.length_append, List.length_take, List.length_drop]; omega
  refine ⟨f i, (v.take j).drop i, tj - ti, v.take i ++ v.drop j, g + (ti - tj), rf i, ⟨fun z => ?_, ?_⟩, ⟨fun z => ?_, ?_⟩, by omega, by omega, by omega, by omega⟩
  · rw [z] at lv; simp at lv; omega
  · have q := runW_shift m (-ti) _ _ _ _ _ mid
    rw [show ti + -ti = 0 by omega] at q
    exact q
  · rw [z] at lw; simp at lw; omega
  · rw [runW_append, a1]
    have q := runW_shift m (ti - tj) _ _ _ _ _ c2
    rw [show tj + (ti - tj) = ti by omega] at q
    exact q
theorem mean_none {m : MD} (o : m.Ok) {sg : Int} (h : ∀ b, Reach m.ss [0] b → loopsAt m b sg = []) : ∀ (L : Nat) b v g, v.length ≤ L → Reach m.ss [0] b → ¬ LoopAt m b v g := by
  intro L
  induction L with
  | zero => exact fun b v g hl _ h => h.1 (List.eq_nil_of_length_eq_zero (by omega))
  | succ L ih =>
    intro b v g hl hb hv
    by_cases c : v.length ≤ m.n
    · obtain ⟨x, hx, _⟩ := loops_all (sg := sg) hv c
      rw [h b hb] at hx
      cases hx
    · obtain ⟨b', v1, g1, v2, g2, r1, h1, h2, l12, p1, p2, _⟩ := loop_split o hb hv (by omega)
      exact ih b' v1 g1 (by omega) r1 h1
theorem loops_len {m : MD} {s0 : Nat} {sg : Int} {v : Wd} {g : Int} (h : LoopAt m s0 v g) (hl : v.length ≤ m.n) : ∃ x ∈ loopsAt m s0 sg, sg * g ≤ x.1 ∧ x.2.length = v.length := by
  obtain ⟨y, ey, hy⟩ := lvlS_best (sg := sg) v.length v s0 g rfl h.2
  have h0 : v.length ≠ 0 := fun z => h.1 (List.eq_nil_of_length_eq_zero z)
  refine ⟨y, List.mem_filterMap.mpr ⟨v.length - 1, List.mem_range.mpr (by omega), ?_⟩, hy, lvlS_len _ _ _ ey⟩
  rw [show v.length - 1 + 1 = v.length by omega]
  exact ey
theorem mean_all {m : MD} (o : m.Ok) {sg : Int} {x : Int × Wd} (h : ∀ b, Reach m.ss [0] b → ∀ y ∈ loopsAt m b sg, y.1 * x.2.length ≤ x.1 * y.2.length) : ∀ (L : Nat) b v g, v.length ≤ L → Reach m.ss [0] b → LoopAt m b v g → sg * g * x.2.length ≤ x.1 * v.length := by
  intro L
  induction L with
  | zero => exact fun b v g hl _ h => absurd (List.eq_nil_of_length_eq_zero (by omega)) h.1
  | succ L ih =>
    intro b v g hl hb hv
    by_cases c : v.length ≤ m.n
    · obtain ⟨y, hy, h1, h2⟩ := loops_len (sg := sg) hv c
      have h3 := h b hb y hy
      rw [h2] at h3
      exact Int.le_trans (Int.mul_le_mul_of_nonneg_right h1 (by omega)) h3
    · obtain ⟨b', v1, g1, v2, g2, r1, h1, h2, l12, p1, p2, e⟩ := loop_split o hb hv (by omega)
      have a1 := ih b' v1 g1 (by omega) r1 h1
      have a2 := ih b v2 g2 (by omega) hb h2
      have e1 : sg * g * x.2.length = sg * g1 * x.2.length + sg * g2 * x.2.length := by rw [← e, Int.mul_add, Int.add_mul]
      have e2 : x.1 * v.length = x.1 * v1.length + x.1 * v2.length := by rw [← l12, Int.natCast_add, Int.mul_add]
      omega
/-! ### the program's means -/
theorem lvlS_small {s0 : Nat} {sg : Int} {m : MD} (o : m.Ok) (hsg : sg = 1 ∨ sg = -1) : ∀ i n y, lvlS s0 sg m.ss i n = some y → -(i * 10 ^ 30 : Int) ≤ y.1 ∧ y.1 ≤ i * 10 ^ 30
  | 0, n, y, e => by
    unfold lvlS at e
    split at e
    · cases e; exact ⟨by decide, by decide⟩
    · cases e
  | i + 1, n, y, e => longer_ind (P := fun n y => -(((i + 1 : Nat) : Int) * 10 ^ 30) ≤ y.1 ∧ y.1 ≤ ((i + 1 : Nat) : Int) * 10 ^ 30) (fun s hs v ev => by
      have := lvlS_small o hsg i _ _ ev
      have := (o.ok s hs).g
      have := (o.ok s hs).g'
      rcases hsg with rfl | rfl
      · constructor <;> dsimp only <;> omega
      · constructor <;> dsimp only <;> omega) n y e
theorem loops_small {m : MD} (o : m.Ok) {sg : Int} (hsg : sg = 1 ∨ sg = -1) {b : Nat} {x : Int × Wd} (h : x ∈ loopsAt m b sg) : -(8 * 10 ^ 30) ≤ x.1 ∧ x.1 ≤ 8 * 10 ^ 30 := by
  obtain ⟨i, hi, e⟩ := List.mem_filterMap.mp h
  have := lvlS_small o hsg _ _ _ e
  have hi' := List.mem_range.mp hi
  have n8 := o.n8
  have : ((i + 1 : Nat) : Int) * 10 ^ 30 ≤ 8 * 10 ^ 30 := by omega
  omega
abbrev Bst := Option (Nat × Int × Wd)
def BestZ (m : MD) (sg : Int) (Z : List (Int × Wd)) (r : Bst) : Prop := (r = none ∧ Z = []) ∨
  ∃ s0 x, r = some (s0, x) ∧ Reach m.ss [0] s0 ∧ x ∈ loopsAt m s0 sg ∧ ∀ y ∈ Z, y.1 * x.2.length ≤ x.1 * y.2.length
theorem best_new {m : MD} (o : m.Ok) {sg : Int} {Z : List (Int × Wd)} {s0 n : Nat} {x y : Int × Wd} (hx : x ∈ loopsAt m s0 sg) (h : ∀ y ∈ Z, y.1 * x.2.length ≤ x.1 * y.2.length) (hn : Reach m.ss [0] n) (hy : y ∈ loopsAt m n sg) (c : x.1 * y.2.length < y.1 * x.2.length)
    (pz : ∀ z ∈ Z, 0 < z.2.length) : BestZ m sg (Z ++ [y]) (some (n, y)) := by
  refine .inr ⟨n, y, rfl, hn, hy, fun z hz => ?_⟩
  rcases List.mem_append.mp hz with hz | hz
  · have h1 := h z hz
    have px := (loops_pos o hx).1
    have py := (loops_pos o hy).1
    have pz' := pz z hz
    have a1 : z.1 * x.2.length * y.2.length ≤ x.1 * z.2.length * y.2.length := Int.mul_le_mul_of_nonneg_right h1 (by omega)
    have a2 : x.1 * y.2.length * z.2.length ≤ y.1 * x.2.length * z.2.length := Int.mul_le_mul_of_nonneg_right (by omega) (by omega)
    have e1 : z.1 * x.2.length * y.2.length = z.1 * y.2.length * x.2.length := by rw [Int.mul_assoc, Int.mul_assoc, Int.mul_comm (x.2.length : Int)]
    have e2 : x.1 * z.2.length * y.2.length = x.1 * y.2.length * z.2.length := by rw [Int.mul_assoc, Int.mul_assoc, Int.mul_comm (z.2.length : Int)]
    have e3 : y.1 * x.2.length * z.2.length = y.1 * z.2.length * x.2.length := by rw [Int.mul_assoc, Int.mul_assoc, Int.mul_comm (x.2.length : Int)]
    exact Int.le_of_mul_le_mul_right (show z.1 * y.2.length * x.2.length ≤ y.1 * z.2.length * x.2.length by omega) (by omega)
  · rw [List.mem_singleton.mp hz]
    exact Int.le_refl _
def BAt (K : PySem.W.Frag) (H : Hp) (v : V) : Bst → Prop
  | none => v = .non
  | some q => ∃ p, v = .ref p ∧ SqT K H p [.int (q.1 : Nat), .int q.2.1, .str (sOf q.2.2)]
theorem BAt.tups {K : PySem.W.Frag} {H H' : Hp} {v : V} {r : Bst} (h : BAt K H v r) (t : Tups H H') : BAt K H' v r := by
  cases r with
  | none => exact h
  | some q => obtain ⟨p, e, z⟩ := h; exact ⟨p, e, t.sq z⟩
def sp_bloop (K : PySem.W.Frag) (C : Addr) : Sp := fun vs H Q _ => ∃ (x : Addr) (sg : Int) (m : MD), vs = [.ref x, .int sg] ∧ MAt K C H x m ∧ m.Ok ∧ (sg = 1 ∨ sg = -1) ∧ ∀ r v H', Same H H' → BestM m sg r → BAt K H' v r → Q v H'
def sp_frac (K : PySem.W.Frag) : Sp := fun vs H Q _ => ∃ (a : Int) (b : Nat), vs = [.int a, .int (b : Nat)] ∧ 0 < b ∧ b ≤ 8 ∧ a.natAbs < 2 ^ 130 ∧ ∀ p a' b' c H', Same H H' → H p = none → H' p = some (.tup [.int a', .int b']) → a = a' * c → (b : Int) = b' * c → 0 < c → 0 < b' → Nat.gcd a'.natAbs b'.natAbs = 1 → Q (.ref p) H'
/-- a mean as it is told -/
def MeanV (K : PySem.W.Frag) (H : Hp) (m : MD) (sg : Int) (v : V) : Prop := (v = .non ∧ ∀ b w g, Reach m.ss [0] b → ¬ LoopAt m b w g) ∨
  ((∃ b w g, Reach m.ss [0] b ∧ LoopAt m b w g) ∧ ∃ p a b, v = .ref p ∧ SqT K H p [.int a, .int b] ∧ a.natAbs < 2 ^ 130 ∧ 0 < b ∧ b ≤ 8 ∧ (∀ s w g, Reach m.ss [0] s → LoopAt m s w g → sg * g * b ≤ sg * a * w.length) ∧ Nat.gcd a.natAbs b.natAbs = 1 ∧ ∃ s w g, Reach m.ss [0] s ∧ LoopAt m s w g ∧ g * b = a * w.length)
theorem MeanV.tups {K : PySem.W.Frag} {H H' : Hp} {m : MD} {sg : Int} {v : V} (h : MeanV K H m sg v) (t : Tups H H') : MeanV K H' m sg v := by
  rcases h with h | ⟨h, p, a, b, e, s, r⟩
  · exact .inl h
  · exact .inr ⟨h, p, a, b, e, t.sq s, r⟩
def sp_mean (K : PySem.W.Frag) (C : Addr) : Sp := fun vs H Q _ => ∃ (x : Addr) (sg : Int) (m : MD), vs = [.ref x, .int sg] ∧ MAt K C H x m ∧ m.Ok ∧ (sg = 1 ∨ sg = -1) ∧ ∀ v H', Same H H' → MeanV K H' m sg v → Q v H'
def sp_mean1 (K : PySem.W.Frag) (C : Addr) (sg : Int) : Sp := fun vs H Q _ => ∃ (x : Addr) (m : MD), vs = [.ref x] ∧ MAt K C H x m ∧ m.Ok ∧ ∀ v H', Same H H' → MeanV K H' m sg v → Q v H'
section
variable {P : Program} {w : World} {K : PySem.W.Frag} {mg : Str → Option Value} {base : Heap}
theorem ok_best_loop (T : Txt K mg) : FnOk P w K mg base (L2.CX P w) 6 T.a_best_loop T.fd_best_loop ["machine", "sign"] (sp_bloop K T.c_Machine) := by
  refine T.F_best_loop.okX sc_best_loop (fun vs H Q E h => ?_) (fun cdv A outer s H vs Q E hr h => ?_)
  · obtain ⟨x, sg, m, rfl, _⟩ := h
    rfl
  · obtain ⟨x, sg, m, rfl, hm, o, hsg, k⟩ := h
    obtain ⟨dx, t, u, hx, hp⟩ := id hm
    have n8 := o.n8
    refine ⟨_, (PSs.nox (pss_cons (ps_set (i := 2) sc_best_loop.nd rfl (Or.inl rfl) pe_non)
  (pss_cons (ps_for PassesOwn.never rfl (pi_list (pe_call (ok_reached T) (hr.mono (by decide)) (by rfl) T.m_reached T.k_reached T.b_reached .nil passL (pa_cons (pv 0) pa_nil))) (pg_name (i := 3) sc_best_loop.nd rfl (Or.inl rfl))
  (pss_one (ps_for PassesOwn.never rfl (pi_list (pe_call (ok_best_loops T) (hr.mono (by decide)) (by rfl) T.m_best_loops T.k_best_loops T.b_best_loops .nil passL (pa_cons (pe_prop (pv 0) T.cl_Machine T.p_stands (ok_Machine_stands T) (hr.mono (by decide)) T.b_Machine_stands .nil passL rfl) (pa_cons (pe_prop (pv 0) T.cl_Machine T.p_steps (ok_Machine_steps T) (hr.mono (by decide)) T.b_Machine_steps .nil passL rfl) (pa_cons (pv 3) (pa_cons (pv 1) pa_nil)))))) (pg_tup rfl (pgs_cons (pg_name (i := 4) sc_best_loop.nd rfl (Or.inl rfl)) (pgs_cons (pg_name (i := 5) sc_best_loop.nd rfl (Or.inl rfl)) pgs_nil)))
  (pss_one (ps_if (PW.pt (pw_or (pt_cmp (pc_isN (pv 2))) (pw_or1 (pt_cmpR op_gt (pe_op op_mulW (pv 4) (pe_callB call_len_str (by rfl) T.z_len PySem.boot_len (pa_cons (pe_ix ix_tup (pv 2) pe_int (fun _ _ => rfl)) pa_nil))) (pe_op op_mulW (pe_ix ix_tup (pv 2) pe_int (fun _ _ => rfl)) (pe_callB call_len_str (by rfl) T.z_len PySem.boot_len (pa_cons (pv 5) pa_nil))) (nomark _)))))
  (pss_one (ps_set (i := 2) sc_best_loop.nd rfl (Or.inl rfl) (pe_tup (pa_cons (pv 3) (pa_cons (pv 4) (pa_cons (pv 5) pa_nil))))))
  pss_nil)))))
  (pss_one (ps_ret (pv 2)))))), ?_⟩
    walk_at "begin"
    walk_at "go"
    refine ⟨x, m, rfl, hm, o, fun q l H1 z1 hq eq mem asc => ?_⟩
    refine ⟨q, rfl, ⟨_, SqL.of eq⟩, for_list (xs := nats l) (fun i σ H' => ∃ (r : Bst) (v : V) (Z : List (Int × Wd)) (a3 a4 a5 : Option V), Same H1 H' ∧ BAt K H' v r ∧ BestZ m sg Z r ∧ (∀ z ∈ Z, 0 < z.2.length) ∧ (∀ b ∈ l.take i, ∀ y ∈ loopsAt m b sg, y ∈ Z) ∧
        σ = [some (.ref x), some (.int sg), some v, a3, a4, a5])
      ⟨none, .non, [], _, _, _, Same.refl _, rfl, .inl ⟨rfl, rfl⟩, fun z h => absurd h (by simp), fun b h => by simp at h, rfl⟩ (fun _ _ _ _ ⟨_, _, _, _, _, _, z, _⟩ => SqL.of (z _ _ eq)) ?_ ?_⟩
    · rintro i y σ H2 hy ⟨r, v, Z, a3, a4, a5, z2, hb, bz, pz, cv, rfl⟩
      obtain ⟨n, en, rfl⟩ := nats_at hy
      have rn := (mem n).mp (List.mem_of_getElem? en)
      have nn := reach_lt o rn
      have zz := z1.trans z2
      walk_at "go"
      refine ⟨x, dx, _, rfl, zz _ _ hx, x, dx, _, .int (m.n : Nat), rfl, zz _ _ hx, rfl, ?_⟩
      walk_at "go"
      refine ⟨x, dx, _, rfl, zz _ _ hx, x, dx, _, .ref t, rfl, zz _ _ hx, rfl, ?_⟩
      walk_at "go"
      refine ⟨t, sg, n, m, rfl, (same_tups zz).stAt hp.1, o, .of hsg, nn, fun pl us H3 z3 hpl epl pr => ?_⟩
      refine ⟨pl, rfl, ⟨_, SqL.of epl⟩, for_list (xs := us) (fun e σ H' => ∃ (r : Bst) (v : V) (Z' : List (Int × Wd)) (a4 a5 : Option V), Same H1 H' ∧ BAt K H' v r ∧ BestZ m sg Z' r ∧ (∀ z ∈ Z', 0 < z.2.length) ∧ (∀ z ∈ Z, z ∈ Z') ∧ (∀ z ∈ (loopsAt m n sg).take e, z ∈ Z') ∧ H' pl = some (.lst us) ∧ PrAt K H' us (loopsAt m n sg) ∧
          σ = [some (.ref x), some (.int sg), some v, some (.int (n : Nat)), a4, a5])
        ⟨r, v, Z, _, _, z2.trans z3, hb.tups (same_tups z3), bz, pz, fun z h => h, fun z h => by simp at h, epl, pr, rfl⟩ (fun _ _ _ _ ⟨_, _, _, _, _, _, _, _, _, _, _, e, _⟩ => SqL.of e) ?_ ?_⟩
      · clear hb bz pz cv z2 epl pr
        rintro e y σ H4 he ⟨r, v, Z', a4, a5, z4, hb, bz, pz, c1, c2, epl, pr, rfl⟩
        have el : e < (loopsAt m n sg).length := by rw [← pr.1]; exact (List.getElem?_eq_some_iff.mp he).1
        have es : (loopsAt m n sg)[e]? = some ((loopsAt m n sg)[e]'el) := List.getElem?_eq_getElem el
        have hs : (loopsAt m n sg)[e]'el ∈ loopsAt m n sg := List.getElem_mem el
        have tk : (loopsAt m n sg).take (e + 1) = (loopsAt m n sg).take e ++ [(loopsAt m n sg)[e]'el] := by rw [List.take_add_one, es]; rfl
        rw [tk]
        generalize (loopsAt m n sg)[e]'el = y0 at es hs
        obtain ⟨pq, eq1, hq1⟩ := pr.2 _ _ es
        rw [he] at eq1
        cases eq1
        have py := loops_pos o hs
        have sy := loops_small o hsg hs
        have c2' : ∀ Z2 : List (Int × Wd), Z2 = Z' ++ [y0] → (∀ z ∈ Z, z ∈ Z2) ∧ (∀ z ∈ (loopsAt m n sg).take e ++ [y0], z ∈ Z2) ∧ ∀ z ∈ Z2, 0 < z.2.length := fun Z2 e2 => by
          rw [e2]
          refine ⟨fun z h => List.mem_append_left _ (c1 z h), fun z h => ?_, fun z h => ?_⟩
          · rcases List.mem_append.mp h with h | h
            · exact List.mem_append_left _ (c2 z h)
            · exact List.mem_append_right _ h
          · rcases List.mem_append.mp h with h | h
            · exact pz z h
            · rw [List.mem_singleton.mp h]; exact py.1
        obtain ⟨d1, d2, d3⟩ := c2' _ rfl
        have take : BestZ m sg (Z' ++ [y0]) (some (n, y0)) → ∀ D : Ends, (∀ σ H', (∃ (r : Bst) (v : V) (Z' : List (Int × Wd)) (a4 a5 : Option V), Same H1 H' ∧ BAt K H' v r ∧ BestZ m sg Z' r ∧ (∀ z ∈ Z', 0 < z.2.length) ∧ (∀ z ∈ Z, z ∈ Z') ∧ (∀ z ∈ (loopsAt m n sg).take e ++ [y0], z ∈ Z') ∧ H' pl = some (.lst us) ∧ PrAt K H' us (loopsAt m n sg) ∧
            σ = [some (.ref x), some (.int sg), some v, some (.int (n : Nat)), a4, a5]) → D.nx σ H') → tAsg (tTup (tCons (tVar 3) (tCons (tVar 4) (tCons (tVar 5) tNil)))) (gName 2) D [some (.ref x), some (.int sg), some v, some (.int (n : Nat)), some (.int y0.1), some (.str (sOf y0.2))] H4 := fun bz2 D hD => by
          walk_at "go"
          refine ⟨by show 3 ≤ sizeLine; decide, fun pt hpt => ?_⟩
          have zt := Same.new (o := .tup [.int (n : Nat), .int y0.1, .str (sOf y0.2)]) hpt
          exact hD _ _ ⟨some (n, y0), .ref pt, _, _, _, z4.trans zt, ⟨pt, rfl, SqT.of upd_same⟩, bz2, d3, d1, d2, zt _ _ epl, pr.tups (same_tups zt), rfl⟩
        refine k_gt hq1 rfl ?_
        unfold ent2
        walk_at "go"
        cases r with
        | none =>
          cases hb
          refine k_yes (decide_eq_true rfl) (iteT (take ?_ _ fun _ _ h => h))
          rcases bz with ⟨_, ez⟩ | ⟨s0, y, q, _⟩
          · exact .inr ⟨n, y0, rfl, rn, hs, fun z hz => by
              rw [ez] at hz
              rw [List.mem_singleton.mp hz]
              exact Int.le_refl _⟩
          · cases q
        | some q =>
          obtain ⟨p, rfl, hp2⟩ := hb
          obtain ⟨b0, x0⟩ := q
          rcases bz with ⟨q, _⟩ | ⟨s0, y, q, r0, hx0, al⟩
          · cases q
          cases q
          have px := loops_pos o hx0
          have sx := loops_small o hsg hx0
          refine k_no (decide_eq_false (by simp)) ?_
          walk_at "go"
          refine k_ixT hp2 (v := .str (sOf x0.2)) rfl ?_
          walk_at "go"
          refine ⟨_, rfl, sOf_fits (w := x0.2) (by omega), ?_⟩
          rw [sOf_len]
          refine ⟨_, _, rfl, rfl, wide_mul (a := 104) (b := 4) (by omega) (by omega) (by decide) (by decide) (by decide), ?_⟩
          walk_at "go"
          refine k_ixT hp2 (v := .int x0.1) rfl ?_
          walk_at "go"
          refine ⟨_, rfl, sOf_fits (w := y0.2) (by omega), ?_⟩
          rw [sOf_len]
          refine ⟨_, _, rfl, rfl, wide_mul (a := 104) (b := 4) (by omega) (by omega) (by decide) (by decide) (by decide), ?_⟩
          walk_at "go"
          by_cases c : x0.1 * (y0.2.length : Nat) < y0.1 * (x0.2.length : Nat)
          · refine k_yes (decide_eq_true c) (take ?_ _ fun _ _ h => h)
            exact best_new o hx0 al rn hs c pz
          · refine k_no (decide_eq_false c) ?_
            walk_at "go"
            exact ⟨some (b0, x0), .ref p, Z' ++ [y0], _, _, z4, ⟨p, rfl, hp2⟩, .inr ⟨b0, x0, rfl, r0, hx0, fun z hz => by
              rcases List.mem_append.mp hz with hz | hz
              · exact al z hz
              · rw [List.mem_singleton.mp hz]
                omega⟩, d3, d1, d2, epl, pr, rfl⟩
      · rintro σ H4 ⟨r, v, Z', a4, a5, z4, hb, bz, pz, c1, c2, epl, pr, rfl⟩
        rw [pr.1, List.take_length] at c2
        refine ⟨r, v, Z', _, _, _, z4, hb, bz, pz, fun b hb2 y hy2 => ?_, rfl⟩
        rw [List.take_add_one, en] at hb2
        rcases List.mem_append.mp hb2 with hb2 | hb2
        · exact c1 y (cv b hb2 y hy2)
        · have : b = n := by simpa using hb2
          subst this
          exact c2 y hy2
    · rintro σ H2 ⟨r, v, Z, a3, a4, a5, z2, hb, bz, pz, cv, rfl⟩
      have tl : l.take (nats l).length = l := by unfold nats; rw [List.length_map, List.take_length]
      rw [tl] at cv
      walk_at "go"
      refine k r v H2 (z1.trans z2) ?_ hb
      rcases bz with ⟨e, ez⟩ | ⟨s0, y, e, r0, hy, al⟩
      · refine .inl ⟨e, fun b hb2 => List.eq_nil_iff_forall_not_mem.mpr fun y hy => ?_⟩
        have := cv b ((mem b).mpr hb2) y hy
        rw [ez] at this
        cases this
      · exact .inr ⟨s0, y, e, r0, hy, fun b hb2 z hz => al z (cv b ((mem b).mpr hb2) z hz)⟩
theorem ok_fraction (T : Txt K mg) : FnOk P w K mg base (L2.CX P w) 1 T.a_fraction T.fd_fraction ["over", "under"] (sp_frac K) := by
  refine T.F_fraction.okX sc_fraction (fun vs H Q E h => ?_) (fun cdv A outer s H vs Q E hr h => ?_)
  · obtain ⟨a, b, rfl, _⟩ := h
    rfl
  · obtain ⟨a, b, rfl, b0, b8, ab, k⟩ := h
    refine ⟨_, (PSs.nox (pss_cons (ps_set (i := 2) sc_fraction.nd rfl (Or.inl rfl) (pe_callBfun cr_gcd (by rfl) T.m_gcd (pa_cons (pv 0) (pa_cons (pv 1) pa_nil))))
  (pss_one (ps_ret (pe_tup (pa_cons (pe_op op_fdivW (pv 0) (pv 2)) (pa_cons (pe_op op_fdivW (pv 1) (pv 2)) pa_nil))))))), ?_⟩
    walk_at "begin"
    walk_at "go"
    obtain ⟨c, ec⟩ : ∃ c, c = Nat.gcd a.natAbs (b : Int).natAbs := ⟨_, rfl⟩
    have cb : c ∣ b := by
      have := Nat.gcd_dvd_right a.natAbs (b : Int).natAbs
      rw [← ec, Int.natAbs_natCast] at this
      exact this
    have ca : (c : Int) ∣ a := Int.natAbs_dvd_natAbs.mp (by rw [Int.natAbs_natCast, ec]; exact Nat.gcd_dvd_left _ _)
    have c0 : 0 < c := Nat.pos_of_dvd_of_pos cb b0
    have c8 : c ≤ 8 := Nat.le_trans (Nat.le_of_dvd b0 cb) b8
    have cb' : (c : Int) ∣ (b : Int) := Int.natCast_dvd_natCast.mpr cb
    refine ⟨a, _, rfl, ?_⟩
    rw [← ec]
    walk_at "go"
    refine k_I (wide_div (b := 4) (by omega) (by omega) (by decide) (by decide)) ?_
    walk_at "go"
    refine k_I (wide_div (b := 4) (by omega) (by omega) (by decide) (by decide)) ?_
    walk_at "go"
    refine ⟨by show 2 ≤ sizeLine; decide, fun p hp => ?_⟩
    have ea := Int.ediv_mul_cancel ca
    have eb := Int.ediv_mul_cancel cb'
    have pb : 0 < (b : Int) / (c : Int) := Int.ediv_pos_of_pos_of_dvd (by omega) (by omega) cb'
    refine k p _ _ c _ (Same.new hp) hp upd_same ea.symm eb.symm (by omega) pb ?_
    generalize a / (c : Int) = a' at ea ⊢
    generalize (b : Int) / (c : Int) = b' at eb pb ⊢
    have na : a'.natAbs * c = a.natAbs := by rw [← ea, Int.natAbs_mul, Int.natAbs_natCast]
    have nb : b'.natAbs * c = (b : Int).natAbs := by rw [← eb, Int.natAbs_mul, Int.natAbs_natCast]
    obtain ⟨d, ed⟩ : ∃ d, d = Nat.gcd a'.natAbs b'.natAbs := ⟨_, rfl⟩
    have d1 : d ∣ a'.natAbs := by rw [ed]; exact Nat.gcd_dvd_left _ _
    have d2 : d ∣ b'.natAbs := by rw [ed]; exact Nat.gcd_dvd_right _ _
    have d0 : 0 < d := Nat.pos_of_dvd_of_pos d2 (by omega)
    have dc : d * c ∣ c := by
      have h1 : d * c ∣ a.natAbs := by rw [← na]; exact Nat.mul_dvd_mul_right d1 c
      have h2 : d * c ∣ (b : Int).natAbs := by rw [← nb]; exact Nat.mul_dvd_mul_right d2 c
      have h3 := Nat.dvd_gcd h1 h2
      rwa [← ec] at h3
    have le := Nat.le_of_dvd c0 dc
    rw [← ed]
    have : ¬ 2 ≤ d := fun z => by
      have : 2 * c ≤ d * c := Nat.mul_le_mul_right c z
      omega
    omega
theorem mean_of {m : MD} (o : m.Ok) {sg : Int} (hsg : sg = 1 ∨ sg = -1) {s0 : Nat} {x : Int × Wd} {H : Hp} {p : Addr} {a b c : Int} (r0 : Reach m.ss [0] s0) (hx : x ∈ loopsAt m s0 sg) (al : ∀ b, Reach m.ss [0] b → ∀ y ∈ loopsAt m b sg, y.1 * x.2.length ≤ x.1 * y.2.length)
    (hp : H p = some (.tup [.int a, .int b])) (ea : sg * x.1 = a * c) (eb : (x.2.length : Int) = b * c) (c0 : 0 < c) (b0 : 0 < b) (gc : Nat.gcd a.natAbs b.natAbs = 1) : MeanV K H m sg (.ref p) := by
  have px := loops_pos o hx
  have sx := loops_small o hsg hx
  have n8 := o.n8
  obtain ⟨_, g0, l0, eg0⟩ := loops_true o hx
  have b8 : b ≤ b * c := by have := Int.mul_le_mul_of_nonneg_left (show (1 : Int) ≤ c by omega) (Int.le_of_lt b0); rw [Int.mul_one] at this; exact this
  have aa : a.natAbs ≤ (a * c).natAbs := by
    rw [Int.natAbs_mul]
    exact Nat.le_mul_of_pos_right _ (by omega)
  have ax : (a * c).natAbs ≤ 8 * 10 ^ 30 := by
    rw [← ea]
    rcases hsg with rfl | rfl <;> omega
  have e3 : x.1 = sg * a * c := by
    rw [Int.mul_assoc, ← ea]
    rcases hsg with rfl | rfl <;> omega
  refine .inr ⟨⟨s0, x.2, g0, r0, l0⟩, p, a, b, rfl, SqT.of hp, by omega, b0, by omega, fun s w g hs hl => ?_, gc, s0, x.2, g0, r0, l0, ?_⟩
  · skip
    have h := mean_all o al w.length s w g (Nat.le_refl _) hs hl
    rw [eb, e3, ← Int.mul_assoc] at h
    rw [Int.mul_right_comm (sg * a) c] at h
    exact Int.le_of_mul_le_mul_right h c0
  · have e4 : g0 = a * c := by
      rw [← ea, eg0]
      rcases hsg with rfl | rfl <;> omega
    rw [e4, eb, Int.mul_assoc, Int.mul_comm c b]
theorem ok_best_mean (T : Txt K mg) : FnOk P w K mg base (L2.CX P w) 7 T.a_best_mean T.fd_best_mean ["machine", "sign"] (sp_mean K T.c_Machine) := by
  refine T.F_best_mean.okX sc_best_mean (fun vs H Q E h => ?_) (fun cdv A outer s H vs Q E hr h => ?_)
  · obtain ⟨x, sg, m, rfl, _⟩ := h
    rfl
  · obtain ⟨x, sg, m, rfl, hm, o, hsg, k⟩ := h
    have n8 := o.n8
    refine ⟨_, (PSs.nox (pss_cons (ps_set (i := 2) sc_best_mean.nd rfl (Or.inl rfl) (pe_call (ok_best_loop T) (hr.mono (by decide)) (by rfl) T.m_best_loop T.k_best_loop T.b_best_loop .nil passL (pa_cons (pv 0) (pa_cons (pv 1) pa_nil))))
  (pss_one (ps_ret (pe_ifExp (pt_cmp (pc_isN (pv 2))) pe_non (pe_call (ok_fraction T) (hr.mono (by decide)) (by rfl) T.m_fraction T.k_fraction T.b_fraction .nil passL (pa_cons (pe_op op_mulW (pv 1) (pe_ix ix_tup (pv 2) pe_int (fun _ _ => rfl))) (pa_cons (pe_callB call_len_str (by rfl) T.z_len PySem.boot_len (pa_cons (pe_ix ix_tup (pv 2) pe_int (fun _ _ => rfl)) pa_nil)) pa_nil)))))))), ?_⟩
    walk_at "begin"
    walk_at "go"
    refine ⟨x, sg, m, rfl, hm, o, hsg, fun r v H1 z1 bm hb => ?_⟩
    walk_at "go"
    cases r with
    | none =>
      cases hb
      refine k_yes (decide_eq_true rfl) ?_
      walk_at "go"
      refine k .non H1 z1 (.inl ⟨rfl, ?_⟩)
      rcases bm with ⟨_, e⟩ | ⟨_, _, q, _⟩
      · exact fun b w g hb hl => mean_none o e w.length b w g (Nat.le_refl _) hb hl
      · cases q
    | some q =>
      obtain ⟨p, rfl, hp⟩ := hb
      rcases bm with ⟨q, _⟩ | ⟨s0, x0, q, r0, hx0, al⟩
      · cases q
      cases q
      have px := loops_pos o hx0
      have sx := loops_small o hsg hx0
      refine k_no (decide_eq_false (by simp)) ?_
      walk_at "go"
      refine k_ixT hp (v := .int x0.1) rfl ?_
      refine ⟨_, _, rfl, rfl, wide_mul (a := 1) (b := 104) (by rcases hsg with rfl | rfl <;> decide) (by omega) (by decide) (by decide) (by decide), ?_⟩
      walk_at "go"
      refine k_ixT hp (v := .str (sOf x0.2)) rfl ?_
      walk_at "go"
      refine ⟨_, rfl, sOf_fits (w := x0.2) (by omega), ?_⟩
      rw [sOf_len]
      walk_at "go"
      refine ⟨sg * x0.1, x0.2.length, rfl, px.1, by omega, by rcases hsg with rfl | rfl <;> omega, fun p2 a b c H2 z2 hp2 hq2 ea eb c0 b0 gc => ?_⟩
      exact k _ H2 (z1.trans z2) (mean_of o hsg r0 hx0 al hq2 ea eb c0 b0 gc)
theorem ok_greatest_mean (T : Txt K mg) : FnOk P w K mg base (L2.CX P w) 8 T.a_greatest_mean T.fd_greatest_mean ["machine"] (sp_mean1 K T.c_Machine 1) := by
  refine T.F_greatest_mean.okX sc_greatest_mean (fun vs H Q E h => ?_) (fun cdv A outer s H vs Q E hr h => ?_)
  · obtain ⟨x, m, rfl, _⟩ := h
    rfl
  · obtain ⟨x, m, rfl, hm, o, k⟩ := h
    obtain ⟨dx, t, u, hx, hp0⟩ := id hm
    refine ⟨_, (PSs.nox (pss_cons (ps_expr (pe_call (ok_check_machine T) (hr.mono (by decide)) (by rfl) T.m_check_machine T.k_check_machine T.b_check_machine .nil passL (pa_cons (pv 0) pa_nil)))
  (pss_one (ps_ret (pe_call (ok_best_mean T) (hr.mono (by decide)) (by rfl) T.m_best_mean T.k_best_mean T.b_best_mean .nil passL (pa_cons (pv 0) (pa_cons pe_int pa_nil))))))), ?_⟩
    walk_at "begin"
    walk_at "go"
    refine ⟨x, dx, _, rfl, hx, ?_⟩
    walk_at "go"
    exact ⟨x, 1, m, rfl, hm, o, .inl rfl, fun v H' z mv => k v H' z mv⟩
theorem ok_least_mean (T : Txt K mg) : FnOk P w K mg base (L2.CX P w) 8 T.a_least_mean T.fd_least_mean ["machine"] (sp_mean1 K T.c_Machine (-1)) := by
  refine T.F_least_mean.okX sc_least_mean (fun vs H Q E h => ?_) (fun cdv A outer s H vs Q E hr h => ?_)
  · obtain ⟨x, m, rfl, _⟩ := h
    rfl
  · obtain ⟨x, m, rfl, hm, o, k⟩ := h
    obtain ⟨dx, t, u, hx, hp0⟩ := id hm
    refine ⟨_, (PSs.nox (pss_cons (ps_expr (pe_call (ok_check_machine T) (hr.mono (by decide)) (by rfl) T.m_check_machine T.k_check_machine T.b_check_machine .nil passL (pa_cons (pv 0) pa_nil)))
  (pss_one (ps_ret (pe_call (ok_best_mean T) (hr.mono (by decide)) (by rfl) T.m_best_mean T.k_best_mean T.b_best_mean .nil passL (pa_cons (pv 0) (pa_cons (pe_un un_neg pe_int) pa_nil))))))), ?_⟩
    walk_at "begin"
    walk_at "go"
    refine ⟨x, dx, _, rfl, hx, ?_⟩
    walk_at "go"
    exact ⟨x, (-1), m, rfl, hm, o, .inr rfl, fun v H' z mv => k v H' z mv⟩
end
/-! ### steps whose gains are set against a mean -/
def ovS (a b : Int) (s : Stp) : Stp := { s with g := b * s.g - a }
def ovY (a b : Int) (i : Nat) (y : Int × Wd) : Int × Wd := (b * y.1 - a * i, y.2)
theorem mul_lt_iff {b x y : Int} (hb : 0 < b) : b * y < b * x ↔ y < x :=
  ⟨fun h => Int.lt_of_mul_lt_mul_left h (Int.le_of_lt hb), fun h => Int.mul_lt_mul_of_pos_left h hb⟩
theorem better_ov {a b : Int} (hb : 0 < b) (i : Nat) (x : Int × Wd) (q : Option (Int × Wd)) : better (ovY a b i x) (q.map (ovY a b i)) = better x q := by
  cases q with
  | none => rfl
  | some y =>
    have h1 := mul_lt_iff (x := x.1) (y := y.1) hb
    have h2 := mul_lt_iff (x := y.1) (y := x.1) hb
    show (decide (b * y.1 - a * i < b * x.1 - a * i) || (decide (b * x.1 - a * i = b * y.1 - a * i) && decide (x.2 < y.2))) = (decide (y.1 < x.1) || (decide (x.1 = y.1) && decide (x.2 < y.2)))
    have e1 : decide (b * y.1 - a * i < b * x.1 - a * i) = decide (y.1 < x.1) := decide_eq_decide.mpr ⟨fun h => h1.mp (by omega), fun h => by have := h1.mpr h; omega⟩
    have e2 : decide (b * x.1 - a * i = b * y.1 - a * i) = decide (x.1 = y.1) := decide_eq_decide.mpr ⟨fun h => by
      have n1 : ¬ y.1 < x.1 := fun z => by have := h1.mpr z; omega
      have n2 : ¬ x.1 < y.1 := fun z => by have := h2.mpr z; omega
      omega, fun h => by rw [h]⟩
    rw [e1, e2]
theorem longer_ov {a b : Int} (hb : 0 < b) (i : Nat) {f f' : RF} (hf : ∀ n, f' n = (f n).map (ovY a b i)) (ss : List Stp) (n : Nat) : longer 1 f' (ss.map (ovS a b)) n = (longer 1 f ss n).map (ovY a b (i + 1)) := by
  have gen : ∀ (ss : List Stp) (acc acc' : RF), (∀ n, acc' n = (acc n).map (ovY a b (i + 1))) → ∀ n, (ss.map (ovS a b)).foldl (turnL 1 f') acc' n = (ss.foldl (turnL 1 f) acc n).map (ovY a b (i + 1)) := by
    intro ss
    induction ss with
    | nil => exact fun acc acc' h => h
    | cons s r ih =>
      intro acc acc' h
      refine ih (turnL 1 f acc s) (turnL 1 f' acc' (ovS a b s)) fun n => ?_
      have hb' : (ovS a b s).b = s.b := rfl
      have he' : (ovS a b s).e = s.e := rfl
      unfold turnL
      rw [hb', he', hf s.b]
      cases f s.b with
      | none => exact h n
      | some y =>
        have ey : ((ovY a b i y).1 + 1 * (ovS a b s).g, (ovY a b i y).2 ++ [(ovS a b s).c]) = ovY a b (i + 1) (y.1 + 1 * s.g, y.2 ++ [s.c]) := by
          show (b * y.1 - a * i + 1 * (b * s.g - a), y.2 ++ [s.c]) = (b * (y.1 + 1 * s.g) - a * ((i + 1 : Nat) : Int), y.2 ++ [s.c])
          congr 1
          rw [Int.one_mul, Int.one_mul, Int.mul_add, Int.natCast_add, Int.mul_add]
          omega
        dsimp only [Option.map_some]
        rw [ey, h s.e, better_ov hb]
        split
        · unfold RF.put
          by_cases c : n = s.e
          · rw [if_pos c, if_pos c]; rfl
          · rw [if_neg c, if_neg c]; exact h n
        · exact h n
  exact gen ss (fun _ => none) (fun _ => none) (fun _ => rfl) n
theorem lvl_ov {a b : Int} (hb : 0 < b) (ss : List Stp) : ∀ i n, lvl 1 (ss.map (ovS a b)) i n = (lvl 1 ss i n).map (ovY a b i)
  | 0, n => by
    unfold lvl
    split
    · show some ((0 : Int), ([] : Wd)) = some (b * 0 - a * ((0 : Nat) : Int), [])
      simp
    · rfl
  | i + 1, n => longer_ov hb i (lvl_ov hb ss i) ss n
/-- a row as long as there are stands has a loop in it -/
theorem cut_loop {m : MD} (o : m.Ok) {w : Wd} {n : Nat} {t : Int} (h : run m w = some (n, t)) (hl : m.n ≤ w.length) :
    ∃ s v g w', Reach m.ss [0] s ∧ LoopAt m s v g ∧ run m w' = some (n, t - g) ∧ w'.length + v.length = w.length ∧ 0 < v.length := by
  have st : ∀ i, ∃ s, ∃ ts, run m (w.take i) = some (s, ts) ∧ runW m (s, ts) (w.drop i) = some (n, t) := fun i => run_cut h i
  let f : Nat → Nat := fun i => (st i).choose
  have hf : ∀ i, ∃ ts, run m (w.take i) = some (f i, ts) ∧ runW m (f i, ts) (w.drop i) = some (n, t) := fun i => (st i).choose_spec
  have rf : ∀ i, Reach m.ss [0] (f i) := fun i => by
    obtain ⟨ts, q, _⟩ := hf i
    exact run_reach _ _ _ _ rfl q
  obtain ⟨i, j, hi, hj, hij, e⟩ := not_nodup (l := (List.range (m.n + 1)).map f) (n := m.n) (fun v hv => by
    obtain ⟨i, _, rfl⟩ := List.mem_map.mp hv
    exact reach_lt o (rf i)) (by rw [List.length_map, List.length_range]; omega)
  rw [List.length_map, List.length_range] at hi hj
  rw [List.getElem_map, List.getElem_map, List.getElem_range, List.getElem_range] at e
  obtain ⟨ti, a1, a2⟩ := hf i
  obtain ⟨tj, c1, c2⟩ := hf j
  rw [← e] at c1 c2
  have mid : runW m (f i, ti) ((w.take j).drop i) = some (f i, tj) := by
    have s : run m (w.take i ++ (w.take j).drop i) = some (f i, tj) := by
      have : w.take i = (w.take j).take i := by rw [List.take_take, Nat.min_eq_left (by omega)]
      rw [this, List.take_append_drop]
      exact c1
    unfold run at s a1
    rw [runW_append, a1] at s
    exact s
  have lv : ((w.take j).drop i).length = j - i := by rw [List.length_drop, List.length_take]; omega
  have lw : (w.take i ++ w.drop j).length = w.length - (j - i) := by rw [List.length_append, List.length_take, List.length_drop]; omega
  refine ⟨f i, (w.take j).drop i, tj - ti, w.take i ++ w.drop j, rf i, ⟨fun z => ?_, ?_⟩, ?_, by omega, by omega⟩
  · rw [z] at lv; simp at lv; omega
  · have q := runW_shift m (-ti) _ _ _ _ _ mid
    rw [show ti + -ti = 0 by omega] at q
    exact q
  · unfold run at a1 ⊢
    rw [runW_append, a1]
    have q := runW_shift m (ti - tj) _ _ _ _ _ c2
    rw [show tj + (ti - tj) = ti by omega, show t + (ti - tj) = t - (tj - ti) by omega] at q
    exact q
def NoUp (m : MD) (a b : Int) : Prop := ∀ s w g, Reach m.ss [0] s → LoopAt m s w g → g * b ≤ a * w.length
theorem ov_none {m : MD} (o : m.Ok) {a b : Int} (hb : 0 < b) (hm : NoUp m a b) (n : Nat) : impr (lvl 1 (m.ss.map (ovS a b)) m.n) (bst 1 (m.ss.map (ovS a b)) m.n) n = false := by
  have one : (1 : Int) = 1 ∨ (1 : Int) = -1 := .inl rfl
  unfold impr
  rw [lvl_ov hb]
  cases e : lvl 1 m.ss m.n n with
  | none => rfl
  | some x =>
    have lx := (lvl_ok o _ _ _ e).2
    have r := lvl_run o one _ _ _ e
    rw [Int.one_mul] at r
    obtain ⟨s, v, g, w', rs, hv, hw', hl, v0⟩ := cut_loop o r (by omega)
    obtain ⟨y, ey, hy⟩ := lvlS_best (sg := 1) w'.length w' n (x.1 - g) rfl hw'
    rw [← lvl_eq] at ey
    have l' := lvl_ov (a := a) hb m.ss w'.length n
    rw [ey] at l'
    obtain ⟨z, ez⟩ := bst_has m.n w'.length _ (by omega) l'
    have up := (bst_spec _ _ ez).2 _ _ (by omega) l'
    rw [ez]
    show decide (z.1 < b * x.1 - a * (m.n : Nat)) = false
    refine decide_eq_false ?_
    have up' : b * y.1 - a * (w'.length : Nat) ≤ z.1 := up
    have hmv := hm s v g rs hv
    have h1 := Int.mul_le_mul_of_nonneg_left hy (Int.le_of_lt hb)
    have en : (m.n : Int) = (w'.length : Int) + (v.length : Int) := by omega
    rw [Int.one_mul, Int.mul_sub] at h1
    rw [en, Int.mul_add]
    rw [Int.mul_comm g b] at hmv
    omega
theorem num_some {m : MD} (o : m.Ok) {a b : Int} (hb : 0 < b) {k : Nat} (hr : Reach m.ss [0] k) : ∃ y, bst 1 (m.ss.map (ovS a b)) m.n k = some y := by
  obtain ⟨w, t, hw, hrun⟩ := short_row o hr
  obtain ⟨x, ex, _⟩ := lvlS_best (sg := 1) w.length w k t rfl hrun
  rw [← lvl_eq] at ex
  have l' := lvl_ov (a := a) hb m.ss w.length k
  rw [ex] at l'
  exact bst_has m.n w.length _ hw l'
/-- the numbers of a mean: no step leads above the next one -/
theorem num_step {m : MD} (o : m.Ok) {a b : Int} (hb : 0 < b) (hm : NoUp m a b) {s : Stp} (hs : s ∈ m.ss) (hr : Reach m.ss [0] s.b) :
    ∃ y z, bst 1 (m.ss.map (ovS a b)) m.n s.b = some y ∧ bst 1 (m.ss.map (ovS a b)) m.n s.e = some z ∧ y.1 + (b * s.g - a) ≤ z.1 := by
  have one : (1 : Int) = 1 ∨ (1 : Int) = -1 := .inl rfl
  obtain ⟨y, ey⟩ := num_some (a := a) o hb hr
  obtain ⟨j, hj, ej⟩ := bst_of _ _ _ ey
  rw [lvl_ov hb] at ej
  cases ex : lvl 1 m.ss j s.b with
  | none => rw [ex] at ej; cases ej
  | some x =>
    rw [ex] at ej
    cases ej
    have lx := (lvl_ok o _ _ _ ex).2
    have r := lvl_run o one _ _ _ ex
    rw [Int.one_mul] at r
    have r2 : run m (x.2 ++ [s.c]) = some (s.e, x.1 + s.g) := run_snoc.mpr ⟨s.b, x.1, s, r, stepOf_self o hs, rfl, rfl⟩
    obtain ⟨q, eq, hq⟩ := lvlS_best (sg := 1) (j + 1) (x.2 ++ [s.c]) s.e (x.1 + s.g) (by rw [List.length_append, lx]; rfl) r2
    rw [← lvl_eq] at eq
    have l' := lvl_ov (a := a) hb m.ss (j + 1) s.e
    rw [eq] at l'
    have h1 := Int.mul_le_mul_of_nonneg_left hq (Int.le_of_lt hb)
    rw [Int.one_mul, Int.mul_add] at h1
    have ea : a * ((j + 1 : Nat) : Int) = a * (j : Int) + a := by rw [Int.natCast_add, Int.mul_add]; omega
    have fin : ∀ z : Int × Wd, (ovY a b (j + 1) q).1 ≤ z.1 → (ovY a b j x).1 + (b * s.g - a) ≤ z.1 := fun z hz => by
      have hz' : b * q.1 - a * ((j + 1 : Nat) : Int) ≤ z.1 := hz
      show b * x.1 - a * (j : Nat) + (b * s.g - a) ≤ z.1
      omega
    by_cases c : j + 1 < m.n
    · obtain ⟨z, ez⟩ := bst_has m.n (j + 1) _ c l'
      exact ⟨_, z, ey, ez, fin z ((bst_spec _ _ ez).2 _ _ c l')⟩
    · have ej : j + 1 = m.n := by omega
      rw [ej] at l'
      have no := ov_none o hb hm s.e
      unfold impr at no
      rw [l'] at no
      cases ez : bst 1 (m.ss.map (ovS a b)) m.n s.e with
      | none => rw [ez] at no; cases no
      | some z =>
        rw [ez] at no
        have nz := of_decide_eq_false no
        refine ⟨_, z, ey, rfl, fin z ?_⟩
        rw [ej]
        show (ovY a b m.n q).1 ≤ z.1
        exact Int.not_lt.mp nz
/-! ### the program's numbers of a mean, and its paper -/
def numV (a b : Int) (m : MD) (k : Nat) : V := match bst 1 (m.ss.map (ovS a b)) m.n k with
  | some y => .int y.1
  | none => .non
theorem ov_ok {m : MD} (o : m.Ok) {a b : Int} (b0 : 0 < b) (b8 : b ≤ 8) (a0 : -(10 ^ 31) ≤ a) (a1 : a ≤ 10 ^ 31) : SsOk m.n (m.ss.map (ovS a b)) := by
  have n8 := o.n8
  refine ⟨o.n1, by omega, fun s hs => ?_, by rw [List.length_map]; have := o.len; omega⟩
  obtain ⟨s0, h0, rfl⟩ := List.mem_map.mp hs
  have k := o.ok s0 h0
  have g := k.g
  have g' := k.g'
  have h1 : b * s0.g ≤ b * 10 ^ 30 := Int.mul_le_mul_of_nonneg_left g' (Int.le_of_lt b0)
  have h2 : b * -(10 ^ 30) ≤ b * s0.g := Int.mul_le_mul_of_nonneg_left g (Int.le_of_lt b0)
  exact ⟨k.b, k.c, k.c', k.e, by show _ ≤ b * s0.g - a; omega, by show b * s0.g - a ≤ _; omega⟩
def sp_over (K : PySem.W.Frag) (C : Addr) : Sp := fun vs H Q _ => ∃ (x : Addr) (a b : Int) (m : MD), vs = [.ref x, .int a, .int b] ∧ MAt K C H x m ∧ m.Ok ∧ 0 < b ∧ b ≤ 8 ∧
  ∀ p us H', Same H H' → H p = none → H' p = some (.lst us) → StpsAt K H' us (m.ss.map (ovS a b)) → Q (.ref p) H'
def sp_nums (K : PySem.W.Frag) (C : Addr) : Sp := fun vs H Q _ => ∃ (x : Addr) (a b : Int) (m : MD), vs = [.ref x, .int a, .int b] ∧ MAt K C H x m ∧ m.Ok ∧ 0 < b ∧ b ≤ 8 ∧ -(10 ^ 31) ≤ a ∧ a ≤ 10 ^ 31 ∧ NoUp m a b ∧
  ∀ p H', Same H H' → H p = none → H' p = some (.tup ((List.range m.n).map (numV a b m))) → Q (.ref p) H'
/-- what a paper of the mean holds -/
def sp_mpaper (K : PySem.W.Frag) (C : Addr) : Sp := fun vs H Q _ => ∃ (x : Addr) (m : MD), vs = [.ref x] ∧ MAt K C H x m ∧ m.Ok ∧
  (∀ H', Same H H' → (∀ b w g, Reach m.ss [0] b → ¬ LoopAt m b w g) → Q .non H') ∧
  ∀ p q r H' a b s g lead loop, Same H H' → H p = none → H' p = some (.tup [.ref q, .str (sOf lead), .str (sOf loop), .ref r]) → H' q = some (.tup [.int a, .int b]) → H' r = some (.tup ((List.range m.n).map (numV a b m))) →
    0 < b → b ≤ 8 → -(8 * 10 ^ 30) ≤ a → a ≤ 8 * 10 ^ 30 → Nat.gcd a.natAbs b.natAbs = 1 → NoUp m a b → lead.length < m.n → (∃ t, run m lead = some (s, t)) → LoopAt m s loop g → g * b = a * loop.length → loop.length ≤ m.n → Q (.ref p) H'
section
variable {P : Program} {w : World} {K : PySem.W.Frag} {mg : Str → Option Value} {base : Heap}
theorem ok_steps_over (T : Txt K mg) : FnOk P w K mg base (L2.CX P w) 3 T.a_steps_over T.fd_steps_over ["machine", "over", "under"] (sp_over K T.c_Machine) := by
  refine T.F_steps_over.okX sc_steps_over (fun vs H Q E h => ?_) (fun cdv A outer s H vs Q E hr h => ?_)
  · obtain ⟨x, a, b, m, rfl, _⟩ := h
    rfl
  · obtain ⟨x, a, b, m, rfl, hm, o, b0, b8, k⟩ := h
    obtain ⟨dx, t, u, hx, ⟨us, ht, hs⟩, hp2⟩ := id hm
    refine ⟨_, (PSs.nox (pss_one (ps_ret (pe_lc (own := [("begun", 3), ("letter", 4), ("end", 5), ("gain", 6)]) (g := (gTup K 4 (gCons (gName 3) (gCons (gName 4) (gCons (gName 5) (gCons (gName 6) gNil)))))) (tt := tYes) rfl sc_steps_over.nd (pi_tup (pe_prop (pv 0) T.cl_Machine T.p_steps (ok_Machine_steps T) (hr.mono (by decide)) T.b_Machine_steps .nil passL rfl)) (blkOk_by (own := [("begun", 3), ("letter", 4), ("end", 5), ("gain", 6)]) (N := ["machine", "over", "under", "begun", "letter", "end", "gain"]) (sc := defScope s_steps_over) (by decide +kernel)) (fun _ _ _ _ _ => (pg_tup rfl (pgs_cons (pg_name (i := 3) sc_steps_over.nd rfl (Or.inl rfl)) (pgs_cons (pg_name (i := 4) sc_steps_over.nd rfl (Or.inl rfl)) (pgs_cons (pg_name (i := 5) sc_steps_over.nd rfl (Or.inl rfl)) (pgs_cons (pg_name (i := 6) sc_steps_over.nd rfl (Or.inl rfl)) pgs_nil)))))) (fun _ _ _ _ _ => pts_nil) (fun _ _ _ _ _ => (pe_tup (pa_cons (pv 3) (pa_cons (pv 4) (pa_cons (pv 5) (pa_cons (pe_op op_sub (pe_op op_mulW (pv 2) (pv 6)) (pv 1)) pa_nil)))))))))), ?_⟩
    walk_at "begin"
    walk_at "go"
    refine ⟨x, dx, _, rfl, hx, x, dx, _, .ref t, rfl, hx, rfl, ?_⟩
    walk_at "go"
    refine ⟨t, rfl, ⟨us, ht⟩, fun D hD => ?_⟩
    refine lc_tup (xs := us) (fun i H' => Same H H' ∧ ∃ ws, H' D = some (.lst ws) ∧ StpsAt K H' ws ((m.ss.take i).map (ovS a b)) ∧ ws.length ≤ i) ⟨Same.new hD, [], upd_same, ⟨rfl, fun i s e => by simp at e⟩, Nat.le_refl _⟩
      (fun i H' _ ⟨z, _⟩ => (same_tups z).sq ht) ?_ ?_
    · rintro i y H1 hy ⟨z, ws, eD, nx, lw⟩
      have il : i < m.ss.length := by rw [← hs.1]; exact (List.getElem?_eq_some_iff.mp hy).1
      have ei : m.ss[i]? = some (m.ss[i]'il) := List.getElem?_eq_getElem il
      obtain ⟨q, eq, hq⟩ := hs.2 i _ ei
      rw [hy] at eq
      cases eq
      have l32 := o.len
      have ok1 := o.ok _ (List.getElem_mem il)
      have tk : (m.ss.take (i + 1)).map (ovS a b) = (m.ss.take i).map (ovS a b) ++ [ovS a b (m.ss[i]'il)] := by
        rw [List.take_add_one, ei, List.map_append]
        rfl
      rw [tk]
      generalize m.ss[i]'il = s0 at hq ok1
      have g := ok1.g
      have g' := ok1.g'
      refine k_gt ((same_tups z).sq hq) rfl ?_
      unfold stpV
      walk_at "go"
      refine ⟨rfl, ?_⟩
      walk_at "go"
      refine iteT ?_
      walk_at "go"
      refine ⟨_, _, rfl, rfl, wide_mul (a := 4) (b := 100) (by omega) (by omega) (by decide) (by decide) (by decide), ?_⟩
      walk_at "go"
      refine ⟨(by decide : 4 ≤ sizeLine), fun pn hpn => ?_⟩
      have eD2 : (upd H1 pn (.tup [.int (s0.b : Nat), .str ⟨#[s0.c]⟩, .int (s0.e : Nat), .int (b * s0.g - a)])) D = some (.lst ws) := by rw [upd_ne (ne_of_none eD hpn)]; exact eD
      refine ⟨ws, eD2, Nat.lt_trans (show ws.length < 100 by omega) (by decide), Same.mut (z.trans (Same.new hpn)) hD, _, upd_same, ?_, by rw [List.length_append, List.length_singleton]; omega⟩
      exact (Tups.lst eD2).steps (((Tups.new hpn).steps nx).snoc (s := ovS a b s0) (SqT.of upd_same))
    · rintro H1 ⟨z, ws, eD, nx, lw⟩
      rw [hs.1, List.take_length] at nx
      walk_at "go"
      exact k D ws H1 z hD eD nx
theorem ok_numbers (T : Txt K mg) : FnOk P w K mg base (L2.CX P w) 6 T.a_numbers T.fd_numbers ["machine", "over", "under"] (sp_nums K T.c_Machine) := by
  refine T.F_numbers.okX sc_numbers (fun vs H Q E h => ?_) (fun cdv A outer s H vs Q E hr h => ?_)
  · obtain ⟨x, a, b, m, rfl, _⟩ := h
    rfl
  · obtain ⟨x, a, b, m, rfl, hm, o, b0, b8, a0, a1, nu, k⟩ := h
    obtain ⟨dx, t, u, hx, hp0⟩ := id hm
    have n8 := o.n8
    refine ⟨_, (PSs.nox (pss_cons (ps_set (i := 3) sc_numbers.nd rfl (Or.inr rfl) (pe_call (ok_best_rows T) (hr.mono (by decide)) (by rfl) T.m_best_rows T.k_best_rows T.b_best_rows .nil passL (pa_cons (pe_prop (pv 0) T.cl_Machine T.p_stands (ok_Machine_stands T) (hr.mono (by decide)) T.b_Machine_stands .nil passL rfl) (pa_cons (pe_call (ok_steps_over T) (hr.mono (by decide)) (by rfl) T.m_steps_over T.k_steps_over T.b_steps_over .nil passL (pa_cons (pv 0) (pa_cons (pv 1) (pa_cons (pv 2) pa_nil)))) (pa_cons pe_int pa_nil)))))
  (pss_one (ps_ret (pe_callTy call_tuple_of (by rfl) T.z_tuple PySem.Pv.boot_tuple (pa_cons (pe_lc (own := [("stand", 4)]) (g := (gName 4)) (tt := tYes) rfl sc_numbers.nd (pi_range1 (by rfl) T.z_range (pa_cons (pe_prop (pv 0) T.cl_Machine T.p_stands (ok_Machine_stands T) (hr.mono (by decide)) T.b_Machine_stands .nil passL rfl) pa_nil)) (blkOk_by (own := [("stand", 4)]) (N := ["machine", "over", "under", "best", "stand"]) (sc := defScope s_numbers) (by decide +kernel)) (fun _ _ _ _ _ => (pg_name (i := 4) sc_numbers.nd rfl (Or.inl rfl))) (fun _ _ _ _ _ => pts_nil) (fun _ _ _ _ _ => (pe_ifExp (pt_cmp (pc_din (hu_of hr) (pv 4) (pv 3)) (by rfl)) (pe_ix (show IxR _ (rIxT K) from ix_tup) (pe_dget (hu_of hr) (pv 3) (pv 4) (fun _ _ => rfl)) pe_int (fun _ _ => rfl)) pe_non))) pa_nil)))))), ?_⟩
    walk_at "begin"
    walk_at "go"
    refine ⟨x, dx, _, rfl, hx, x, dx, _, .int (m.n : Nat), rfl, hx, rfl, ?_⟩
    walk_at "go"
    refine ⟨x, a, b, m, rfl, hm, o, b0, b8, fun p us H1 z1 hp ep st => ?_⟩
    walk_at "go"
    refine ⟨p, 1, m.n, _, rfl, ⟨us, .inr (SqL.of ep), st⟩, ov_ok o b0 b8 a0 a1, .inl rfl, fun q kvs H2 l L z2 hq eq hl hL ok => ?_⟩
    have L0 : ∀ n, n ∉ L := fun n hn => by
      have r := (hL n).mp hn
      clear hn
      induction r with
      | base h =>
        have := (hl _).mp h
        rw [ov_none o b0 nu] at this
        cases this
      | step _ _ ih => exact ih
    have ok := ok.congr (e' := E2 (bst 1 (m.ss.map (ovS a b)) m.n)) fun n => if_neg (L0 n)
    clear L0 hl hL st ep
    have z12 := z1.trans z2
    walk_at "go"
    refine ⟨x, dx, _, rfl, z12 _ _ hx, x, dx, _, .int (m.n : Nat), rfl, z12 _ _ hx, rfl, ?_⟩
    walk_at "go"
    refine k_rg (by omega) (by omega) fun D hD => ?_
    have hD0 := free_of z12 hD
    refine lc_range (lo := 0) (n := (((m.n : Nat) : Int)).toNat) (fun i H' => Same H2 H' ∧ H' D = some (.lst ((List.range i).map (numV a b m)))) ⟨Same.new hD, upd_same⟩ ?_ ?_
    · rintro i H3 hi ⟨z3, eD⟩
      have im : i < m.n := hi
      have i0 : (0 + (i : Nat) : Int) = ((i : Nat) : Int) := by omega
      rw [i0]
      walk_at "go"
      refine ⟨rfl, ?_⟩
      walk_at "go"
      refine iteT ?_
      walk_at "go"
      have dg := DGet.k (k := .inl (i : Int)) (z3 _ _ eq)
      refine ⟨q, _, rfl, dg, ?_⟩
      walk_at "go"
      have small : ((List.range i).map (numV a b m)).length < sizeLine := by
        rw [List.length_map, List.length_range]
        exact Nat.lt_trans (show i < 100 by omega) (by decide)
      have rs : (List.range (i + 1)).map (numV a b m) = (List.range i).map (numV a b m) ++ [numV a b m i] := by rw [List.range_succ, List.map_append]; rfl
      rw [rs]
      cases e : bst 1 (m.ss.map (ovS a b)) m.n i with
      | none =>
        have ev := (ok.2 i).1 (by unfold E2; rw [e]; rfl)
        have en : numV a b m i = .non := by unfold numV; rw [e]
        rw [ev, en]
        refine iteF ?_
        walk_at "go"
        exact ⟨_, eD, small, Same.mut z3 hD, upd_same⟩
      | some y =>
        obtain ⟨p1, ev, sq⟩ := (ok.2 i).2 (ent2 y) (by unfold E2; rw [e]; rfl)
        have en : numV a b m i = .int y.1 := by unfold numV; rw [e]
        rw [ev] at dg ⊢
        rw [en]
        refine iteT ?_
        walk_at "go"
        refine ⟨q, _, rfl, dg, ?_⟩
        walk_at "go"
        refine k_ixT ((same_tups z3).sq sq) (v := .int y.1) rfl ?_
        exact ⟨_, eD, small, Same.mut z3 hD, upd_same⟩
    · rintro H3 ⟨z3, eD⟩
      walk_at "go"
      refine ⟨D, _, rfl, .inl ⟨SqL.of eD, fun l hl => ?_⟩⟩
      have hl2 : H l = none := free_of z12 (free_of z3 hl)
      exact k l _ ((z12.trans z3).trans (Same.new hl)) hl2 upd_same
theorem ok_mean_paper (T : Txt K mg) : FnOk P w K mg base (L2.CX P w) 8 T.a_mean_paper T.fd_mean_paper ["machine"] (sp_mpaper K T.c_Machine) := by
  refine T.F_mean_paper.okX sc_mean_paper (fun vs H Q E h => ?_) (fun cdv A outer s H vs Q E hr h => ?_)
  · obtain ⟨x, m, rfl, _⟩ := h
    rfl
  · obtain ⟨x, m, rfl, hm, o, k⟩ := h
    obtain ⟨dx, t, u, hx, hp0⟩ := id hm
    have n8 := o.n8
    have one : (1 : Int) = 1 ∨ (1 : Int) = -1 := .inl rfl
    refine ⟨_, (PSs.nox (pss_cons (ps_expr (pe_call (ok_check_machine T) (hr.mono (by decide)) (by rfl) T.m_check_machine T.k_check_machine T.b_check_machine .nil passL (pa_cons (pv 0) pa_nil)))
  (pss_cons (ps_set (i := 1) sc_mean_paper.nd rfl (Or.inl rfl) (pe_call (ok_best_loop T) (hr.mono (by decide)) (by rfl) T.m_best_loop T.k_best_loop T.b_best_loop .nil passL (pa_cons (pv 0) (pa_cons pe_int pa_nil))))
  (pss_cons (ps_if (pt_cmp (pc_isN (pv 1)))
  (pss_one (ps_ret pe_non))
  pss_nil)
  (pss_cons (ps_asg (pv 1) (pg_tup rfl (pgs_cons (pg_name (i := 2) sc_mean_paper.nd rfl (Or.inl rfl)) (pgs_cons (pg_name (i := 3) sc_mean_paper.nd rfl (Or.inl rfl)) (pgs_cons (pg_name (i := 4) sc_mean_paper.nd rfl (Or.inl rfl)) pgs_nil)))))
  (pss_cons (ps_asg (pe_call (ok_fraction T) (hr.mono (by decide)) (by rfl) T.m_fraction T.k_fraction T.b_fraction .nil passL (pa_cons (pv 3) (pa_cons (pe_callB call_len_str (by rfl) T.z_len PySem.boot_len (pa_cons (pv 4) pa_nil)) pa_nil))) (pg_tup rfl (pgs_cons (pg_name (i := 5) sc_mean_paper.nd rfl (Or.inl rfl)) (pgs_cons (pg_name (i := 6) sc_mean_paper.nd rfl (Or.inl rfl)) pgs_nil))))
  (pss_cons (ps_set (i := 7) sc_mean_paper.nd rfl (Or.inl rfl) (pe_dget (hu_of hr) (pe_call (ok_shortest_rows T) (hr.mono (by decide)) (by rfl) T.m_shortest_rows T.k_shortest_rows T.b_shortest_rows .nil passL (pa_cons (pe_prop (pv 0) T.cl_Machine T.p_stands (ok_Machine_stands T) (hr.mono (by decide)) T.b_Machine_stands .nil passL rfl) (pa_cons (pe_prop (pv 0) T.cl_Machine T.p_steps (ok_Machine_steps T) (hr.mono (by decide)) T.b_Machine_steps .nil passL rfl) pa_nil))) (pv 2) (fun _ _ => rfl)))
  (pss_one (ps_ret (pe_tup (pa_cons (pe_tup (pa_cons (pv 5) (pa_cons (pv 6) pa_nil))) (pa_cons (pv 7) (pa_cons (pv 4) (pa_cons (pe_call (ok_numbers T) (hr.mono (by decide)) (by rfl) T.m_numbers T.k_numbers T.b_numbers .nil passL (pa_cons (pv 0) (pa_cons (pv 5) (pa_cons (pv 6) pa_nil)))) pa_nil)))))))))))))), ?_⟩
    walk_at "begin"
    walk_at "go"
    refine ⟨x, dx, _, rfl, hx, ?_⟩
    walk_at "go"
    refine ⟨x, 1, m, rfl, hm, o, one, fun r v H1 z1 bm hb => ?_⟩
    walk_at "go"
    cases r with
    | none =>
      cases hb
      refine k_yes (decide_eq_true rfl) ?_
      walk_at "go"
      rcases bm with ⟨_, e⟩ | ⟨_, _, q, _⟩
      · exact k.1 H1 z1 fun b w g hb hl => mean_none o e w.length b w g (Nat.le_refl _) hb hl
      · cases q
    | some q =>
      obtain ⟨p, rfl, hp⟩ := hb
      rcases bm with ⟨q, _⟩ | ⟨s0, x0, q, r0, hx0, al⟩
      · cases q
      cases q
      have px := loops_pos o hx0
      have sx := loops_small o one hx0
      refine k_no (decide_eq_false (by simp)) ?_
      walk_at "go"
      refine k_gt hp rfl ?_
      walk_at "go"
      refine ⟨_, rfl, sOf_fits (w := x0.2) (by omega), ?_⟩
      rw [sOf_len]
      walk_at "go"
      refine ⟨x0.1, x0.2.length, rfl, px.1, by omega, by omega, fun p2 a b c H2 z2 hp2 hq2 ea eb c0 b0 gc => ?_⟩
      refine k_gt (SqT.of hq2) rfl ?_
      walk_at "go"
      have z12 := z1.trans z2
      refine ⟨x, dx, _, rfl, z12 _ _ hx, x, dx, _, .int (m.n : Nat), rfl, z12 _ _ hx, rfl, ?_⟩
      walk_at "go"
      refine ⟨x, dx, _, rfl, z12 _ _ hx, x, dx, _, .ref t, rfl, z12 _ _ hx, rfl, ?_⟩
      walk_at "go"
      refine ⟨t, m, rfl, (same_tups z12).stAt hp0.1, o, fun p3 kvs f H3 z3 hp3 ep3 kg nd fr fx => ?_⟩
      obtain ⟨lead, el⟩ := Option.ne_none_iff_exists'.mp ((fr s0).mpr r0)
      obtain ⟨lw, tl, rl⟩ := fx _ _ el
      have ek : valV kvs (.inl (s0 : Int)) = some (V.str (sOf lead)) := by
        have e := kg.2 s0
        dsimp only at e
        rw [el] at e
        exact e
      have dg := DGet.k (k := .inl (s0 : Int)) ep3
      rw [ek] at dg
      walk_at "go"
      refine ⟨p3, _, rfl, dg, ?_⟩
      walk_at "go"
      have z13 := z12.trans z3
      have hq3 := z3 _ _ hq2
      clear dg ek fx fr nd kg ep3 hp3
      have ab : a.natAbs ≤ x0.1.natAbs := by
        have e : x0.1.natAbs = a.natAbs * c.natAbs := by rw [ea, Int.natAbs_mul]
        rw [e]
        exact Nat.le_mul_of_pos_right _ (by omega)
      have b8 : b ≤ b * c := by have := Int.mul_le_mul_of_nonneg_left (show (1 : Int) ≤ c by omega) (Int.le_of_lt b0); rw [Int.mul_one] at this; exact this
      have nu : NoUp m a b := fun s w g hs hl => by
        have h := mean_all (sg := 1) o al w.length s w g (Nat.le_refl _) hs hl
        rw [Int.one_mul, eb, ea, ← Int.mul_assoc] at h
        rw [Int.mul_right_comm a c] at h
        exact Int.le_of_mul_le_mul_right h c0
      obtain ⟨ll, g0, lp, eg⟩ := loops_true o hx0
      refine ⟨by show 2 ≤ sizeLine; decide, fun p4 hp4 => ?_⟩
      have z4 := Same.new (o := .tup [.int a, .int b]) hp4
      have e4 := upd_same (H := H3) (a := p4) (o := .tup [.int a, .int b])
      have f4 := free_of z13 hp4
      generalize upd H3 p4 (.tup [.int a, .int b]) = H4 at z4 e4 ⊢
      walk_at "go"
      have z14 := z13.trans z4
      refine ⟨x, a, b, m, rfl, hm.same z14, o, b0, by omega, by omega, by omega, nu, fun p5 H5 z5 hp5 ep5 => ?_⟩
      walk_at "go"
      refine ⟨by show 4 ≤ sizeLine; decide, fun p6 hp6 => ?_⟩
      have z6 := Same.new (o := .tup [.ref p4, .str (sOf lead), .str (sOf x0.2), .ref p5]) hp6
      refine k.2 p6 p4 p5 _ a b s0 g0 lead x0.2 ((z14.trans z5).trans z6) (free_of (z14.trans z5) hp6) upd_same (z6 _ _ (z5 _ _ e4)) (z6 _ _ ep5) b0 (by omega) (by omega) (by omega) gc nu lw ⟨tl, rl⟩ lp ?_ px.2
      rw [Int.one_mul] at eg
      have e1 : g0 * b * c = a * x0.2.length * c := by
        rw [Int.mul_assoc, ← eb, ← eg, ea, Int.mul_right_comm]
      exact Int.eq_of_mul_eq_mul_right (by omega) e1
end
/-! ### the law's greatest common divisor -/
theorem dvd_nat {d : Nat} {x : Int} : (d : Int) ∣ x ↔ d ∣ x.natAbs :=
  ⟨fun h => by have := Int.natAbs_dvd_natAbs.mpr h; rwa [Int.natAbs_natCast] at this, fun h => Int.natAbs_dvd_natAbs.mp (by rwa [Int.natAbs_natCast])⟩
theorem gcd_emod' (a b : Int) : Nat.gcd b.natAbs (a % b).natAbs = Nat.gcd a.natAbs b.natAbs := by
  have e : a % b + b * (a / b) = a := Int.emod_add_mul_ediv a b
  refine Nat.dvd_antisymm (Nat.dvd_gcd ?_ (Nat.gcd_dvd_left _ _)) (Nat.dvd_gcd (Nat.gcd_dvd_right _ _) ?_)
  · have h1 := dvd_nat.mpr (Nat.gcd_dvd_left b.natAbs (a % b).natAbs)
    have h2 := dvd_nat.mpr (Nat.gcd_dvd_right b.natAbs (a % b).natAbs)
    refine dvd_nat.mp ?_
    have h3 := Int.dvd_add h2 (Int.dvd_mul_of_dvd_left h1 (c := a / b))
    rwa [e] at h3
  · have h1 := dvd_nat.mpr (Nat.gcd_dvd_right a.natAbs b.natAbs)
    have h2 := dvd_nat.mpr (Nat.gcd_dvd_left a.natAbs b.natAbs)
    refine dvd_nat.mp ?_
    have h3 := Int.dvd_sub h2 (Int.dvd_mul_of_dvd_left h1 (c := a / b))
    rwa [show a - b * (a / b) = a % b by omega] at h3
def sp_lgcd (k : Nat) : Sp := fun vs H Q _ => ∃ a b : Int, vs = [.int a, .int b] ∧ 0 ≤ b ∧ b < k ∧ a.natAbs < 2 ^ 200 ∧ Q (.int ((Nat.gcd a.natAbs b.natAbs : Nat) : Int)) H
section
variable {P : Program} {w : World} {K : PySem.W.Frag} {mg : Str → Option Value} {base : Heap}
theorem ok_law_gcd_at (T : Txt K mg) : ∀ k : Nat, k ≤ 200 → FnOk P w K mg base (L2.CX P w) (k + 1) T.a_law_gcd T.fd_law_gcd ["_law_one", "_law_other"] (sp_lgcd k) := by
  intro k
  induction k with
  | zero =>
    intro _
    refine T.F_law_gcd.okX sc_law_gcd (fun vs H Q E h => ?_) (fun cdv A outer s H vs Q E hr h => ?_)
    · obtain ⟨a, b, rfl, _⟩ := h
      rfl
    · obtain ⟨a, b, rfl, b0, b1, _⟩ := h
      omega
  | succ k ih =>
    intro hk
    have ih := ih (by omega)
    have ok_law_gcd := fun _ : Txt K mg => ih
    refine T.F_law_gcd.okX sc_law_gcd (fun vs H Q E h => ?_) (fun cdv A outer s H vs Q E hr h => ?_)
    · obtain ⟨a, b, rfl, _⟩ := h
      rfl
    · obtain ⟨a, b, rfl, b0, b1, ab, q⟩ := h
      refine ⟨_, (PSs.nox (pss_one (ps_ret (pe_ifExp (pt_cmpR op_eq (pv 1) pe_int (nomark _)) (pe_callB call_abs (by rfl) T.z_abs (by decide +kernel) (pa_cons (pv 0) pa_nil)) (pe_call (ok_law_gcd T) (hr.mono (by omega)) (by rfl) T.m_law_gcd T.k_law_gcd T.b_law_gcd .nil passL (pa_cons (pv 1) (pa_cons (pe_op op_mod (pv 0) (pv 1)) pa_nil))))))), ?_⟩
      walk_at "begin"
      walk_at "go"
      by_cases c : b = 0
      · subst c
        refine k_yes (decide_eq_true rfl) ?_
        walk_at "go"
        have e : (if a < 0 then -a else a) = ((Nat.gcd a.natAbs (0 : Int).natAbs : Nat) : Int) := by
          rw [Int.natAbs_zero, Nat.gcd_zero_right]
          split <;> omega
        refine ⟨a, rfl, ?_⟩
        rw [e]
        exact q
      · refine k_no (decide_eq_false fun z => c (by injection z)) ?_
        walk_at "go"
        refine k_I (show 0 < b by omega) ?_
        walk_at "go"
        have lt := Int.emod_lt_of_pos a (show 0 < b by omega)
        have nn := Int.emod_nonneg a c
        refine ⟨b, a % b, rfl, nn, by omega, by omega, ?_⟩
        rw [gcd_emod']
        exact q
end
/-! ### {(a, b): v for ..}: keys that are tuples -/
def tDcT (wi : TI) (g : TG) (tt : TT) (tk tv : TE) (vs : List Nat) : TE := fun σ H Q => wi σ H fun J H1 => ∀ D, H1 D = none → ∃ W : Nat → Nat → Hp → Prop, (∃ m, W 0 m (upd H1 D (.dT []))) ∧ ∀ i m H, W i m H →
  (J.stop i H ∧ Q (.ref D) H) ∨ (J.go i H ∧ ∃ Nx : Hp → Prop, (∀ H', Nx H' → ∃ m', m' < m ∧ W (i + 1) m' H') ∧ ∀ x H', J.yld i H x H' → g x (wipe σ vs) H' fun σ2 H2 => wipe σ2 vs = wipe σ vs ∧ tt σ2 H2 fun b H3 =>
    if b = true then tk σ2 H3 fun y H4 => tv σ2 H4 fun z H5 => ∃ kvs k b, y = .ref b ∧ H5 b = some (.tup (k.map kV)) ∧ H5 D = some (.dT kvs) ∧ kvs.length < sizeLine ∧ Nx (upd H5 D (.dT (putK kvs k z))) else Nx H3)
theorem dictSetT {X : Cx} {pins : List (Addr × Obj)} {σ : L2.St} {H : Hp} {s : Shared} {E : Value → Shared → Prop} {D b : Addr} {kvs : List (List Key × V)} {k : List Key} {v : V} {r : Value} {Q : Unit → Shared → Prop} (hu : X.A.units + 1 < cLine)
    (I : L2.Inv X pins σ H s) (eD : H D = some (.dT kvs)) (eb : H b = some (.tup (k.map kV))) (lz : kvs.length < sizeLine) (rv : RelV v r) (h : ∀ s', L2.Inv X pins σ (upd H D (.dT (putK kvs k v))) s' → Q () s') :
    wpAny (model X.prog X.w) X.A (dictSet D (.ref b) r) Q E s := by
  obtain ⟨z, nsm, xs, rel, dd⟩ := dt_of I.hok eD
  have lx : xs.length ≤ sizeLine := by rw [← Paired.length rel]; exact z
  have ll : (putK kvs k v).length ≤ sizeLine := Nat.le_trans (length_putK kvs k v) lz
  refine wpAny_dictSet_heap (hsz := lx) (Nat.lt_of_succ_lt hu) (key_of I.hok eb) dd fun h' dd' sb => h _ ?_
  obtain ⟨q, es, ep, eq, x2, x3, x4, _, x5⟩ := dd'
  refine d_write I (by rw [eD]; exact True.intro) sb ⟨q, eq⟩ ⟨ll, nsm, _, (rel.put k eb rv).keeps fun c ys ec => ?_, q, es, ep, eq, x2, x3, x4, x5⟩
  rw [upd_ne (ne_of ec eD (fun w => nomatch w))]
  exact ec
section
variable {X : Cx}
theorem dcT_core {pins : List (Addr × Obj)} {s : Shared} {σ : L2.St} {H : Hp} {Q : VK} {kx vx tg it : Expr} {ifs : List Expr} {sc : Scope} {own : List (Str × Nat)} {pos pos' : Pos} {wi : TI} {g : TG} {tt : TT} {tk tv : TE}
    {use : Option (Value → Sem Unit)} {Qf : Value → Shared → Prop} (hu : X.A.units + 1 < cLine) (hc : X.calm = true) (hN : X.N.Nodup) (I : L2.Inv X pins σ H s) (hi : PI X tg it wi) (ok : BlkOk X.N X.env.scope sc own)
    (hg : ∀ (s : Shared) (H : Hp) (C : Addr) (cl : List (Str × Addr)) (fp : List Addr), PG (X.blk s H sc (compEnvC sc cl C X.env) fp) tg g)
    (ht : ∀ (s : Shared) (H : Hp) (C : Addr) (cl : List (Str × Addr)) (fp : List Addr), PTs (X.blk s H sc (compEnvC sc cl C X.env) fp) ifs tt)
    (hk : ∀ (s : Shared) (H : Hp) (C : Addr) (cl : List (Str × Addr)) (fp : List Addr), PE (X.blk s H sc (compEnvC sc cl C X.env) fp) kx tk)
    (hv : ∀ (s : Shared) (H : Hp) (C : Addr) (cl : List (Str × Addr)) (fp : List Addr), PE (X.blk s H sc (compEnvC sc cl C X.env) fp) vx tv)
    (hs : ∀ x, foldedSetIterable it X.env x = pure x) (h : tDcT wi g tt tk tv (own.map (·.2)) σ H Q)
    (post : ∀ D C s' m H', L2.Inv X pins σ H' s' → Q (.ref D) H' → s'.heap.Ns C m → FpOk X pins H' C → compPost (model X.prog X.w) X.A X.xe use Qf (.ref D) C (.ok .next) s') :
    wpAny (model X.prog X.w) X.A (comprehension (.DictComp kx vx [⟨tg, it, ifs, 0⟩] sc pos) sc X.env pos' newDict false (eval it X.env) use) Qf X.xe s := by
  have fr : ∀ y ∈ sc.names, y.2 = .free → ∃ c, X.env.cells.lookup y.1 = some c := by
    intro y hy e
    exact (ok.free y hy e).elim (fun k => I.ok.has _ (.inl k)) (fun k => I.ok.has _ (.inr k))
  refine wpAny_comprehension_free (use := use) rfl hs (closure_ok fr) ok.kind (fun y hy e => by rw [ok.uniq y hy, e]) (thn (hi.run pins s σ H _ I h) ?_)
  intro xv p1 hx
  refine thn hx ?_
  rintro itv p2 ⟨ia, fp, tn, J, G2, rfl, J2, T, st2, f2, q⟩
  refine wpAny_newObj_type (newEnv_comp ?_)
  generalize eD : p2.heap.objs.size = D
  have nD : G2 D = none := J2.hok.fresh (Nat.le_of_eq eD)
  obtain ⟨W, ⟨m0, w0⟩, turn⟩ := q D nD
  generalize ep3 : ({ p2 with heap := p2.heap.push { cls := .type "dict", data := .dict #[] } } : Shared) = p3
  have J3 : L2.Inv X pins σ (upd G2 D (.dT [])) p3 := by
    rw [← ep3]
    refine J2.laid (t' := p2.toks) (fun b o e => Heap.get?_push_of_some _ e) (Nat.le_of_eq eD) ?_
    rw [← eD]
    exact dt_empty p2.heap J2.big
  have hp3 : p3.heap = p2.heap.push { cls := .type "dict", data := .dict #[] } := by rw [← ep3]
  have small : ∀ b ∈ fp, b < p2.heap.objs.size := by
    intro b hb
    obtain ⟨o, e, _⟩ := T.obj _ _ st2 b hb
    exact Heap.lt_size e
  have f3 : ∀ b ∈ fp, FpOk X pins (upd G2 D (.dT [])) b ∧ b < p3.heap.objs.size := by
    intro b hb
    have lt := small b hb
    have up : (upd G2 D (.dT [])) b = none := by
      rw [upd_ne (by rw [← eD]; exact Nat.ne_of_lt lt)]
      exact (f2 b hb).1
    exact ⟨⟨up, (f2 b hb).2⟩, by rw [hp3, Heap.size_push]; exact Nat.lt_succ_of_lt lt⟩
  have st3 : tn 0 p3.heap := T.keep _ _ _ st2 fun b _ o e => by rw [hp3]; exact Heap.get?_push_of_some _ e
  have J4 := block_start J3 ok hN f3
  have pG := hg p3 (upd G2 D (.dT [])) p3.heap.objs.size (cellsFrom (p3.heap.objs.size + 1) sc.names (cloFrom X.env.cells sc.names [])) fp
  have pT := ht p3 (upd G2 D (.dT [])) p3.heap.objs.size (cellsFrom (p3.heap.objs.size + 1) sc.names (cloFrom X.env.cells sc.names [])) fp
  have pK := hk p3 (upd G2 D (.dT [])) p3.heap.objs.size (cellsFrom (p3.heap.objs.size + 1) sc.names (cloFrom X.env.cells sc.names [])) fp
  have pV := hv p3 (upd G2 D (.dT [])) p3.heap.objs.size (cellsFrom (p3.heap.objs.size + 1) sc.names (cloFrom X.env.cells sc.names [])) fp
  show codeAny _ _ (.compStart (.DictComp kx vx [⟨tg, it, ifs, 0⟩] sc pos) 0 (.ref ia) (.ref D) (compEnvC sc (cellsFrom (p3.heap.objs.size + 1) sc.names (cloFrom X.env.cells sc.names [])) p3.heap.objs.size X.env))
    (compPost (model X.prog X.w) X.A X.xe use Qf (.ref D) p3.heap.objs.size) { p3 with heap := pushCells (p3.heap.push { cls := .type "dict", data := .dict #[] }) sc.names }
  have none3 : ∀ b ∈ fp, (upd G2 D (.dT [])) b = none := fun b hb => (f3 b hb).1.1
  generalize ece : compEnvC sc (cellsFrom (p3.heap.objs.size + 1) sc.names (cloFrom X.env.cells sc.names [])) p3.heap.objs.size X.env = ce at J4 pG pT pK pV ⊢
  have locs : ce.locals = p3.heap.objs.size := by subst ece; rfl
  generalize eG3 : upd G2 D (.dT []) = G3 at J3 J4 pG pT pK pV w0 none3 f3
  generalize ep4 : ({ p3 with heap := pushCells (p3.heap.push { cls := .type "dict", data := .dict #[] }) sc.names } : Shared) = p4 at J4 ⊢
  have st4 : tn 0 p4.heap := T.keep _ _ _ st3 fun b _ o e => by rw [← ep4]; exact pushCells_keeps _ _ _ _ (Heap.get?_push_of_some _ e)
  have here : ∀ {σ' : L2.St} {H' : Hp} {s' : Shared}, L2.Inv (X.blk p3 G3 sc ce fp) [] σ' H' s' → (∀ b ∈ fp, H' b = none) → ∀ b ∈ fp, FpOk (X.blk p3 G3 sc ce fp) [] H' b := by
    intro σ' H' s' Z hn b hb
    exact ⟨hn b hb, (Z.ok.exf b hb).1, Z.ok.exfs b hb, .inl hb, fun x c e => (Z.ok.exf b hb).2 x c e, fun p hp => absurd (show p ∈ ([] : List (Addr × Obj)) ++ [] from hp) (by simp)⟩
  have loop : codeAny (model X.prog X.w) X.A (.compLoop (.DictComp kx vx [⟨tg, it, ifs, 0⟩] sc pos) 0 (.ref ia) (.ref D) ce) (compPost (model X.prog X.w) X.A X.xe use Qf (.ref D) p3.heap.objs.size) p4 := by
    refine compLoop_anyD (fun n s' => ∃ i H', L2.Inv (X.blk p3 G3 sc ce fp) [] (wipe σ (own.map (·.2))) H' s' ∧ tn i s'.heap ∧ (∀ b ∈ fp, H' b = none) ∧ W i n H') ?_ m0 ⟨0, G3, J4, st4, none3, w0⟩
    rintro n p5 ⟨i, G5, J5, st5, n5, w5⟩
    rcases turn i n G5 w5 with ⟨stop, qq⟩ | ⟨go, Nx, hNx, step⟩
    · refine thnF (T.done (X.blk p3 G3 sc ce fp) rfl rfl rfl hc i [] p5 _ G5 (fun _ _ => False) J5 (here J5 n5) st5 stop) ?_
      rintro r p6 ⟨rfl, J6⟩
      have J7 : L2.Inv X pins σ G5 p6 := J3.call' (ch := fp) J6.os J6.base J6.hok J6.bare fun b hb => ⟨(f3 b hb).1.2.2.2.1, (f3 b hb).1.2.1, (f3 b hb).1.2.2.2.2.1, (f3 b hb).1.2.2.2.2.2⟩
      have nC : G5 p3.heap.objs.size = none := by
        have z : G5 ce.locals = none := J6.free
        rwa [locs] at z
      obtain ⟨m, hn, _⟩ := J6.loc
      have hn' : p6.heap.Ns ce.locals m := hn
      rw [locs] at hn'
      exact post D p3.heap.objs.size p6 m G5 J7 qq hn' (J3.fpOk (Nat.le_refl _) nC)
    · refine thnF (T.item (X.blk p3 G3 sc ce fp) rfl rfl rfl hc i [] p5 _ G5 (fun _ _ => False) J5 (here J5 n5) st5 go) ?_
      rintro r p6 ⟨u, rfl, h6⟩
      refine thnF h6 ?_
      rintro _ p7 ⟨x, G7, J7, r7, y7, st7, n7⟩
      have K7 := J7.pinned (here J7 n7) (T.obj _ _ st7)
      refine thnF (pG.run _ p7 _ G7 x u _ K7 r7 (step x G7 y7)) ?_
      rintro _ p8 ⟨σ8, G8, J8, hw8, q8⟩
      refine thnF (pT.run _ p8 σ8 G8 _ J8 q8) ?_
      rintro b p9 ⟨G9, J9, q9⟩
      have fin : ∀ {s' : Shared} {H' : Hp}, L2.Inv (X.blk p3 G3 sc ce fp) ([] ++ pinsAt fp p7.heap) σ8 H' s' → Nx H' →
          ∃ m, m < n ∧ ∃ i H', L2.Inv (X.blk p3 G3 sc ce fp) [] (wipe σ (own.map (·.2))) H' s' ∧ tn i s'.heap ∧ (∀ b ∈ fp, H' b = none) ∧ W i m H' := by
        intro s' H' Z nx
        obtain ⟨m', hm, w'⟩ := hNx H' nx
        have pin : ∀ b ∈ fp, ∀ o, p7.heap.get? b = some o → s'.heap.get? b = some o ∧ H' b = none := fun b hb o e =>
          let z := Z.pin (b, o) (List.mem_append_right _ (List.mem_append_right _ (mem_pinsAt hb e)))
          ⟨z.1, z.2.1⟩
        have len : (wipe σ (own.map (·.2))).length = σ8.length := by rw [← hw8, wipe_length]
        have back : L2.Inv (X.blk p3 G3 sc ce fp) [] (wipe σ (own.map (·.2))) H' s' := (Z.unpinned (pins := [])).weak len fun j v e => by
          rw [← hw8] at e
          exact (wipe_some e).1
        exact ⟨m', hm, i + 1, H', back, T.keep _ _ _ st7 fun b hb o e => (pin b hb o e).1, fun b hb => let ⟨o, e, _⟩ := T.obj _ _ st7 b hb; (pin b hb o e).2, w'⟩
      cases b with
      | false =>
        simp only [Bool.false_eq_true, if_false] at q9 ⊢
        exact fin J9 q9
      | true =>
        simp only [if_true] at q9 ⊢
        refine thnF (pK.run _ p9 σ8 G9 _ J9 q9) ?_
        rintro z p10 ⟨yk, G10, J10, r10, q10⟩
        refine thnF (pV.run _ p10 σ8 G10 _ J10 q10) ?_
        rintro z2 p11 ⟨yv, G11, J11, r11, kvs, k, kb, rfl, eb, eD11, lz, nx⟩
        cases (show z = Value.ref kb from r10)
        exact dictSetT (X := X.blk p3 G3 sc ce fp) hu J11 eD11 eb lz r11 fun p12 J12 => fin J12 nx
  exact codeAny_compStart_dict loop (T.self X.A 0 _ _ _ st4 loop)
theorem ps_setDcT {i : Nat} {y : Str} {py : Pos} {kx vx tg it : Expr} {ifs : List Expr} {scope : Scope} {own : List (Str × Nat)} {pos sp : Pos} {wi : TI} {g : TG} {tt : TT} {tk tv : TE} (hu : X.A.units + 1 < cLine) (hc : X.calm = true) (hN : X.N.Nodup)
    (hy : X.N[i]? = some y) (hyl : X.env.scope.names.lookup y = some .local) (hsw : swapsWith (.DictComp kx vx [⟨tg, it, ifs, 0⟩] scope pos) (some (.Name y py)) sp.line X.env = pure true)
    (hi : PI X tg it wi) (ok : BlkOk X.N X.env.scope scope own)
    (hg : ∀ (s : Shared) (H : Hp) (C : Addr) (cl : List (Str × Addr)) (fp : List Addr), PG (X.blk s H scope (compEnvC scope cl C X.env) fp) tg g)
    (ht : ∀ (s : Shared) (H : Hp) (C : Addr) (cl : List (Str × Addr)) (fp : List Addr), PTs (X.blk s H scope (compEnvC scope cl C X.env) fp) ifs tt)
    (hk : ∀ (s : Shared) (H : Hp) (C : Addr) (cl : List (Str × Addr)) (fp : List Addr), PE (X.blk s H scope (compEnvC scope cl C X.env) fp) kx tk)
    (hv : ∀ (s : Shared) (H : Hp) (C : Addr) (cl : List (Str × Addr)) (fp : List Addr), PE (X.blk s H scope (compEnvC scope cl C X.env) fp) vx tv)
    (hs : ∀ x, foldedSetIterable it X.env x = pure x := by intro _; rfl) :
    PS X (.Assign [.Name y py] (.DictComp kx vx [⟨tg, it, ifs, 0⟩] scope pos) sp) (tAsg (tDcT wi g tt tk tv (own.map (·.2))) (gName i)) := by
  constructor
  intro pins s σ H D I h
  rw [exec_Assign_Name_used _ _ _ _ hsw]
  refine wpAny_bind (wpAny_standAt (wpAny_bind ?_))
  show wpAny _ X.A (do let _ ← comprehension (.DictComp kx vx [⟨tg, it, ifs, 0⟩] scope pos) scope X.env (firstIterPos [⟨tg, it, ifs, 0⟩] pos) newDict false (eval it X.env) (some (assign (.Name y py) X.env))) _ _ s
  have h' : tDcT wi g tt tk tv (own.map (·.2)) σ H (fun x H1 => gName i x σ H1 D.nx) := h
  refine wpAny_bind (thn (dcT_core (Qf := fun _ s' => SP X pins D .next s') hu hc hN I hi ok hg ht hk hv hs h' ?_) fun _ s' hq => wpAny_pure (wpAny_pure hq))
  intro L C s' m H' I' q hn f
  show wpAny _ _ (assign (.Name y py) X.env (.ref L)) _ _ _
  refine wpAny_assign_Name (store_ok2 (v := V.ref L) I' hN hy (.inl hyl) rfl ?_ (.inr hyl))
  rintro s2 I2 ⟨a, sb, ha⟩
  obtain ⟨f0, f1, f2, f3, f4, f5⟩ := f
  have ne : C ≠ a := by
    rcases ha with z | z
    · rw [z]; exact f1
    · exact fun e => f4 y a z e.symm
  exact ⟨m, hn.sameBut sb ne, fun h3 sb3 => ⟨_, H', I2.turned (t' := s2.toks) (fun b o hb e => (sb3.2 b hb).trans e) f0 f1 f3 f4 f5, q⟩⟩
theorem pe_dcT {kx vx tg it : Expr} {ifs : List Expr} {scope : Scope} {own : List (Str × Nat)} {pos : Pos} {wi : TI} {g : TG} {tt : TT} {tk tv : TE} (hu : X.A.units + 1 < cLine) (hc : X.calm = true) (hN : X.N.Nodup) (hi : PI X tg it wi) (ok : BlkOk X.N X.env.scope scope own) (hg : ∀ (s : Shared) (H : Hp) (C : Addr) (cl : List (Str × Addr)) (fp : List Addr), PG (X.blk s H scope (compEnvC scope cl C X.env) fp) tg g) (ht : ∀ (s : Shared) (H : Hp) (C : Addr) (cl : List (Str × Addr)) (fp : List Addr), PTs (X.blk s H scope (compEnvC scope cl C X.env) fp) ifs tt) (hk : ∀ (s : Shared) (H : Hp) (C : Addr) (cl : List (Str × Addr)) (fp : List Addr), PE (X.blk s H scope (compEnvC scope cl C X.env) fp) kx tk) (hv : ∀ (s : Shared) (H : Hp) (C : Addr) (cl : List (Str × Addr)) (fp : List Addr), PE (X.blk s H scope (compEnvC scope cl C X.env) fp) vx tv) (hs : ∀ x, foldedSetIterable it X.env x = pure x := by intro _; rfl) :
    PE X (.DictComp kx vx [⟨tg, it, ifs, 0⟩] scope pos) (tDcT wi g tt tk tv (own.map (·.2))) := by
  constructor
  intro pins s σ H Q I h
  rw [arm_eval_DictComp]
  refine dcT_core hu hc hN I hi ok hg ht hk hv hs h ?_
  intro D C s' m H' I' q hn f
  refine ⟨m, hn, fun h3 sb => ?_⟩
  obtain ⟨f0, f1, f2, f3, f4, f5⟩ := f
  exact ⟨.ref D, H', I'.turned (t' := s'.toks) (fun b o hb e => (sb.2 b hb).trans e) f0 f1 f3 f4 f5, rfl, q⟩
/-- over a tuple that stays -/
theorem dcT_tup {K : PySem.W.Frag} {a : Addr} {xs : List V} {g : TG} {tt : TT} {tk tv : TE} {vs : List Nat} {σ : L2.St} {H1 : Hp} {D : Addr} {Qd : Hp → Prop} (Pv : Nat → Hp → Prop) (h0 : Pv 0 (upd H1 D (.dT [])))
    (hl : ∀ i H, i ≤ xs.length → Pv i H → SqT K H a xs)
    (hs : ∀ i x H, xs[i]? = some x → Pv i H → g x (wipe σ vs) H fun σ2 H2 => wipe σ2 vs = wipe σ vs ∧ tt σ2 H2 fun b H3 =>
      if b = true then tk σ2 H3 fun y H4 => tv σ2 H4 fun z H5 => ∃ kvs k b, y = .ref b ∧ H5 b = some (.tup (k.map kV)) ∧ H5 D = some (.dT kvs) ∧ kvs.length < sizeLine ∧ Pv (i + 1) (upd H5 D (.dT (putK kvs k z))) else Pv (i + 1) H3)
    (hd : ∀ H, Pv xs.length H → Qd H) :
    ∃ W : Nat → Nat → Hp → Prop, (∃ m, W 0 m (upd H1 D (.dT []))) ∧ ∀ i m H, W i m H → ((Itt K a).stop i H ∧ Qd H) ∨
      ((Itt K a).go i H ∧ ∃ Nx : Hp → Prop, (∀ H', Nx H' → ∃ m', m' < m ∧ W (i + 1) m' H') ∧ ∀ x H', (Itt K a).yld i H x H' → g x (wipe σ vs) H' fun σ2 H2 => wipe σ2 vs = wipe σ vs ∧ tt σ2 H2 fun b H3 =>
        if b = true then tk σ2 H3 fun y H4 => tv σ2 H4 fun z H5 => ∃ kvs k b, y = .ref b ∧ H5 b = some (.tup (k.map kV)) ∧ H5 D = some (.dT kvs) ∧ kvs.length < sizeLine ∧ Nx (upd H5 D (.dT (putK kvs k z))) else Nx H3) := by
  refine ⟨fun i m H => m + i = xs.length ∧ Pv i H, ⟨xs.length, by simp, h0⟩, fun i m H ⟨em, hP⟩ => ?_⟩
  have sq := hl i H (by omega) hP
  by_cases c : i < xs.length
  · refine .inr ⟨⟨xs, xs[i], sq, List.getElem?_eq_getElem c⟩, Pv (i + 1), fun H' z => ⟨m - 1, by omega, by omega, z⟩, ?_⟩
    rintro x H' ⟨rfl, hx⟩
    exact hs i x _ (hx xs sq) hP
  · have e : i = xs.length := by omega
    exact .inl ⟨⟨xs, sq, by omega⟩, hd H (e ▸ hP)⟩
theorem k_dcT {wi : TI} {g : TG} {tt : TT} {tk tv : TE} {vs : List Nat} {σ : L2.St} {H : Hp} {Q : VK} (h : wi σ H fun J H1 => ∀ D, H1 D = none → ∃ W : Nat → Nat → Hp → Prop, (∃ m, W 0 m (upd H1 D (.dT []))) ∧ ∀ i m H, W i m H →
  (J.stop i H ∧ Q (.ref D) H) ∨ (J.go i H ∧ ∃ Nx : Hp → Prop, (∀ H', Nx H' → ∃ m', m' < m ∧ W (i + 1) m' H') ∧ ∀ x H', J.yld i H x H' → g x (wipe σ vs) H' fun σ2 H2 => wipe σ2 vs = wipe σ vs ∧ tt σ2 H2 fun b H3 =>
    if b = true then tk σ2 H3 fun y H4 => tv σ2 H4 fun z H5 => ∃ kvs k b, y = .ref b ∧ H5 b = some (.tup (k.map kV)) ∧ H5 D = some (.dT kvs) ∧ kvs.length < sizeLine ∧ Nx (upd H5 D (.dT (putK kvs k z))) else Nx H3)) : tDcT wi g tt tk tv vs σ H Q := h
end
/-! ### where a row leads -/
def mkey (b c : Nat) : List Key := [.inl (b : Int), .inr ⟨#[c]⟩]
theorem mkey_inj {b c b' c' : Nat} : mkey b c = mkey b' c' ↔ b = b' ∧ c = c' := by
  constructor
  · intro h
    unfold mkey at h
    injection h with h1 h2
    injection h2 with h2 _
    injection h1 with h1
    injection h2 with h2
    injection h2 with h2
    exact ⟨by omega, by simpa using h2⟩
  · rintro ⟨rfl, rfl⟩
    rfl
def MvOk (K : PySem.W.Frag) (H : Hp) (kvs : List (List Key × V)) (ss : List Stp) : Prop := ∀ b c : Nat, ((∀ s ∈ ss, ¬ (s.b = b ∧ s.c = c)) → valV kvs (mkey b c) = none) ∧
  ∀ s ∈ ss, s.b = b → s.c = c → ∃ p, valV kvs (mkey b c) = some (.ref p) ∧ SqT K H p [.int (s.e : Nat), .int s.g]
theorem MvOk.tups {K : PySem.W.Frag} {H H' : Hp} {kvs : List (List Key × V)} {ss : List Stp} (h : MvOk K H kvs ss) (t : Tups H H') : MvOk K H' kvs ss := fun b c => ⟨(h b c).1, fun s hs e1 e2 => let ⟨p, q, z⟩ := (h b c).2 s hs e1 e2; ⟨p, q, t.sq z⟩⟩
theorem Tups.dT {p : Addr} {H : Hp} {kvs : List (List Key × V)} {o : HO} (h : H p = some (.dT kvs)) : Tups H (upd H p o) :=
  ⟨fun b xs e => by rw [upd_ne (fun z => by rw [z, h] at e; cases e)]; exact e, fun b _ xs e => by rw [upd_ne (fun z => by rw [z, h] at e; cases e)]; exact e⟩
theorem MvOk.snoc {K : PySem.W.Frag} {H : Hp} {kvs : List (List Key × V)} {ss : List Stp} {s : Stp} {p : Addr} (h : MvOk K H kvs ss) (hp : SqT K H p [.int (s.e : Nat), .int s.g]) (new : ∀ t ∈ ss, ¬ (t.b = s.b ∧ t.c = s.c)) : MvOk K H (putK kvs (mkey s.b s.c) (.ref p)) (ss ++ [s]) := by
  intro b c
  rw [valV_put]
  by_cases e : mkey b c = mkey s.b s.c
  · rw [if_pos e]
    obtain ⟨rfl, rfl⟩ := mkey_inj.mp e
    refine ⟨fun q => absurd ⟨rfl, rfl⟩ (q s (by simp)), fun t ht e1 e2 => ?_⟩
    rcases List.mem_append.mp ht with ht | ht
    · exact absurd ⟨e1, e2⟩ (new t ht)
    · rw [List.mem_singleton.mp ht]
      exact ⟨p, rfl, hp⟩
  · rw [if_neg e]
    refine ⟨fun q => (h b c).1 fun t ht => q t (List.mem_append_left _ ht), fun t ht e1 e2 => ?_⟩
    rcases List.mem_append.mp ht with ht | ht
    · exact (h b c).2 t ht e1 e2
    · rw [List.mem_singleton.mp ht] at e1 e2
      exact absurd (mkey_inj.mpr ⟨e1.symm, e2.symm⟩) e
/-- what is known of a value that is no text -/
def NotStr (K : PySem.W.Frag) (H : Hp) (v : V) : Prop := ∃ t, TyX K H v t ∧ PySem.W.kitOne K t (.type "str") = some false
def sp_moves (K : PySem.W.Frag) (C : Addr) : Sp := fun vs H Q _ => ∃ (x : Addr) (m : MD), vs = [.ref x] ∧ MAt K C H x m ∧ m.Ok ∧
  ∀ p kvs H', Same H H' → H p = none → H' p = some (.dT kvs) → MvOk K H' kvs m.ss → Q (.ref p) H'
def intsV (xs : List Int) : List V := xs.map V.int
/-- the sums of all beginnings -/
def SumsOf (m : MD) (b : Nat) (w : Wd) (xs : List Int) : Prop := xs.length = w.length + 1 ∧ ∀ j, j ≤ w.length → ∃ s t, runW m (b, 0) (w.take j) = some (s, t) ∧ xs[j]? = some t
theorem SumsOf.last {m : MD} {b : Nat} {w : Wd} {xs : List Int} {n : Nat} {t : Int} (h : SumsOf m b w xs) (e : runW m (b, 0) w = some (n, t)) : atI (intsV xs) (-1) = some (.int t) := by
  obtain ⟨s, t', e1, e2⟩ := h.2 w.length (Nat.le_refl _)
  rw [List.take_length, e] at e1
  cases e1
  have hl : (intsV xs).length = w.length + 1 := by unfold intsV; rw [List.length_map, h.1]
  unfold atI
  have : ixN (intsV xs).length (-1) = some w.length := by
    rw [hl]
    unfold ixN
    simp
    omega
  rw [this]
  show (intsV xs)[w.length]? = _
  unfold intsV
  rw [List.getElem?_map, e2]
  rfl
theorem SumsOf.snoc {m : MD} {b : Nat} {w : Wd} {c : Nat} {xs : List Int} {n : Nat} {t : Int} (h : SumsOf m b w xs) (e : runW m (b, 0) (w ++ [c]) = some (n, t)) : SumsOf m b (w ++ [c]) (xs ++ [t]) := by
  refine ⟨by rw [List.length_append, List.length_append, h.1]; rfl, fun j hj => ?_⟩
  rw [List.length_append, List.length_singleton] at hj
  by_cases cj : j ≤ w.length
  · obtain ⟨s, t', e1, e2⟩ := h.2 j cj
    refine ⟨s, t', ?_, ?_⟩
    · rw [List.take_append_of_le_length cj]; exact e1
    · rw [List.getElem?_append_left (by rw [h.1]; omega)]; exact e2
  · have ej : j = w.length + 1 := by omega
    refine ⟨n, t, ?_, ?_⟩
    · rw [List.take_of_length_le (by rw [List.length_append, List.length_singleton]; omega)]; exact e
    · rw [ej, ← h.1, List.getElem?_append_right (Nat.le_refl _), Nat.sub_self]
      rfl
def sp_way (K : PySem.W.Frag) (C : Addr) : Sp := fun vs H Q _ => ∃ (x : Addr) (b : Nat) (v : V) (m : MD), vs = [.ref x, .int (b : Nat), v] ∧ MAt K C H x m ∧ m.Ok ∧
  ((NotStr K H v ∧ Q .non H) ∨ ∃ z : Str, v = .str z ∧ z.cps.size ≤ 1000 ∧ (runW m (b, 0) z.cps.toList = none → ∀ H', Same H H' → Q .non H') ∧
    ∀ n t, runW m (b, 0) z.cps.toList = some (n, t) → ∀ p q xs H', Same H H' → H p = none → H' p = some (.tup [.int (n : Nat), .ref q]) → H' q = some (.lst (intsV xs)) → SumsOf m b z.cps.toList xs → Q (.ref p) H')
section
variable {P : Program} {w : World} {K : PySem.W.Frag} {mg : Str → Option Value} {base : Heap}
theorem ok_moves_of (T : Txt K mg) : FnOk P w K mg base (L2.CX P w) 3 T.a_moves_of T.fd_moves_of ["machine"] (sp_moves K T.c_Machine) := by
  refine T.F_moves_of.okX sc_moves_of (fun vs H Q E h => ?_) (fun cdv A outer s H vs Q E hr h => ?_)
  · obtain ⟨x, m, rfl, _⟩ := h
    rfl
  · obtain ⟨x, m, rfl, ⟨dx, t, u, hx, ⟨us, ht, hs⟩, hu⟩, o, k⟩ := h
    refine ⟨_, (PSs.nox (pss_one (ps_ret (pe_dcT (own := [("begun", 1), ("letter", 2), ("end", 3), ("gain", 4)]) (g := (gTup K 4 (gCons (gName 1) (gCons (gName 2) (gCons (gName 3) (gCons (gName 4) gNil)))))) (tt := tYes) (hu_of hr) rfl sc_moves_of.nd (pi_tup (pe_prop (pv 0) T.cl_Machine T.p_steps (ok_Machine_steps T) (hr.mono (by decide)) T.b_Machine_steps .nil passL rfl)) (blkOk_by (own := [("begun", 1), ("letter", 2), ("end", 3), ("gain", 4)]) (N := ["machine", "begun", "letter", "end", "gain"]) (sc := defScope s_moves_of) (by decide +kernel)) (fun _ _ _ _ _ => (pg_tup rfl (pgs_cons (pg_name (i := 1) sc_moves_of.nd rfl (Or.inl rfl)) (pgs_cons (pg_name (i := 2) sc_moves_of.nd rfl (Or.inl rfl)) (pgs_cons (pg_name (i := 3) sc_moves_of.nd rfl (Or.inl rfl)) (pgs_cons (pg_name (i := 4) sc_moves_of.nd rfl (Or.inl rfl)) pgs_nil)))))) (fun _ _ _ _ _ => pts_nil) (fun _ _ _ _ _ => (pe_tup (pa_cons (pv 1) (pa_cons (pv 2) pa_nil)))) (fun _ _ _ _ _ => (pe_tup (pa_cons (pv 3) (pa_cons (pv 4) pa_nil)))))))), ?_⟩
    walk_at "begin"
    refine k_ret ?_
    refine k_dcT ?_
    walk_at "go"
    refine ⟨x, dx, _, rfl, hx, x, dx, _, .ref t, rfl, hx, rfl, t, rfl, ⟨us, ht⟩, fun D hD => ?_⟩
    refine dcT_tup (xs := us) (fun i H' => Same H H' ∧ ∃ kvs, H' D = some (.dT kvs) ∧ MvOk K H' kvs (m.ss.take i) ∧ kvs.length ≤ i) ⟨Same.new hD, [], upd_same, fun b c => ⟨fun _ => rfl, fun s hs => by simp at hs⟩, Nat.le_refl _⟩
      (fun i H' _ ⟨z, _⟩ => (same_tups z).sq ht) ?_ ?_
    · rintro i y H1 hy ⟨z1, kvs, eD, mv, len⟩
      have il : i < m.ss.length := by rw [← hs.1]; exact (List.getElem?_eq_some_iff.mp hy).1
      have ei : m.ss[i]? = some (m.ss[i]'il) := List.getElem?_eq_getElem il
      obtain ⟨q, eq, hq⟩ := hs.2 i _ ei
      rw [hy] at eq
      cases eq
      have new : ∀ s ∈ m.ss.take i, ¬ (s.b = (m.ss[i]'il).b ∧ s.c = (m.ss[i]'il).c) := fun s h e => by
        obtain ⟨j, hj, ej⟩ := List.getElem_of_mem h
        rw [List.length_take] at hj
        rw [List.getElem_take] at ej
        have := List.pairwise_iff_getElem.mp o.up j i (by omega) il (by omega)
        rw [ej] at this
        rcases this with q | q <;> omega
      have tk : m.ss.take (i + 1) = m.ss.take i ++ [m.ss[i]'il] := by rw [List.take_add_one, ei]; rfl
      have l32 := o.len
      rw [tk]
      generalize m.ss[i]'il = s0 at hq new
      refine k_gt ((same_tups z1).sq hq) rfl ?_
      unfold stpV
      walk_at "go"
      refine ⟨rfl, ?_⟩
      walk_at "go"
      refine iteT ?_
      walk_at "go"
      refine ⟨(by decide : 2 ≤ sizeLine), fun pk hpk => ?_⟩
      walk_at "go"
      refine ⟨(by decide : 2 ≤ sizeLine), fun pv hpv => ?_⟩
      have zk := z1.trans (Same.new (o := .tup [.int (s0.b : Nat), .str ⟨#[s0.c]⟩]) hpk)
      have zv := zk.trans (Same.new (o := .tup [.int (s0.e : Nat), .int s0.g]) hpv)
      have npk : D ≠ pk := ne_of_none eD hpk
      have eDk : (upd H1 pk (.tup [.int (s0.b : Nat), .str ⟨#[s0.c]⟩])) D = some (.dT kvs) := by rw [upd_ne npk]; exact eD
      have npv : D ≠ pv := ne_of_none eDk hpv
      have eDv : (upd (upd H1 pk (.tup [.int (s0.b : Nat), .str ⟨#[s0.c]⟩])) pv (.tup [.int (s0.e : Nat), .int s0.g])) D = some (.dT kvs) := by rw [upd_ne npv]; exact eDk
      refine ⟨kvs, mkey s0.b s0.c, pk, rfl, Same.new hpv _ _ upd_same, eDv, Nat.lt_of_le_of_lt len (Nat.lt_trans (show i < 100 by omega) (by decide)), Same.mut zv hD, _, upd_same, ?_, ?_⟩
      · exact ((mv.tups ((Tups.new hpk).trans (Tups.new hpv))).snoc (SqT.of upd_same) new).tups (Tups.dT eDv)
      · have := length_putK kvs (mkey s0.b s0.c) (V.ref pv)
        omega
    · rintro H1 ⟨z1, kvs, eD, mv, len⟩
      rw [hs.1, List.take_length] at mv
      exact k D kvs H1 z1 hD eD mv
theorem ok_way (T : Txt K mg) : FnOk P w K mg base (L2.CX P w) 5 T.a_way T.fd_way ["machine", "stand", "value"] (sp_way K T.c_Machine) := by
  refine T.F_way.okX sc_way (fun vs H Q E h => ?_) (fun cdv A outer s H vs Q E hr h => ?_)
  · obtain ⟨x, b, v, m, rfl, _⟩ := h
    rfl
  · obtain ⟨x, b, v, m, rfl, hm, o, k⟩ := h
    refine ⟨_, (PSs.nox (pss_cons (ps_if (pt_not (pt_val (pe_callB call_isi (by rfl) T.z_isinstance (by decide +kernel) (pa_cons (pv 2) (pa_cons (pe_bltn (v := .ty "str") (by rfl) T.z_str (by decide +kernel) rfl) pa_nil)))))
  (pss_one (ps_ret pe_non))
  pss_nil)
  (pss_cons (ps_set (i := 3) sc_way.nd rfl (Or.inl rfl) (pe_call (ok_moves_of T) (hr.mono (by decide)) (by rfl) T.m_moves_of T.k_moves_of T.b_moves_of .nil passL (pa_cons (pv 0) pa_nil)))
  (pss_cons (ps_set (i := 4) sc_way.nd rfl (Or.inl rfl) (pe_lst (pa_cons pe_int pa_nil)))
  (pss_cons (ps_for PassesOwn.never rfl (pi_str (pv 2)) (pg_name (i := 5) sc_way.nd rfl (Or.inl rfl))
  (pss_cons (ps_if (pt_cmp (pc_dnotin (hu_of hr) (pe_tup (pa_cons (pv 1) (pa_cons (pv 5) pa_nil))) (pv 3)) (by rfl))
  (pss_one (ps_ret pe_non))
  pss_nil)
  (pss_cons (ps_asg (pe_dget (hu_of hr) (pv 3) (pe_tup (pa_cons (pv 1) (pa_cons (pv 5) pa_nil))) (fun _ _ => rfl)) (pg_tup rfl (pgs_cons (pg_name (i := 1) sc_way.nd rfl (Or.inl rfl)) (pgs_cons (pg_name (i := 6) sc_way.nd rfl (Or.inl rfl)) pgs_nil))))
  (pss_one (ps_expr (pe_bm PySem.F.plainAttrs_list PySem.F.slot_list_append PySem.F.type_list_append mt_append (pv 4) (pa_cons (pe_op op_add (pe_ix ix_list (pv 4) (pe_un un_neg pe_int) (fun _ _ => rfl)) (pv 6)) pa_nil)))))))
  (pss_one (ps_ret (pe_tup (pa_cons (pv 1) (pa_cons (pv 4) pa_nil)))))))))), ?_⟩
    walk_at "begin"
    walk_at "go"
    rcases k with ⟨⟨tv, h1, h2⟩, k⟩ | ⟨z, rfl, z1000, k0, k1⟩
    · refine k_isi (.ty _) h1 h2 ?_
      walk_at "go"
      refine iteT ?_
      walk_at "go"
      exact k
    · refine k_isi (.ty _) (.base (.str z)) (kit_ty (b := "str") (r := true) (by decide +kernel)) ?_
      walk_at "go"
      refine iteF ?_
      walk_at "go"
      refine ⟨x, m, rfl, hm, o, fun D kvs H0 z0 hD eD0 mv0 => ?_⟩
      walk_at "go"
      refine ⟨(by show 1 ≤ sizeLine; decide), fun B hB => ?_⟩
      walk_at "go"
      have nDB : D ≠ B := ne_of_none eD0 hB
      have hB0 : H B = none := by
        cases e : H B with
        | none => rfl
        | some ob => rw [z0 _ _ e] at hB; cases hB
      obtain ⟨l, hl⟩ : ∃ l, l = z.cps.toList := ⟨_, rfl⟩
      rw [← hl] at k0 k1
      have zs : z.cps.size = l.length := by rw [hl]; simp
      refine ⟨z, rfl, for_it walk_str (fun j σ H' => ∃ (st : Nat) (tl : Int) (xs : List Int) (a5 a6 : Option V), Same H H' ∧ H' D = some (.dT kvs) ∧ MvOk K H' kvs m.ss ∧ H' B = some (.lst (intsV xs)) ∧ runW m (b, 0) (l.take j) = some (st, tl) ∧ SumsOf m b (l.take j) xs ∧
        σ = [some (.ref x), some (.int (st : Nat)), some (.str z), some (.ref D), some (.ref B), a5, a6])
        ⟨b, 0, [0], none, none, z0.trans (Same.new hB), by rw [upd_ne nDB]; exact eD0, mv0.tups (Tups.new hB), upd_same, rfl, ⟨rfl, fun j hj => ⟨b, 0, by simp at hj; rw [hj]; rfl, by simp at hj; rw [hj]; rfl⟩⟩, rfl⟩ (fun _ _ _ _ _ => trivial) ?_ ?_⟩
      · rintro j y σ H2' H2 hj ⟨st, tl, xs, a5, a6, z2, eD2, mv2, eB2, hrun, sm, rfl⟩ ⟨rfl, c, hc, rfl⟩
        have hc' : l[j]? = some c := by rw [hl]; simpa using hc
        have jl : j < l.length := (List.getElem?_eq_some_iff.mp hc').1
        have tk : l.take (j + 1) = l.take j ++ [c] := by rw [List.take_add_one, hc']; rfl
        have dec : l = (l.take j ++ [c]) ++ l.drop (j + 1) := by rw [← tk, List.take_append_drop]
        walk_at "go"
        refine ⟨(by decide : 2 ≤ sizeLine), fun p1 n1 => ?_⟩
        have eD3 : (upd H2 p1 (.tup [.int (st : Nat), .str ⟨#[c]⟩])) D = some (.dT kvs) := by rw [upd_ne (ne_of_none eD2 n1)]; exact eD2
        have mv3 := mv2.tups (Tups.new (o := .tup [.int (st : Nat), .str ⟨#[c]⟩]) n1)
        have z3 := z2.trans (Same.new (o := .tup [.int (st : Nat), .str ⟨#[c]⟩]) n1)
        have eB3 : (upd H2 p1 (.tup [.int (st : Nat), .str ⟨#[c]⟩])) B = some (.lst (intsV xs)) := by rw [upd_ne (ne_of_none eB2 n1)]; exact eB2
        have dg : DGet (upd H2 p1 (.tup [.int (st : Nat), .str ⟨#[c]⟩])) D (.ref p1) (valV kvs (mkey st c)) := DGet.t (k := mkey st c) eD3 upd_same
        walk_at "go"
        refine ⟨D, _, rfl, dg, ?_⟩
        walk_at "go"
        cases es : stepOf m st c with
        | none =>
          have nn : ∀ s ∈ m.ss, ¬ (s.b = st ∧ s.c = c) := fun s h e => by
            have := List.find?_eq_none.mp es s h
            rw [e.1, e.2] at this
            simp at this
          rw [(mv3 st c).1 nn]
          refine iteT ?_
          walk_at "go"
          refine k0 ?_ _ z3
          rw [dec]
          have rs : runW m (b, 0) (l.take j ++ [c]) = none := by
            rw [runW_snoc, hrun]
            show (stepOf m st c).map _ = none
            rw [es]
            rfl
          rw [runW_append, rs]
          rfl
        | some s0 =>
          obtain ⟨hs0, hb, hcc⟩ := stepOf_mem es
          obtain ⟨p0, ep0, sp0⟩ := (mv3 st c).2 s0 hs0 hb hcc
          rw [ep0]
          refine iteF ?_
          walk_at "go"
          refine ⟨(by decide : 2 ≤ sizeLine), fun p2 n2 => ?_⟩
          have eD4 : (upd (upd H2 p1 (.tup [.int (st : Nat), .str ⟨#[c]⟩])) p2 (.tup [.int (st : Nat), .str ⟨#[c]⟩])) D = some (.dT kvs) := by rw [upd_ne (ne_of_none eD3 n2)]; exact eD3
          have eB4 : (upd (upd H2 p1 (.tup [.int (st : Nat), .str ⟨#[c]⟩])) p2 (.tup [.int (st : Nat), .str ⟨#[c]⟩])) B = some (.lst (intsV xs)) := by rw [upd_ne (ne_of_none eB3 n2)]; exact eB3
          have dg2 : DGet (upd (upd H2 p1 (.tup [.int (st : Nat), .str ⟨#[c]⟩])) p2 (.tup [.int (st : Nat), .str ⟨#[c]⟩])) D (.ref p2) (valV kvs (mkey st c)) := DGet.t (k := mkey st c) eD4 upd_same
          rw [ep0] at dg2
          have t4 := Tups.new (o := .tup [.int (st : Nat), .str ⟨#[c]⟩]) n2
          have z4 := z3.trans (Same.new (o := .tup [.int (st : Nat), .str ⟨#[c]⟩]) n2)
          refine ⟨D, _, rfl, dg2, ?_⟩
          refine k_gt (t4.sq sp0) rfl ?_
          have r1 : runW m (b, 0) (l.take j ++ [c]) = some (s0.e, tl + s0.g) := by
            rw [runW_snoc, hrun]
            show (stepOf m st c).map _ = _
            rw [es]
            rfl
          walk_at "go"
          refine ⟨.inl ⟨rfl, _, SqL.of eB4⟩, ?_⟩
          walk_at "go"
          refine k_ixL (SqL.of eB4) (sm.last hrun) ?_
          walk_at "go"
          refine k_append eB4 ?_ ?_
          · have : (intsV xs).length < 2000 := by unfold intsV; rw [List.length_map, sm.1, List.length_take]; omega
            exact Nat.lt_trans this (by decide)
          · have ei : intsV xs ++ [V.int (tl + s0.g)] = intsV (xs ++ [tl + s0.g]) := by unfold intsV; rw [List.map_append]; rfl
            rw [ei]
            refine ⟨s0.e, tl + s0.g, xs ++ [tl + s0.g], _, _, Same.mut z4 hB0, by rw [upd_ne nDB]; exact eD4, (mv3.tups t4).tups (Tups.lst eB4), upd_same, ?_, ?_, rfl⟩
            · rw [tk]; exact r1
            · rw [tk]; exact sm.snoc r1
      · rintro σ H2 ⟨st, tl, xs, a5, a6, z2, eD2, mv2, eB2, hrun, sm, rfl⟩
        rw [zs, List.take_length] at hrun sm
        walk_at "go"
        refine ⟨(by decide : 2 ≤ sizeLine), fun p hp => ?_⟩
        have hp0 : H p = none := by
          cases e : H p with
          | none => rfl
          | some ob => rw [z2 _ _ e] at hp; cases hp
        exact k1 _ _ hrun p B xs _ (z2.trans (Same.new hp)) hp0 upd_same (by rw [upd_ne (ne_of_none eB2 hp)]; exact eB2) sm
end
/-! ### whether a value bars -/
def StrOr (K : PySem.W.Frag) (H : Hp) (v : V) : Prop := (∃ z : Str, v = .str z ∧ z.cps.size ≤ 1000) ∨ ((∀ H', Same H H' → NotStr K H' v) ∧ ∀ z, v ≠ .str z)
theorem StrOr.same {K : PySem.W.Frag} {H H' : Hp} {v : V} (h : StrOr K H v) (z : Same H H') : StrOr K H' v := by
  rcases h with h | ⟨h, n⟩
  · exact .inl h
  · exact .inr ⟨fun H2 z2 => h H2 (z.trans z2), n⟩
def gainS (m : MD) (a b : Str) : V := match run m a.cps.toList with
  | none => .non
  | some q => match runW m (q.1, 0) b.cps.toList with
    | none => .non
    | some r => if r.1 = q.1 ∧ b ≠ "" then .int r.2 else .non
def gainV (m : MD) : V → V → V
  | .str a, .str b => gainS m a b
  | _, _ => .non
def rowS (m : MD) (lo hi : Int) (z : Str) : Bool := match run m z.cps.toList with
  | none => false
  | some q => !decide (lo ≤ q.2 ∧ q.2 ≤ hi)
def rowB (m : MD) (lo hi : Int) : V → Bool
  | .str z => rowS m lo hi z
  | _ => false
def ringB (m : MD) (v u : V) : Bool := match gainV m v u with
  | .int g => !decide (g = 0)
  | _ => false
def barB (m : MD) (lo hi : Int) : List V → Bool
  | [a, v] => decide (a = .str "row") && rowB m lo hi v
  | [a, v, u] => decide (a = .str "ring") && ringB m v u
  | _ => false
theorem gain_none {m : MD} {v u : V} (h : ∀ z, v ≠ .str z) : gainV m v u = .non := by
  unfold gainV
  split
  · exact absurd rfl (h _)
  · rfl
theorem gain_none2 {m : MD} {v u : V} (h : ∀ z, u ≠ .str z) : gainV m v u = .non := by
  unfold gainV
  split
  · exact absurd rfl (h _)
  · rfl
theorem gain_row {m : MD} {z : Str} {u : V} (h : run m z.cps.toList = none) : gainV m (.str z) u = .non := by
  cases u with
  | str y =>
    show gainS m z y = .non
    unfold gainS
    rw [h]
  | _ => rfl
theorem gain_two0 {m : MD} {z y : Str} {s : Nat} {t : Int} (h : run m z.cps.toList = some (s, t)) (h2 : runW m (s, 0) y.cps.toList = none) : gainV m (.str z) (.str y) = .non := by
  show gainS m z y = .non
  unfold gainS
  rw [h]
  dsimp only
  rw [h2]
theorem gain_two {m : MD} {z y : Str} {s e : Nat} {t g : Int} (h : run m z.cps.toList = some (s, t)) (h2 : runW m (s, 0) y.cps.toList = some (e, g)) : gainV m (.str z) (.str y) = if e = s ∧ y ≠ "" then .int g else .non := by
  show gainS m z y = _
  unfold gainS
  rw [h]
  dsimp only
  rw [h2]
theorem row_none {m : MD} {lo hi : Int} {z : Str} (h : run m z.cps.toList = none) : rowB m lo hi (.str z) = false := by
  show rowS m lo hi z = false
  unfold rowS
  rw [h]
theorem row_some {m : MD} {lo hi : Int} {z : Str} {s : Nat} {t : Int} (h : run m z.cps.toList = some (s, t)) : rowB m lo hi (.str z) = !decide (lo ≤ t ∧ t ≤ hi) := by
  show rowS m lo hi z = _
  unfold rowS
  rw [h]
def sp_gain (K : PySem.W.Frag) (C : Addr) : Sp := fun vs H Q _ => ∃ (x : Addr) (v u : V) (m : MD), vs = [.ref x, v, u] ∧ MAt K C H x m ∧ m.Ok ∧ StrOr K H v ∧ StrOr K H u ∧ ∀ H', Same H H' → Q (gainV m v u) H'
def sp_brow (K : PySem.W.Frag) (C : Addr) : Sp := fun vs H Q _ => ∃ (x : Addr) (lo hi : Int) (v : V) (m : MD), vs = [.ref x, .int lo, .int hi, v] ∧ MAt K C H x m ∧ m.Ok ∧ StrOr K H v ∧ ∀ H', Same H H' → Q (.bl (rowB m lo hi v)) H'
def sp_bring (K : PySem.W.Frag) (C : Addr) : Sp := fun vs H Q _ => ∃ (x : Addr) (v u : V) (m : MD), vs = [.ref x, v, u] ∧ MAt K C H x m ∧ m.Ok ∧ StrOr K H v ∧ StrOr K H u ∧ ∀ H', Same H H' → Q (.bl (ringB m v u)) H'
def BarArgs (K : PySem.W.Frag) (H : Hp) (xs : List V) : Prop := (∀ a v, xs = [a, v] → (∃ z, a = .str z) ∧ StrOr K H v) ∧ ∀ a v u, xs = [a, v, u] → (∃ z, a = .str z) ∧ StrOr K H v ∧ StrOr K H u
def sp_rbar (K : PySem.W.Frag) (C : Addr) : Sp := fun vs H Q _ => ∃ (x : Addr) (lo hi : Int) (v : V) (m : MD), vs = [.ref x, .int lo, .int hi, v] ∧ MAt K C H x m ∧ m.Ok ∧ -(10 ^ 40) ≤ lo ∧ lo ≤ hi ∧ hi ≤ 10 ^ 40 ∧
  (((∃ t, TyX K H v t ∧ PySem.W.kitOne K t (.type "tuple") = some false) ∧ Q (.bl false) H) ∨ ∃ p xs, v = .ref p ∧ SqT K H p xs ∧ BarArgs K H xs ∧ ∀ H', Same H H' → Q (.bl (barB m lo hi xs)) H')
section
variable {P : Program} {w : World} {K : PySem.W.Frag} {mg : Str → Option Value} {base : Heap}
theorem ok_gain_of_loop (T : Txt K mg) : FnOk P w K mg base (L2.CX P w) 6 T.a_gain_of_loop T.fd_gain_of_loop ["machine", "lead", "loop"] (sp_gain K T.c_Machine) := by
  refine T.F_gain_of_loop.okX sc_gain_of_loop (fun vs H Q E h => ?_) (fun cdv A outer s H vs Q E hr h => ?_)
  · obtain ⟨x, v, u, m, rfl, _⟩ := h
    rfl
  · obtain ⟨x, v, u, m, rfl, hm, o, hv, hu, k⟩ := h
    refine ⟨_, (PSs.nox (pss_cons (ps_set (i := 3) sc_gain_of_loop.nd rfl (Or.inl rfl) (pe_call (ok_way T) (hr.mono (by decide)) (by rfl) T.m_way T.k_way T.b_way .nil passL (pa_cons (pv 0) (pa_cons pe_int (pa_cons (pv 1) pa_nil)))))
  (pss_cons (ps_if (pt_cmp (pc_isN (pv 3)))
  (pss_one (ps_ret pe_non))
  pss_nil)
  (pss_cons (ps_set (i := 4) sc_gain_of_loop.nd rfl (Or.inl rfl) (pe_call (ok_way T) (hr.mono (by decide)) (by rfl) T.m_way T.k_way T.b_way .nil passL (pa_cons (pv 0) (pa_cons (pe_ix ix_tup (pv 3) pe_int (fun _ _ => rfl)) (pa_cons (pv 2) pa_nil)))))
  (pss_cons (ps_if (PW.pt (pw_or (pt_cmp (pc_isN (pv 4))) (pw_or (pt_cmpR op_ne (pe_ix ix_tup (pv 4) pe_int (fun _ _ => rfl)) (pe_ix ix_tup (pv 3) pe_int (fun _ _ => rfl)) (nomark _)) (pw_or1 (pt_cmpR op_eq (pv 2) pe_str (nomark _))))))
  (pss_one (ps_ret pe_non))
  pss_nil)
  (pss_one (ps_ret (pe_ix ix_list (pe_ix ix_tup (pv 4) pe_int (fun _ _ => rfl)) (pe_un un_neg pe_int) (fun _ _ => rfl))))))))), ?_⟩
    walk_at "begin"
    walk_at "go"
    rcases hv with ⟨z, rfl, zk⟩ | ⟨hn, hz⟩
    · refine ⟨x, 0, _, m, rfl, hm, o, .inr ⟨z, rfl, zk, fun e H1 z1 => ?_, fun b t e p q xs H1 z1 hp ep eq sm => ?_⟩⟩
      · walk_at "go"
        refine k_yes (by rfl) ?_
        walk_at "go"
        have := k H1 z1
        rw [gain_row e] at this
        exact this
      · walk_at "go"
        refine k_no (by rfl) ?_
        walk_at "go"
        refine k_ixT (SqT.of ep) (v := .int (b : Nat)) rfl ?_
        walk_at "go"
        rcases hu.same z1 with ⟨y, rfl, yk⟩ | ⟨hn, hz⟩
        · refine ⟨x, b, _, m, rfl, hm.same z1, o, .inr ⟨y, rfl, yk, fun e2 H2 z2 => ?_, fun b2 g e2 p2 q2 xs2 H2 z2 hp2 ep2 eq2 sm2 => ?_⟩⟩
          · walk_at "go"
            refine k_yes (by rfl) ?_
            walk_at "go"
            have := k H2 (z1.trans z2)
            rw [gain_two0 e e2] at this
            exact this
          · have kk := k H2 (z1.trans z2)
            rw [gain_two e e2] at kk
            walk_at "go"
            refine k_no (by rfl) ?_
            walk_at "go"
            refine k_ixT (SqT.of ep2) (v := .int (b2 : Nat)) rfl ?_
            walk_at "go"
            refine k_ixT (SqT.of (z2 _ _ ep)) (v := .int (b : Nat)) rfl ?_
            walk_at "go"
            by_cases c1 : b2 = b
            · refine k_no (by rw [c1]; simp) ?_
              walk_at "go"
              refine k_ite (fun c2 => ?_) (fun c2 => ?_)
              · have c2' : y = "" := by injection c2
                rw [if_neg fun z => z.2 c2'] at kk
                walk_at "go"
                exact kk
              · have c2' : y ≠ "" := fun z => c2 (by rw [z])
                rw [if_pos ⟨c1, c2'⟩] at kk
                walk_at "go"
                refine k_ixT (SqT.of ep2) (v := .ref q2) rfl ?_
                walk_at "go"
                exact k_ixL (SqL.of eq2) (sm2.last e2) kk
            · refine k_yes (by simp; omega) ?_
              rw [if_neg fun z => c1 z.1] at kk
              walk_at "go"
              exact kk
        · refine ⟨x, b, _, m, rfl, hm.same z1, o, .inl ⟨hn _ (Same.refl _), ?_⟩⟩
          walk_at "go"
          refine k_yes (by rfl) ?_
          walk_at "go"
          have := k H1 z1
          rw [gain_none2 hz] at this
          exact this
    · refine ⟨x, 0, v, m, rfl, hm, o, .inl ⟨hn _ (Same.refl _), ?_⟩⟩
      walk_at "go"
      refine k_yes (by rfl) ?_
      walk_at "go"
      have := k H (Same.refl _)
      rw [gain_none hz] at this
      exact this
end
/-! ### a walk and the loops in it -/
def WalkOf (m : MD) (w : Wd) (L : List (Nat × Int)) : Prop := L.length = w.length + 1 ∧ ∀ i, i ≤ w.length → run m (w.take i) = L[i]?
theorem WalkOf.last {m : MD} {w : Wd} {L : List (Nat × Int)} (h : WalkOf m w L) : run m w = L[w.length]? := by
  have := h.2 w.length (Nat.le_refl _)
  rwa [List.take_length] at this
theorem WalkOf.snoc {m : MD} (o : m.Ok) {w : Wd} {L : List (Nat × Int)} (h : WalkOf m w L) {n : Nat} {t : Int} (hr : run m w = some (n, t)) {s : Stp} (hs : s ∈ m.ss) (sb : s.b = n) : WalkOf m (w ++ [s.c]) (L ++ [(s.e, t + s.g)]) := by
  refine ⟨by rw [List.length_append, List.length_append, h.1]; rfl, fun i hi => ?_⟩
  rw [List.length_append] at hi
  by_cases c : i ≤ w.length
  · rw [List.take_append_of_le_length c, h.2 i c, List.getElem?_append_left (by rw [h.1]; omega)]
  · have e : i = w.length + 1 := by
      have : [s.c].length = 1 := rfl
      omega
    subst e
    rw [List.take_of_length_le (by rw [List.length_append]; exact Nat.le_refl _), run_snoc.mpr ⟨n, t, s, hr, by rw [← sb]; exact stepOf_self o hs, rfl, rfl⟩, List.getElem?_append_right (by rw [h.1]; omega), h.1, Nat.sub_self]
    rfl
theorem WalkOf.loop {m : MD} {w : Wd} {L : List (Nat × Int)} (h : WalkOf m w L) {i j s : Nat} {t1 t2 : Int} (hij : i < j) (e1 : L[i]? = some (s, t1)) (e2 : L[j]? = some (s, t2)) : Reach m.ss [0] s ∧ ∃ v, v.length = j - i ∧ LoopAt m s v (t2 - t1) := by
  have jl : j < L.length := (List.getElem?_eq_some_iff.mp e2).1
  have jw : j ≤ w.length := by have := h.1; omega
  have r1 := h.2 i (by omega)
  have r2 := h.2 j jw
  rw [e1] at r1
  rw [e2] at r2
  refine ⟨run_reach _ _ _ _ rfl r1, (w.take j).drop i, by rw [List.length_drop, List.length_take]; omega, fun z => ?_, ?_⟩
  · have : ((w.take j).drop i).length = j - i := by rw [List.length_drop, List.length_take]; omega
    rw [z] at this
    simp at this
    omega
  · have s3 : run m (w.take i ++ (w.take j).drop i) = some (s, t2) := by
      have : w.take i = (w.take j).take i := by rw [List.take_take, Nat.min_eq_left (by omega)]
      rw [this, List.take_append_drop]
      exact r2
    unfold run at s3 r1
    rw [runW_append, r1] at s3
    have q := runW_shift m (-t1) _ _ _ _ _ s3
    rw [show t1 + -t1 = 0 by omega] at q
    exact q
theorem runW_gain {m : MD} (o : m.Ok) : ∀ (w : Wd) (v : Nat) (a : Int) (k : Nat) (t : Int), runW m (v, a) w = some (k, t) → a - w.length * 10 ^ 30 ≤ t ∧ t ≤ a + w.length * 10 ^ 30
  | [], v, a, k, t, h => by
    cases h
    exact ⟨by simp, by simp⟩
  | c :: w, v, a, k, t, h => by
    unfold runW at h
    split at h
    · cases h
    · rename_i x e
      obtain ⟨hx, _⟩ := stepOf_mem e
      have h1 := (o.ok x hx).g
      have h2 := (o.ok x hx).g'
      obtain ⟨h3, h4⟩ := runW_gain o w x.e (a + x.g) k t h
      rw [List.length_cons]
      constructor <;> omega
theorem WalkOf.small {m : MD} (o : m.Ok) {w : Wd} {L : List (Nat × Int)} (h : WalkOf m w L) (hw : w.length ≤ 12) {i : Nat} {x : Nat × Int} (e : L[i]? = some x) : -(12 * 10 ^ 30) ≤ x.2 ∧ x.2 ≤ 12 * 10 ^ 30 := by
  have il : i < L.length := (List.getElem?_eq_some_iff.mp e).1
  have iw : i ≤ w.length := by have := h.1; omega
  have r1 := h.2 i iw
  rw [e] at r1
  obtain ⟨h1, h2⟩ := runW_gain o _ _ _ _ _ r1
  rw [List.length_take] at h1 h2
  omega
def SeenAt (K : PySem.W.Frag) (H : Hp) (us : List V) (L : List (Nat × Int)) : Prop := us.length = L.length ∧ ∀ (i : Nat) (x : Nat × Int), L[i]? = some x → ∃ p, us[i]? = some (.ref p) ∧ SqT K H p [.int (x.1 : Nat), .int x.2]
theorem SeenAt.tups {K : PySem.W.Frag} {H H' : Hp} {us : List V} {L : List (Nat × Int)} (h : SeenAt K H us L) (t : Tups H H') : SeenAt K H' us L := ⟨h.1, fun i x e => let ⟨p, q, z⟩ := h.2 i x e; ⟨p, q, t.sq z⟩⟩
theorem SeenAt.snoc {K : PySem.W.Frag} {H : Hp} {us : List V} {L : List (Nat × Int)} {p : Addr} {x : Nat × Int} (h : SeenAt K H us L) (q : SqT K H p [.int (x.1 : Nat), .int x.2]) : SeenAt K H (us ++ [.ref p]) (L ++ [x]) := by
  refine ⟨by rw [List.length_append, List.length_append, h.1]; rfl, fun i y e => ?_⟩
  by_cases c : i < L.length
  · rw [List.getElem?_append_left c] at e
    obtain ⟨r, e1, q1⟩ := h.2 i y e
    exact ⟨r, by rw [List.getElem?_append_left (by rw [h.1]; exact c)]; exact e1, q1⟩
  · rw [List.getElem?_append_right (by omega)] at e
    have z : i - L.length = 0 := by
      have := (List.getElem?_eq_some_iff.mp e).1
      simp at this
      omega
    rw [z] at e
    cases e
    exact ⟨p, by rw [List.getElem?_append_right (by rw [h.1]; omega), h.1, z]; rfl, q⟩
theorem atI_end {us : List V} {v : V} {k : Nat} (hl : us.length = k + 1) (h : us[k]? = some v) : atI us (-1) = some v := by
  have ne : us ≠ [] := fun z => by rw [z] at hl; cases hl
  have e := List.dropLast_concat_getLast ne
  rw [← e, atI_last]
  have l : us.dropLast.length = k := by rw [List.length_dropLast, hl]; rfl
  rw [← e, List.getElem?_append_right (by omega), l, Nat.sub_self] at h
  exact h
theorem k_rng2 {ta : TA} {σ : L2.St} {H : Hp} {R : It → Hp → Prop} (h : ta σ H fun vs H1 => ∃ i j : Int, vs = [.int i, .int j] ∧ (-(2 ^ 62) ≤ i ∧ i < 2 ^ 62 ∧ -(2 ^ 62) ≤ j ∧ j < 2 ^ 62) ∧ R (Itr i (j - i).toNat) H1) : iRng2 ta σ H R := h
/-! ### whether a value is a paper of the mean -/
def meanB (m : MD) (a b : Int) (v u : V) : Bool := match gainV m v u with
  | .int g => match u with
    | .str z => decide (g * b = a * (z.cps.size : Int))
    | _ => false
  | _ => false
theorem gainV_is {m : MD} (o : m.Ok) (v u : V) : gainV m v u = .non ∨ ∃ z g, u = .str z ∧ gainV m v u = .int g ∧ -(z.cps.size * 10 ^ 30 : Int) ≤ g ∧ g ≤ z.cps.size * 10 ^ 30 := by
  by_cases c : ∃ x y, v = .str x ∧ u = .str y
  · obtain ⟨x, y, rfl, rfl⟩ := c
    show gainS m x y = .non ∨ ∃ z g, _ ∧ gainS m x y = .int g ∧ _
    unfold gainS
    cases run m x.cps.toList with
    | none => exact .inl rfl
    | some q =>
      dsimp only
      cases e : runW m (q.1, 0) y.cps.toList with
      | none => exact .inl rfl
      | some r =>
        dsimp only
        split
        · obtain ⟨h1, h2⟩ := runW_gain o _ _ _ r.1 r.2 e
          rw [show y.cps.toList.length = y.cps.size by simp] at h1 h2
          exact .inr ⟨y, r.2, rfl, rfl, by omega, by omega⟩
        · exact .inl rfl
  · refine .inl ?_
    by_cases d : ∃ x, v = .str x
    · obtain ⟨x, rfl⟩ := d
      exact gain_none2 fun z e => c ⟨x, z, rfl, e⟩
    · exact gain_none fun z e => d ⟨z, e⟩
def sp_ismean (K : PySem.W.Frag) (C : Addr) : Sp := fun vs H Q _ => ∃ (x q : Addr) (v u : V) (a b : Int) (m : MD), vs = [.ref x, .ref q, v, u] ∧ MAt K C H x m ∧ m.Ok ∧ SqT K H q [.int a, .int b] ∧ a.natAbs < 2 ^ 200 ∧ b.natAbs < 2 ^ 200 ∧ StrOr K H v ∧ StrOr K H u ∧
  ∀ H', Same H H' → Q (.bl (meanB m a b v u)) H'
section
variable {P : Program} {w : World} {K : PySem.W.Frag} {mg : Str → Option Value} {base : Heap}
theorem ok_is_mean_of (T : Txt K mg) : FnOk P w K mg base (L2.CX P w) 7 T.a_is_mean_of T.fd_is_mean_of ["machine", "mean", "lead", "loop"] (sp_ismean K T.c_Machine) := by
  refine T.F_is_mean_of.okX sc_is_mean_of (fun vs H Q E h => ?_) (fun cdv A outer s H vs Q E hr h => ?_)
  · obtain ⟨x, q, v, u, a, b, m, rfl, _⟩ := h
    rfl
  · obtain ⟨x, q, v, u, a, b, m, rfl, hm, o, hq, ha, hb, hv, hu, k⟩ := h
    refine ⟨_, (PSs.nox (pss_cons (ps_set (i := 4) sc_is_mean_of.nd rfl (Or.inl rfl) (pe_call (ok_gain_of_loop T) (hr.mono (by decide)) (by rfl) T.m_gain_of_loop T.k_gain_of_loop T.b_gain_of_loop .nil passL (pa_cons (pv 0) (pa_cons (pv 2) (pa_cons (pv 3) pa_nil)))))
  (pss_one (ps_ret (pe_and (pe_cmp (pc_notN (pv 4))) (pe_one (pe_cmpR op_eq (pe_op op_mulW (pv 4) (pe_ix ix_tup (pv 1) pe_int (fun _ _ => rfl))) (pe_op op_mulW (pe_ix ix_tup (pv 1) pe_int (fun _ _ => rfl)) (pe_callB call_len_str (by rfl) T.z_len PySem.boot_len (pa_cons (pv 3) pa_nil))) (nomark _)))))))), ?_⟩
    walk_at "begin"
    walk_at "go"
    refine ⟨x, v, u, m, rfl, hm, o, hv, hu, fun H1 z1 => ?_⟩
    walk_at "go"
    have kk := k H1 z1
    have hq1 := (same_tups z1).sq hq
    rcases gainV_is o v u with e | ⟨z, g, rfl, e, g1, g2⟩
    · rw [e]
      have eb : meanB m a b v u = false := by unfold meanB; rw [e]
      rw [eb] at kk
      walk_at "go"
      exact k_no (by simp) kk
    · rw [e]
      have eb : meanB m a b v (.str z) = decide (g * b = a * (z.cps.size : Int)) := by unfold meanB; rw [e]
      rw [eb] at kk
      have zk : z.cps.size ≤ 1000 := by
        rcases hu with ⟨y, e1, yk⟩ | ⟨_, n⟩
        · cases e1; exact yk
        · exact absurd rfl (n z)
      walk_at "go"
      refine k_yes (by simp) ?_
      walk_at "go"
      refine k_ixT hq1 (v := .int b) rfl ?_
      refine ⟨_, _, rfl, rfl, wide_mul (a := 120) (b := 200) (by have : (z.cps.size : Int) * 10 ^ 30 ≤ 1000 * 10 ^ 30 := by omega
                                                                 omega) hb (by decide) (by decide) (by decide), ?_⟩
      walk_at "go"
      refine k_ixT hq1 (v := .int a) rfl ?_
      walk_at "go"
      refine ⟨z, rfl, Nat.le_trans zk (by decide), ?_⟩
      have zl : z.length = z.cps.size := rfl
      rw [zl]
      refine ⟨_, _, rfl, rfl, wide_mul (a := 200) (b := 10) ha (by omega) (by decide) (by decide) (by decide), ?_⟩
      walk_at "go"
      have e2 : decide (V.int (g * b) = V.int (a * (z.cps.size : Int))) = decide (g * b = a * (z.cps.size : Int)) := decide_eq_decide.mpr ⟨fun z => by injection z, fun z => by rw [z]⟩
      rw [e2]
      exact kk
end
/-! ### whether a value is a fraction in lowest terms -/
def fracB : List V → Bool
  | [.int a, .int b] => decide (1 ≤ b) && decide (Nat.gcd a.natAbs b.natAbs = 1)
  | _ => false
def Whole (K : PySem.W.Frag) (H : Hp) (v : V) : Prop := (∃ i, v = .int i) ∨ (NotInt K H v ∧ ∀ i, v ≠ .int i)
def sp_isfrac (K : PySem.W.Frag) : Sp := fun vs H Q _ => ∃ v : V, vs = [v] ∧
  (((∃ t, TyX K H v t ∧ PySem.W.kitOne K t (.type "tuple") = some false) ∧ Q (.bl false) H) ∨ ∃ p xs, v = .ref p ∧ SqT K H p xs ∧ (∀ y ∈ xs, Whole K H y) ∧ Q (.bl (fracB xs)) H)
section
variable {P : Program} {w : World} {K : PySem.W.Frag} {mg : Str → Option Value} {base : Heap}
theorem ok_is_fraction (T : Txt K mg) : FnOk P w K mg base (L2.CX P w) 2 T.a_is_fraction T.fd_is_fraction ["value"] (sp_isfrac K) := by
  refine T.F_is_fraction.okX sc_is_fraction (fun vs H Q E h => ?_) (fun cdv A outer s H vs Q E hr h => ?_)
  · obtain ⟨v, rfl, _⟩ := h
    rfl
  · obtain ⟨v, rfl, k⟩ := h
    refine ⟨_, (PSs.nox (pss_cons (ps_if (PW.pt (pw_or (pt_not (pt_val (pe_callB call_isi (by rfl) T.z_isinstance (by decide +kernel) (pa_cons (pv 0) (pa_cons (pe_bltn (v := .ty "tuple") (by rfl) T.z_tuple (by decide +kernel) rfl) pa_nil))))) (pw_or1 (pt_cmpR op_ne (pe_callB call_len_seq (by rfl) T.z_len PySem.boot_len (pa_cons (pv 0) pa_nil)) pe_int (nomark _)))))
  (pss_one (ps_ret pe_bl))
  pss_nil)
  (pss_cons (ps_asg (pv 0) (pg_tup rfl (pgs_cons (pg_name (i := 1) sc_is_fraction.nd rfl (Or.inl rfl)) (pgs_cons (pg_name (i := 2) sc_is_fraction.nd rfl (Or.inl rfl)) pgs_nil))))
  (pss_one (ps_ret (pe_and (pe_call (ok_is_whole_number T) (hr.mono (by decide)) (by rfl) T.m_is_whole_number T.k_is_whole_number T.b_is_whole_number .nil passL (pa_cons (pv 1) pa_nil)) (pe_and (pe_call (ok_is_whole_number T) (hr.mono (by decide)) (by rfl) T.m_is_whole_number T.k_is_whole_number T.b_is_whole_number .nil passL (pa_cons (pv 2) pa_nil)) (pe_and (pe_cmpR op_ge (pv 2) pe_int (nomark _)) (pe_one (pe_cmpR op_eq (pe_callBfun cr_gcd (by rfl) T.m_gcd (pa_cons (pv 1) (pa_cons (pv 2) pa_nil))) pe_int (nomark _))))))))))), ?_⟩
    walk_at "begin"
    walk_at "go"
    rcases k with ⟨⟨t, ht, hk⟩, k⟩ | ⟨p, xs, rfl, hp, hw, k⟩
    · refine k_isi (.ty _) ht hk ?_
      walk_at "go"
      refine iteT (iteT ?_)
      walk_at "go"
      exact k
    · refine k_isi (.ty _) (ty_tup hp) (kit_ty (b := "tuple") (r := true) (by decide +kernel)) ?_
      walk_at "go"
      refine iteF ?_
      walk_at "go"
      refine k_len (.inr hp) ?_
      walk_at "go"
      by_cases l : xs.length = 2
      · obtain ⟨v1, v2, rfl⟩ : ∃ v1 v2, xs = [v1, v2] := by
          cases xs with
          | nil => cases l
          | cons a r =>
            cases r with
            | nil => cases l
            | cons b r =>
              cases r with
              | nil => exact ⟨a, b, rfl⟩
              | cons c r => simp at l
        refine k_no (by rfl) ?_
        walk_at "go"
        refine k_gt hp rfl ?_
        walk_at "go"
        rcases hw v1 (by simp) with ⟨a, rfl⟩ | ⟨n1, e1⟩
        · refine ⟨_, rfl, .inl ⟨a, rfl, ?_⟩⟩
          walk_at "go"
          rcases hw v2 (by simp) with ⟨b, rfl⟩ | ⟨n2, e2⟩
          · refine iteT ?_
            walk_at "go"
            refine ⟨_, rfl, .inl ⟨b, rfl, ?_⟩⟩
            walk_at "go"
            refine iteT ?_
            walk_at "go"
            have e : fracB [.int a, .int b] = (decide (1 ≤ b) && decide (Nat.gcd a.natAbs b.natAbs = 1)) := rfl
            rw [e] at k
            by_cases c : 1 ≤ b
            · rw [decide_eq_true c, Bool.true_and] at k
              refine k_yes (decide_eq_true c) ?_
              walk_at "go"
              refine ⟨a, b, rfl, ?_⟩
              walk_at "go"
              have e2 : decide (V.int ((Nat.gcd a.natAbs b.natAbs : Nat) : Int) = V.int 1) = decide (Nat.gcd a.natAbs b.natAbs = 1) := decide_eq_decide.mpr ⟨fun z => by injection z with z; omega, fun z => by rw [z]; rfl⟩
              rw [e2]
              exact k
            · rw [decide_eq_false c, Bool.false_and] at k
              refine k_no (decide_eq_false c) ?_
              exact k
          · have e : fracB [.int a, v2] = false := by
              unfold fracB
              split
              · rename_i q
                cases q
                exact absurd rfl (e2 _)
              · rfl
            rw [e] at k
            refine iteT ?_
            walk_at "go"
            refine ⟨_, rfl, .inr ⟨n2, ?_⟩⟩
            walk_at "go"
            exact iteF k
        · refine ⟨_, rfl, .inr ⟨n1, ?_⟩⟩
          walk_at "go"
          have e : fracB [v1, v2] = false := by
            unfold fracB
            split
            · rename_i q
              cases q
              exact absurd rfl (e1 _)
            · rfl
          rw [e] at k
          exact iteF k
      · refine k_yes (by simp; exact fun z => l (by omega)) ?_
        walk_at "go"
        have : fracB xs = false := by
          unfold fracB
          split
          · exact absurd rfl l
          · rfl
        rw [this] at k
        exact k
end
/-! ### whether numbers bar a greater mean -/
def intAt (ns : List V) (k : Nat) : Bool := match ns[k]? with
  | some (.int _) => true
  | _ => false
def numAt (ns : List V) (k : Nat) : Int := match ns[k]? with
  | some (.int i) => i
  | _ => 0
def stepB (a b : Int) (ns : List V) (s : Stp) : Bool := decide (numAt ns s.b + (b * s.g - a) ≤ numAt ns s.e)
def NumsOk (m : MD) (a b : Int) (ns : List V) : Prop := ns.length = m.n ∧ (∀ k, Reach m.ss [0] k → intAt ns k = true) ∧ ∀ s ∈ m.ss, Reach m.ss [0] s.b → stepB a b ns s = true
theorem int_at {ns : List V} {k : Nat} (h : intAt ns k = true) : ns[k]? = some (.int (numAt ns k)) := by
  unfold intAt at h
  split at h
  · rename_i i e
    unfold numAt
    rw [e]
  · cases h
def sp_bars (K : PySem.W.Frag) (C : Addr) : Sp := fun vs H Q _ => ∃ (x q : Addr) (v : V) (a b : Int) (m : MD), vs = [.ref x, .ref q, v] ∧ MAt K C H x m ∧ m.Ok ∧ SqT K H q [.int a, .int b] ∧ 0 < b ∧ b ≤ 8 ∧
  (((∃ t, TyX K H v t ∧ PySem.W.kitOne K t (.type "tuple") = some false) ∧ Q (.bl false) H) ∨ ∃ p ns, v = .ref p ∧ SqT K H p ns ∧ (∀ y ∈ ns, ∀ H', Same H H' → Whole K H' y) ∧ ∀ c H', Same H H' → (c = true ↔ NumsOk m a b ns) → Q (.bl c) H')
section
variable {P : Program} {w : World} {K : PySem.W.Frag} {mg : Str → Option Value} {base : Heap}
theorem ok_bars_greater (T : Txt K mg) : FnOk P w K mg base (L2.CX P w) 6 T.a_bars_greater T.fd_bars_greater ["machine", "mean", "numbers"] (sp_bars K T.c_Machine) := by
  refine T.F_bars_greater.okX sc_bars_greater (fun vs H Q E h => ?_) (fun cdv A outer s H vs Q E hr h => ?_)
  · obtain ⟨x, q, v, a, b, m, rfl, _⟩ := h
    rfl
  · obtain ⟨x, q, v, a, b, m, rfl, hm, o, hq, b0, b8, k⟩ := h
    obtain ⟨dx, t, u, hx, hpm⟩ := id hm
    have n8 := o.n8
    refine ⟨_, (PSs.nox (pss_cons (ps_if (PW.pt (pw_or (pt_not (pt_val (pe_callB call_isi (by rfl) T.z_isinstance (by decide +kernel) (pa_cons (pv 2) (pa_cons (pe_bltn (v := .ty "tuple") (by rfl) T.z_tuple (by decide +kernel) rfl) pa_nil))))) (pw_or1 (pt_cmpR op_ne (pe_callB call_len_seq (by rfl) T.z_len PySem.boot_len (pa_cons (pv 2) pa_nil)) (pe_prop (pv 0) T.cl_Machine T.p_stands (ok_Machine_stands T) (hr.mono (by decide)) T.b_Machine_stands .nil passL rfl) (nomark _)))))
  (pss_one (ps_ret pe_bl))
  pss_nil)
  (pss_cons (ps_set (i := 3) sc_bars_greater.nd rfl (Or.inr rfl) (pe_call (ok_reached T) (hr.mono (by decide)) (by rfl) T.m_reached T.k_reached T.b_reached .nil passL (pa_cons (pv 0) pa_nil)))
  (pss_cons (ps_if (pt_not (pt_truth (pe_callB (cr_all rfl) (by rfl) T.z_all (by decide +kernel) (pa_cons (pe_lc (own := [("stand", 10)]) (g := (gName 10)) (tt := tYes) rfl sc_bars_greater.nd (pi_list (pv 3)) (blkOk_by (own := [("stand", 10)]) (N := ["machine", "mean", "numbers", "stands", "over", "under", "begun", "_", "end", "gain", "stand"]) (sc := defScope s_bars_greater) (by decide +kernel)) (fun _ _ _ _ _ => (pg_name (i := 10) sc_bars_greater.nd rfl (Or.inl rfl))) (fun _ _ _ _ _ => pts_nil) (fun _ _ _ _ _ => (pe_call (ok_is_whole_number T) (hr.mono (by decide)) (by rfl) T.m_is_whole_number T.k_is_whole_number T.b_is_whole_number .nil passL (pa_cons (pe_ix (show IxR _ (rIxT K) from ix_tup) (pv 2) (pv 10) (fun _ _ => rfl)) pa_nil)))) pa_nil)) (fun _ => rfl)))
  (pss_one (ps_ret pe_bl))
  pss_nil)
  (pss_cons (ps_asg (pv 1) (pg_tup rfl (pgs_cons (pg_name (i := 4) sc_bars_greater.nd rfl (Or.inl rfl)) (pgs_cons (pg_name (i := 5) sc_bars_greater.nd rfl (Or.inl rfl)) pgs_nil))))
  (pss_one (ps_ret (pe_callB (cr_all rfl) (by rfl) T.z_all (by decide +kernel) (pa_cons (pe_lc (own := [("begun", 6), ("_", 7), ("end", 8), ("gain", 9)]) (g := (gTup K 4 (gCons (gName 6) (gCons (gName 7) (gCons (gName 8) (gCons (gName 9) gNil)))))) rfl sc_bars_greater.nd (pi_list (pe_call (ok_steps_over T) (hr.mono (by decide)) (by rfl) T.m_steps_over T.k_steps_over T.b_steps_over .nil passL (pa_cons (pv 0) (pa_cons (pv 4) (pa_cons (pv 5) pa_nil))))) (blkOk_by (own := [("begun", 6), ("_", 7), ("end", 8), ("gain", 9)]) (N := ["machine", "mean", "numbers", "stands", "over", "under", "begun", "_", "end", "gain", "stand"]) (sc := defScope s_bars_greater) (by decide +kernel)) (fun _ _ _ _ _ => (pg_tup rfl (pgs_cons (pg_name (i := 6) sc_bars_greater.nd rfl (Or.inl rfl)) (pgs_cons (pg_name (i := 7) sc_bars_greater.nd rfl (Or.inl rfl)) (pgs_cons (pg_name (i := 8) sc_bars_greater.nd rfl (Or.inl rfl)) (pgs_cons (pg_name (i := 9) sc_bars_greater.nd rfl (Or.inl rfl)) pgs_nil)))))) (fun _ _ _ _ _ => (pts_one (pt_cmpR (show OpR _ _ (rIn K false) from op_in_seq) (pv 6) (pv 3) (by rfl)))) (fun _ _ _ _ _ => (pe_cmpR op_ge (pe_ix (show IxR _ (rIxT K) from ix_tup) (pv 2) (pv 8) (fun _ _ => rfl)) (pe_op op_add (pe_ix (show IxR _ (rIxT K) from ix_tup) (pv 2) (pv 6) (fun _ _ => rfl)) (pv 9)) (nomark _)))) pa_nil))))))))), ?_⟩
    walk_at "begin"
    walk_at "go"
    rcases k with ⟨⟨tv, hv1, hv2⟩, k⟩ | ⟨p, ns, rfl, hp, hw, k⟩
    · refine k_isi (.ty _) hv1 hv2 ?_
      walk_at "go"
      refine iteT (iteT ?_)
      walk_at "go"
      exact k
    · refine k_isi (.ty _) (ty_tup hp) (kit_ty (b := "tuple") (r := true) (by decide +kernel)) ?_
      walk_at "go"
      refine iteF ?_
      walk_at "go"
      refine k_len (.inr hp) ?_
      walk_at "go"
      refine ⟨x, dx, _, rfl, hx, x, dx, _, .int (m.n : Nat), rfl, hx, rfl, ?_⟩
      walk_at "go"
      by_cases hl : ns.length = m.n
      · have hd : decide (V.int (ns.length : Nat) = V.int (m.n : Nat)) = true := decide_eq_true (by rw [hl])
        refine k_no (by rw [hd]; rfl) ?_
        walk_at "go"
        refine ⟨x, m, rfl, hm, o, fun q1 l H1 z1 hq1 eq1 mem asc => ?_⟩
        walk_at "go"
        refine ⟨q1, rfl, ⟨_, SqL.of eq1⟩, fun D hD => ?_⟩
        have ll : l.length ≤ 8 := by
          have := nodup_small (F := l) (n := m.n) (asc.imp fun h => by omega) fun n hn => reach_lt o ((mem n).mp hn)
          omega
        refine lc_list (xs := nats l) (fun i H' => Same H1 H' ∧ H' D = some (.lst (((l.take i).map (intAt ns)).map V.bl))) ⟨Same.new hD, upd_same⟩ (fun _ H' _ ⟨z, _⟩ => z.seq (SqL.of eq1)) ?_ ?_
        · rintro i y H2 hy ⟨z2, eD⟩
          obtain ⟨n, en, rfl⟩ := nats_at hy
          have nn : n < ns.length := by rw [hl]; exact reach_lt o ((mem n).mp (List.mem_of_getElem? en))
          have es : ns[n]? = some (ns[n]'nn) := List.getElem?_eq_getElem nn
          have ym : ns[n]'nn ∈ ns := List.getElem_mem nn
          have tk : ((l.take (i + 1)).map (intAt ns)).map V.bl = ((l.take i).map (intAt ns)).map V.bl ++ [V.bl (intAt ns n)] := by rw [List.take_add_one, en, List.map_append, List.map_append]; rfl
          rw [tk]
          have lt : (((l.take i).map (intAt ns)).map V.bl).length < sizeLine := by
            rw [List.length_map, List.length_map, List.length_take]
            exact Nat.lt_of_le_of_lt (show _ ≤ 8 by omega) (by decide)
          have ei : intAt ns n = match ns[n]'nn with | .int _ => true | _ => false := by
            unfold intAt
            rw [es]
            cases ns[n]'nn <;> rfl
          generalize ns[n]'nn = y at es ym ei
          walk_at "go"
          refine ⟨rfl, ?_⟩
          walk_at "go"
          refine iteT ?_
          walk_at "go"
          refine k_ixT ((same_tups (z1.trans z2)).sq hp) (atI_nat es) ?_
          walk_at "go"
          refine ⟨y, rfl, ?_⟩
          rcases hw y ym H2 (z1.trans z2) with ⟨i, rfl⟩ | ⟨n1, ne⟩
          · refine .inl ⟨i, rfl, ?_⟩
            rw [ei]
            exact ⟨_, eD, lt, Same.mut z2 hD, upd_same⟩
          · refine .inr ⟨n1, ?_⟩
            have e0 : intAt ns n = false := by
              rw [ei]
              cases y with
              | int i => exact absurd rfl (ne i)
              | _ => rfl
            rw [e0]
            exact ⟨_, eD, lt, Same.mut z2 hD, upd_same⟩
        · rintro H2 ⟨z2, eD⟩
          have tl : l.take (nats l).length = l := by unfold nats; rw [List.length_map, List.take_length]
          rw [tl] at eD
          have z12 := z1.trans z2
          walk_at "go"
          refine ⟨D, _, rfl, SqL.of eD, ?_⟩
          have ea : (l.map (intAt ns)).all id = l.all (intAt ns) := by rw [List.all_map]; rfl
          rw [ea]
          refine ⟨_, rfl, ?_⟩
          cases e1 : l.all (intAt ns) with
          | false =>
            refine iteT ?_
            walk_at "go"
            exact k false _ z12 ⟨(fun z => by cases z), fun z => by
              have : l.all (intAt ns) = true := List.all_eq_true.mpr fun n hn => z.2.1 n ((mem n).mp hn)
              rw [e1] at this
              cases this⟩
          | true =>
            have al := List.all_eq_true.mp e1
            refine iteF ?_
            walk_at "go"
            refine k_gt ((same_tups z12).sq hq) rfl ?_
            walk_at "go"
            refine ⟨x, a, b, m, rfl, hm.same z12, o, b0, b8, fun p2 us H3 z3 hp2 ep2 st => ?_⟩
            walk_at "go"
            refine ⟨p2, rfl, ⟨_, SqL.of ep2⟩, fun D2 hD2 => ?_⟩
            refine lc_list (xs := us) (fun i H' => Same H3 H' ∧ ∃ bs : List Bool, H' D2 = some (.lst (bs.map V.bl)) ∧ bs.length ≤ i ∧ (bs.all id = true ↔ ∀ s ∈ m.ss.take i, s.b ∈ l → stepB a b ns s = true)) ⟨Same.new hD2, [], upd_same, Nat.le_refl _, ⟨(fun _ s h => by simp at h), fun _ => rfl⟩⟩ (fun _ H' _ ⟨z, _⟩ => z.seq (SqL.of ep2)) ?_ ?_
            · rintro i y H4 hy ⟨z4, bs, eD2, lb, hb⟩
              have il : i < m.ss.length := by
                have h1 := (List.getElem?_eq_some_iff.mp hy).1
                have h2 := st.1
                rw [List.length_map] at h2
                omega
              have ei : m.ss[i]? = some (m.ss[i]'il) := List.getElem?_eq_getElem il
              have l32 := o.len
              obtain ⟨pt, ept, hpt⟩ := st.2 i (ovS a b (m.ss[i]'il)) (by rw [List.getElem?_map, ei]; rfl)
              rw [hy] at ept
              cases ept
              have im : m.ss[i]'il ∈ m.ss := List.getElem_mem il
              have tk : ∀ s, s ∈ m.ss.take (i + 1) ↔ s ∈ m.ss.take i ∨ s = m.ss[i]'il := fun s => by rw [List.take_add_one, ei, List.mem_append]; simp
              generalize m.ss[i]'il = s0 at hpt im tk
              refine k_gt ((same_tups z4).sq hpt) rfl ?_
              unfold stpV
              walk_at "go"
              refine ⟨rfl, ?_⟩
              walk_at "go"
              have z14 := (z12.trans z3).trans z4
              refine k_in (.inl (SqL.of (((z2.trans z3).trans z4) _ _ eq1))) rfl (flat_nats l) ?_
              have e0 : inV (.int ((ovS a b s0).b : Nat)) (nats l) = decide (s0.b ∈ l) := inV_nats s0.b l
              rw [e0]
              refine ⟨_, rfl, ?_⟩
              by_cases c : s0.b ∈ l
              · refine k_yes (decide_eq_true c) ?_
                have i1 := int_at (al s0.b c)
                have i2 := int_at (al s0.e ((mem _).mpr (.step im ((mem _).mp c))))
                walk_at "go"
                refine k_ixT ((same_tups z14).sq hp) (atI_nat (show ns[(ovS a b s0).e]? = _ from i2)) ?_
                walk_at "go"
                refine k_ixT ((same_tups z14).sq hp) (atI_nat (show ns[(ovS a b s0).b]? = _ from i1)) ?_
                walk_at "go"
                refine ⟨_, eD2, by rw [List.length_map]; exact Nat.lt_trans (show bs.length < 100 by omega) (by decide), Same.mut z4 hD2, bs ++ [stepB a b ns s0], by rw [upd_same, List.map_append]; rfl, by rw [List.length_append]; exact Nat.add_le_add_right lb 1, ?_⟩
                rw [List.all_append, Bool.and_eq_true, hb]
                have e1 : [stepB a b ns s0].all id = stepB a b ns s0 := by simp
                rw [e1]
                constructor
                · rintro ⟨h1, h2⟩ s hs hm2
                  rcases (tk s).mp hs with hs | rfl
                  · exact h1 s hs hm2
                  · exact h2
                · exact fun h => ⟨fun s hs hm2 => h s ((tk s).mpr (.inl hs)) hm2, h s0 ((tk s0).mpr (.inr rfl)) c⟩
              · refine k_no (decide_eq_false c) ?_
                exact ⟨z4, bs, eD2, by omega, ⟨(fun z s hs hm2 => by
                  rcases (tk s).mp hs with hs | rfl
                  · exact hb.mp z s hs hm2
                  · exact absurd hm2 c), fun z => hb.mpr fun s hs hm2 => z s ((tk s).mpr (.inl hs)) hm2⟩⟩
            · rintro H4 ⟨z4, bs, eD2, lb, hb⟩
              have h2 := st.1
              rw [List.length_map] at h2
              rw [h2, List.take_length] at hb
              walk_at "go"
              refine ⟨D2, _, rfl, SqL.of eD2, ?_⟩
              refine k (bs.all id) H4 ((z12.trans z3).trans z4) ⟨fun z => ⟨hl, fun n hr => al n ((mem n).mpr hr), fun s hs hr => hb.mp z s hs ((mem _).mpr hr)⟩, fun z => hb.mpr fun s hs hm2 => z.2.2 s hs ((mem _).mp hm2)⟩
      · have hd : decide (V.int (ns.length : Nat) = V.int (m.n : Nat)) = false := decide_eq_false fun z => by injection z with z; omega
        refine k_yes (by rw [hd]; rfl) ?_
        walk_at "go"
        exact k false H (Same.refl _) ⟨(fun z => by cases z), fun z => absurd z.1 hl⟩
end
/-! ### whether a value is a mean paper -/
/-- a tuple, by its values, or what is none -/
def TupOr (K : PySem.W.Frag) (H : Hp) (v : V) (o : Option (List V)) : Prop := (o = none ∧ ∀ H', Same H H' → ∃ t, TyX K H' v t ∧ PySem.W.kitOne K t (.type "tuple") = some false) ∨ ∃ p xs, v = .ref p ∧ SqT K H p xs ∧ (∀ y ∈ xs, ∀ H', Same H H' → Whole K H' y) ∧ o = some xs
theorem TupOr.same {K : PySem.W.Frag} {H H' : Hp} {v : V} {o : Option (List V)} (h : TupOr K H v o) (z : Same H H') : TupOr K H' v o := by
  rcases h with ⟨e, h⟩ | ⟨p, xs, e, hp, hw, eo⟩
  · exact .inl ⟨e, fun H2 z2 => h H2 (z.trans z2)⟩
  · exact .inr ⟨p, xs, e, (same_tups z).sq hp, fun y hy H2 z2 => hw y hy H2 (z.trans z2), eo⟩
def rightB (m : MD) (o1 : Option (List V)) (v u : V) (o4 : Option (List V)) : Prop := ∃ a b ns, o1 = some [.int a, .int b] ∧ fracB [.int a, .int b] = true ∧ meanB m a b v u = true ∧ o4 = some ns ∧ NumsOk m a b ns
def sp_rmean (K : PySem.W.Frag) (C : Addr) : Sp := fun vs H Q _ => ∃ (x : Addr) (val : V) (m : MD), vs = [.ref x, val] ∧ MAt K C H x m ∧ m.Ok ∧
  (((∃ t, TyX K H val t ∧ PySem.W.kitOne K t (.type "tuple") = some false) ∧ Q (.bl false) H) ∨ (∃ p xs, val = .ref p ∧ SqT K H p xs ∧ xs.length ≠ 4 ∧ Q (.bl false) H) ∨
   ∃ p e1 v u e4 o1 o4, val = .ref p ∧ SqT K H p [e1, v, u, e4] ∧ TupOr K H e1 o1 ∧ StrOr K H v ∧ StrOr K H u ∧ TupOr K H e4 o4 ∧ (∀ a b, o1 = some [.int a, .int b] → a.natAbs < 2 ^ 200 ∧ b.natAbs < 2 ^ 200 ∧ (fracB [.int a, .int b] = true → b ≤ 8)) ∧
    ∀ c H', Same H H' → (c = true ↔ rightB m o1 v u o4) → Q (.bl c) H')
theorem frac_ints {xs : List V} (h : fracB xs = true) : ∃ a b, xs = [.int a, .int b] := by
  unfold fracB at h
  split at h
  · exact ⟨_, _, rfl⟩
  · cases h
section
variable {P : Program} {w : World} {K : PySem.W.Frag} {mg : Str → Option Value} {base : Heap}
theorem ok_right_mean (T : Txt K mg) : FnOk P w K mg base (L2.CX P w) 8 T.a_right_mean T.fd_right_mean ["machine", "value"] (sp_rmean K T.c_Machine) := by
  refine T.F_right_mean.okX sc_right_mean (fun vs H Q E h => ?_) (fun cdv A outer s H vs Q E hr h => ?_)
  · obtain ⟨x, v, m, rfl, _⟩ := h
    rfl
  · obtain ⟨x, val, m, rfl, hm, o, h⟩ := h
    obtain ⟨dx, t, u, hx, _⟩ := id hm
    refine ⟨_, (PSs.nox (pss_cons (ps_expr (pe_call (ok_check_machine T) (hr.mono (by decide)) (by rfl) T.m_check_machine T.k_check_machine T.b_check_machine .nil passL (pa_cons (pv 0) pa_nil)))
  (pss_cons (ps_if (PW.pt (pw_or (pt_not (pt_val (pe_callB call_isi (by rfl) T.z_isinstance (by decide +kernel) (pa_cons (pv 1) (pa_cons (pe_bltn (v := .ty "tuple") (by rfl) T.z_tuple (by decide +kernel) rfl) pa_nil))))) (pw_or1 (pt_cmpR op_ne (pe_callB call_len_seq (by rfl) T.z_len PySem.boot_len (pa_cons (pv 1) pa_nil)) pe_int (nomark _)))))
  (pss_one (ps_ret pe_bl))
  pss_nil)
  (pss_cons (ps_asg (pv 1) (pg_tup rfl (pgs_cons (pg_name (i := 2) sc_right_mean.nd rfl (Or.inl rfl)) (pgs_cons (pg_name (i := 3) sc_right_mean.nd rfl (Or.inl rfl)) (pgs_cons (pg_name (i := 4) sc_right_mean.nd rfl (Or.inl rfl)) (pgs_cons (pg_name (i := 5) sc_right_mean.nd rfl (Or.inl rfl)) pgs_nil))))))
  (pss_one (ps_ret (pe_and (pe_call (ok_is_fraction T) (hr.mono (by decide)) (by rfl) T.m_is_fraction T.k_is_fraction T.b_is_fraction .nil passL (pa_cons (pv 2) pa_nil)) (pe_and (pe_call (ok_is_mean_of T) (hr.mono (by decide)) (by rfl) T.m_is_mean_of T.k_is_mean_of T.b_is_mean_of .nil passL (pa_cons (pv 0) (pa_cons (pv 2) (pa_cons (pv 3) (pa_cons (pv 4) pa_nil))))) (pe_one (pe_call (ok_bars_greater T) (hr.mono (by decide)) (by rfl) T.m_bars_greater T.k_bars_greater T.b_bars_greater .nil passL (pa_cons (pv 0) (pa_cons (pv 2) (pa_cons (pv 5) pa_nil))))))))))))), ?_⟩
    walk_at "begin"
    walk_at "go"
    refine ⟨x, dx, _, rfl, hx, ?_⟩
    walk_at "go"
    rcases h with ⟨⟨ty, h1, h2⟩, k⟩ | ⟨p, xs, rfl, hp, c, k⟩ | ⟨p, e1, v, u, e4, o1, o4, rfl, hp, t1, sv, su, t4, bd, k⟩
    · refine k_isi (.ty _) h1 h2 ?_
      walk_at "go"
      refine iteT ?_
      walk_at "go"
      exact k
    · refine k_isi (.ty _) (ty_tup hp) (kit_ty (b := "tuple") (r := true) (by decide +kernel)) ?_
      walk_at "go"
      refine iteF ?_
      walk_at "go"
      refine k_len (.inr hp) ?_
      walk_at "go"
      rw [decide_eq_false (show ¬ V.int (xs.length : Nat) = V.int 4 from fun z => by injection z with z; exact c (by omega))]
      refine iteT ?_
      walk_at "go"
      exact k
    · refine k_isi (.ty _) (ty_tup hp) (kit_ty (b := "tuple") (r := true) (by decide +kernel)) ?_
      walk_at "go"
      refine iteF ?_
      walk_at "go"
      refine k_len (.inr hp) ?_
      walk_at "go"
      refine iteF ?_
      walk_at "go"
      refine k_gt hp rfl ?_
      walk_at "go"
      have no1 : o1 = none → ¬ rightB m o1 v u o4 := fun e ⟨a, b, ns, e1, _⟩ => by rw [e] at e1; cases e1
      rcases t1 with ⟨eo, h1⟩ | ⟨p1, fs, rfl, hp1, hw1, rfl⟩
      · refine ⟨e1, rfl, .inl ⟨h1 _ (Same.refl _), ?_⟩⟩
        exact ⟨_, rfl, iteF (k false H (Same.refl _) ⟨(fun z => by cases z), fun z => absurd z (no1 eo)⟩)⟩
      · refine ⟨_, rfl, .inr ⟨p1, fs, rfl, hp1, fun y hy => hw1 y hy _ (Same.refl _), ?_⟩⟩
        cases hf : fracB fs with
        | false =>
          refine ⟨_, rfl, iteF (k false H (Same.refl _) ⟨(fun z => by cases z), fun ⟨a, b, ns, e1, e2, _⟩ => ?_⟩)⟩
          cases e1
          rw [hf] at e2
          cases e2
        | true =>
          refine ⟨_, rfl, iteT ?_⟩
          obtain ⟨a, b, rfl⟩ := frac_ints hf
          obtain ⟨ba, bb, b8⟩ := bd a b rfl
          have b8 := b8 hf
          have b1 : 1 ≤ b := by
            have := (Bool.and_eq_true_iff.mp (show (decide (1 ≤ b) && decide (Nat.gcd a.natAbs b.natAbs = 1)) = true from hf)).1
            exact of_decide_eq_true this
          walk_at "go"
          refine ⟨x, p1, v, u, a, b, m, rfl, hm, o, hp1, ba, bb, sv, su, fun H1 z1 => ?_⟩
          cases hmb : meanB m a b v u with
          | false =>
            refine ⟨_, rfl, iteF (k false H1 z1 ⟨(fun z => by cases z), fun ⟨a', b', ns, e1, _, e3, _⟩ => ?_⟩)⟩
            cases e1
            rw [hmb] at e3
            cases e3
          | true =>
            refine ⟨_, rfl, iteT ?_⟩
            walk_at "go"
            rcases t4.same z1 with ⟨eo, h4⟩ | ⟨p4, ns, rfl, hp4, hw4, rfl⟩
            · refine ⟨x, p1, e4, a, b, m, rfl, hm.same z1, o, (same_tups z1).sq hp1, by omega, b8, .inl ⟨h4 _ (Same.refl _), ?_⟩⟩
              exact k false H1 z1 ⟨(fun z => by cases z), fun ⟨a', b', ns, _, _, _, e4, _⟩ => by rw [eo] at e4; cases e4⟩
            · refine ⟨x, p1, _, a, b, m, rfl, hm.same z1, o, (same_tups z1).sq hp1, by omega, b8, .inr ⟨p4, ns, rfl, hp4, hw4, fun c H2 z2 hc => ?_⟩⟩
              refine k c H2 (z1.trans z2) ⟨fun z => ⟨a, b, ns, rfl, hf, hmb, rfl, hc.mp z⟩, fun ⟨a', b', ns', e1, _, _, e4, e5⟩ => ?_⟩
              cases e1
              cases e4
              exact hc.mpr e5
end
/-! ### where a word leads, by the law -/
theorem step_head (m : MD) (b c : Nat) : stepOf m b c = ((fromS m b).filter fun s => s.c == c).head? := by
  unfold stepOf fromS
  rw [List.filter_filter, List.head?_filter]
  congr 1
  funext s
  exact Bool.and_comm _ _
def sp_lway (K : PySem.W.Frag) : Sp := fun vs H Q _ => ∃ (d : Addr) (z : Str) (s0 : Nat) (m : MD), vs = [.ref d, .str z, .int (s0 : Nat)] ∧ DAt K H d m ∧ m.Ok ∧ (runW m (s0, 0) z.cps.toList = none → ∀ H', Same H H' → Q .non H') ∧
  ∀ n t, runW m (s0, 0) z.cps.toList = some (n, t) → ∀ p H', Same H H' → H p = none → H' p = some (.tup [.int (n : Nat), .int t]) → Q (.ref p) H'
section
variable {P : Program} {w : World} {K : PySem.W.Frag} {mg : Str → Option Value} {base : Heap}
theorem ok_law_way (T : Txt K mg) : FnOk P w K mg base (L2.CX P w) 2 T.a_law_way T.fd_law_way ["_law_d", "_law_word", "_law_stand"] (sp_lway K) := by
  refine T.F_law_way.okX sc_law_way (fun vs H Q E h => ?_) (fun cdv A outer s H vs Q E hr h => ?_)
  · obtain ⟨d, z, b0, m, rfl, _⟩ := h
    rfl
  · obtain ⟨d, z, b0, m, rfl, hd, o, k0, k1⟩ := h
    refine ⟨_, (PSs.nox (pss_cons (ps_set (i := 3) sc_law_way.nd rfl (Or.inl rfl) pe_int)
  (pss_cons (ps_for PassesOwn.never rfl (pi_str (pv 1)) (pg_name (i := 4) sc_law_way.nd rfl (Or.inr rfl))
  (pss_cons (ps_setLc (i := 5) (own := [("_law_step", 6)]) (g := (gName 6)) rfl sc_law_way.nd rfl rfl (sw_true rfl rfl rfl (by decide +kernel)) (pi_list (pe_call (ok_law_next T) (hr.mono (by decide)) (by rfl) T.m_law_next T.k_law_next T.b_law_next .nil passL (pa_cons (pv 0) (pa_cons (pv 2) pa_nil)))) (blkOk_by (own := [("_law_step", 6)]) (N := ["_law_d", "_law_word", "_law_stand", "_law_tally", "_law_letter", "_law_some", "_law_step"]) (sc := defScope s_law_way) (by decide +kernel)) (fun _ _ _ _ _ => (pg_name (i := 6) sc_law_way.nd rfl (Or.inl rfl))) (fun _ _ _ _ _ => (pts_one (pt_cmpR op_eq (pe_ix (show IxR _ (rIxT K) from ix_tup) (pv 6) pe_int (fun _ _ => rfl)) (pv 4) (nomark _)))) (fun _ _ _ _ _ => (pv 6)))
  (pss_cons (ps_if (pt_cmpR (op_eqD hr.units) (pv 5) (pe_lst pa_nil) (nomark _))
  (pss_one (ps_ret pe_non))
  pss_nil)
  (pss_one (ps_par (i := 2) (j := 3) (by rfl) sc_law_way.nd rfl rfl (by decide) rfl rfl (pa_cons (pe_ix ix_tup (pe_ix ix_list (pv 5) pe_int (fun _ _ => rfl)) pe_int (fun _ _ => rfl)) (pa_cons (pe_op op_add (pv 3) (pe_ix ix_tup (pe_ix ix_list (pv 5) pe_int (fun _ _ => rfl)) pe_int (fun _ _ => rfl))) pa_nil)) (by rfl))))))
  (pss_one (ps_ret (pe_tup (pa_cons (pv 2) (pa_cons (pv 3) pa_nil)))))))), ?_⟩
    walk_at "begin"
    walk_at "go"
    obtain ⟨l, hl⟩ : ∃ l, l = z.cps.toList := ⟨_, rfl⟩
    rw [← hl] at k0 k1
    have zs : z.cps.size = l.length := by rw [hl]; simp
    refine ⟨z, rfl, for_it walk_str (fun j σ H' => ∃ st tl a4 a5, Same H H' ∧ runW m (b0, 0) (l.take j) = some (st, tl) ∧
      σ = [some (.ref d), some (.str z), some (.int (st : Nat)), some (.int tl), a4, a5, none]) ⟨b0, 0, none, none, Same.refl _, rfl, rfl⟩ (fun _ _ _ _ _ => trivial) ?_ ?_⟩
    · rintro j y σ H2' H2 hj ⟨st, tl, a4, a5, z2, hrun, rfl⟩ ⟨rfl, c, hc, rfl⟩
      have hc' : l[j]? = some c := by rw [hl]; simpa using hc
      have jl : j < l.length := (List.getElem?_eq_some_iff.mp hc').1
      have tk : l.take (j + 1) = l.take j ++ [c] := by rw [List.take_add_one, hc']; rfl
      have dec : l = (l.take j ++ [c]) ++ l.drop (j + 1) := by rw [← tk, List.take_append_drop]
      walk_at "go"
      refine ⟨d, st, m, rfl, hd.same z2, o, fun p us H3 z3 hp ep nx => ?_⟩
      walk_at "go"
      refine ⟨p, rfl, ⟨us, SqL.of ep⟩, fun D hD => ?_⟩
      have ln : us.length ≤ 32 := by rw [nx.1]; exact Nat.le_trans (List.length_filter_le _ _) o.len
      refine lc_list (xs := us) (fun i H' => Same H3 H' ∧ ∃ ws, H' D = some (.lst ws) ∧ NxAt K H' ws (((fromS m st).take i).filter fun s => s.c == c) ∧ ws.length ≤ i) ⟨Same.new hD, [], upd_same, ⟨rfl, fun i s e => by simp at e⟩, Nat.le_refl _⟩
        (fun i H' _ ⟨z, _⟩ => SqL.of (z _ _ ep)) ?_ ?_
      · rintro i y H4 hy ⟨z4, ws, eD, nw, lw⟩
        have il : i < (fromS m st).length := by rw [← nx.1]; exact (List.getElem?_eq_some_iff.mp hy).1
        have es : (fromS m st)[i]? = some ((fromS m st)[i]'il) := List.getElem?_eq_getElem il
        obtain ⟨q, eq, hq⟩ := (nx.tups (same_tups z4)).2 _ _ es
        rw [hy] at eq
        cases eq
        have ti : ((fromS m st).take (i + 1)).filter (fun s => s.c == c) = ((fromS m st).take i).filter (fun s => s.c == c) ++ (if ((fromS m st)[i]'il).c == c then [(fromS m st)[i]'il] else []) := by
          rw [List.take_add_one, es, List.filter_append]
          congr 1
          show List.filter _ [(fromS m st)[i]'il] = _
          rw [List.filter_cons]
          rfl
        rw [ti]
        have iu : i < us.length := (List.getElem?_eq_some_iff.mp hy).1
        generalize (fromS m st)[i]'il = s0 at hq
        walk_at "go"
        refine ⟨rfl, ?_⟩
        walk_at "go"
        refine k_ixT hq (v := .str ⟨#[s0.c]⟩) rfl ?_
        walk_at "go"
        refine k_ite (fun h => ?_) (fun h => ?_)
        · have h' : s0.c = c := by
            injection h with h
            injection h with h
            have := congrArg (fun x : Array Nat => x.toList) h
            simpa using this
          walk_at "go"
          refine ⟨ws, eD, Nat.lt_of_le_of_lt (show ws.length ≤ 32 by omega) (by decide), Same.mut z4 hD, _, upd_same, ?_, by rw [List.length_append, List.length_singleton]; omega⟩
          rw [if_pos (by rw [h']; exact beq_self_eq_true c)]
          exact (nw.snoc hq).tups (Tups.lst eD)
        · have h' : ¬ s0.c = c := fun z => h (by rw [z])
          refine ⟨z4, ws, eD, ?_, by omega⟩
          rw [if_neg (by simpa using h'), List.append_nil]
          exact nw
      · rintro H4 ⟨z4, ws, eD, nw, lw⟩
        rw [nx.1, List.take_length] at nw
        have eh := step_head m st c
        generalize hF : (fromS m st).filter (fun s => s.c == c) = F at nw eh
        have c100 : ∀ s ∈ F, s.c ≤ 100 := fun s hs => by
          rw [← hF] at hs
          have h1 := (List.mem_filter.mp hs).1
          exact (o.ok s (List.mem_filter.mp h1).1).c'
        walk_at "go"
        refine ⟨(by decide : 0 ≤ sizeLine), fun q hq => ?_⟩
        have zq := Same.new (o := .lst []) hq
        refine k_eqD (Dp.lst (SqL.of (zq _ _ eD)) (dp_nx (nw.tups (same_tups zq)))) (Dp.lst (SqL.of upd_same) .nil) (nx_sh c100) rfl ?_
        rw [nx_eqv]
        have z5 := ((z2.trans z3).trans z4).trans zq
        have eD5 := zq _ _ eD
        have nw5 := nw.tups (same_tups zq)
        cases F with
        | nil =>
          walk_at "go"
          refine k_yes (by rfl) ?_
          walk_at "go"
          refine k0 ?_ _ z5
          rw [dec]
          have rs : runW m (b0, 0) (l.take j ++ [c]) = none := by
            rw [runW_snoc]
            have hrun' : runW m (b0, 0) (l.take j) = some (st, tl) := hrun
            rw [hrun']
            show (stepOf m st c).map _ = none
            rw [eh]
            rfl
          rw [runW_append, rs]
          rfl
        | cons s0 F =>
          have es : stepOf m st c = some s0 := eh
          obtain ⟨p0, e0, h0⟩ := nw5.2 0 s0 rfl
          walk_at "go"
          refine k_no (by rfl) ?_
          walk_at "go"
          refine k_ixL (SqL.of eD5) (atI_nat (j := 0) e0) ?_
          walk_at "go"
          refine k_ixT h0 (v := .int (s0.e : Nat)) rfl ?_
          walk_at "go"
          refine k_ixL (SqL.of eD5) (atI_nat (j := 0) e0) ?_
          walk_at "go"
          refine k_ixT h0 (v := .int s0.g) rfl ?_
          walk_at "go"
          refine ⟨s0.e, tl + s0.g, _, _, z5, ?_, rfl⟩
          rw [tk]
          rw [runW_snoc, hrun]
          show (stepOf m st c).map _ = _
          rw [es]
          rfl
    · rintro σ H2 ⟨st, tl, a4, a5, z2, hrun, rfl⟩
      rw [zs, List.take_length] at hrun
      walk_at "go"
      refine ⟨(by decide : 2 ≤ sizeLine), fun p hp => ?_⟩
      have hp0 : H p = none := by
        cases e : H p with
        | none => rfl
        | some ob => rw [z2 _ _ e] at hp; cases hp
      exact k1 _ _ hrun p _ (z2.trans (Same.new hp)) hp0 upd_same
end
/-! ### whether a value is a mean paper, by the law -/
theorem mean_iff {m : MD} {a b : Int} {z1 z2 : Str} : meanB m a b (.str z1) (.str z2) = true ↔ ∃ q r, run m z1.cps.toList = some q ∧ runW m (q.1, 0) z2.cps.toList = some r ∧ r.1 = q.1 ∧ z2 ≠ "" ∧ r.2 * b = a * (z2.cps.size : Int) := by
  unfold meanB
  rw [show gainV m (.str z1) (.str z2) = gainS m z1 z2 from rfl]
  unfold gainS
  cases e : run m z1.cps.toList with
  | none => exact ⟨(fun z => by cases z), fun ⟨q, r, h, _⟩ => by cases h⟩
  | some q =>
    dsimp only
    cases e2 : runW m (q.1, 0) z2.cps.toList with
    | none => exact ⟨(fun z => by cases z), fun ⟨q', r, h, h2, _⟩ => by cases h; rw [e2] at h2; cases h2⟩
    | some r =>
      dsimp only
      by_cases c : r.1 = q.1 ∧ z2 ≠ ""
      · rw [if_pos c]
        dsimp only
        exact ⟨fun z => ⟨q, r, rfl, e2, c.1, c.2, of_decide_eq_true z⟩, fun ⟨q', r', h, h2, _, _, h5⟩ => by cases h; rw [e2] at h2; cases h2; exact decide_eq_true h5⟩
      · rw [if_neg c]
        exact ⟨(fun z => by cases z), fun ⟨q', r', h, h2, h3, h4, _⟩ => by cases h; rw [e2] at h2; cases h2; exact absurd ⟨h3, h4⟩ c⟩
theorem sts_at {K : PySem.W.Frag} {H : Hp} {vs : List V} {ss : List Stp} (h : StpsAt K H vs ss) {i : Nat} {y : V} (e : vs[i]? = some y) : ∃ s p, ss[i]? = some s ∧ y = .ref p ∧ SqT K H p (stpV s) := by
  have l : i < ss.length := by rw [← h.1]; exact (List.getElem?_eq_some_iff.mp e).1
  obtain ⟨p, e1, q⟩ := h.2 i _ (List.getElem?_eq_getElem l)
  rw [e] at e1
  cases e1
  exact ⟨_, p, List.getElem?_eq_getElem l, rfl, q⟩
def sp_lism (K : PySem.W.Frag) : Sp := fun vs H Q _ => ∃ (d p q r : Addr) (z1 z2 : Str) (a b : Int) (ns : List V) (m : MD), vs = [.ref d, .ref p] ∧ DAt K H d m ∧ m.Ok ∧ SqT K H p [.ref q, .str z1, .str z2, .ref r] ∧ SqT K H q [.int a, .int b] ∧ SqT K H r ns ∧ ns.length = m.n ∧ (∀ y ∈ ns, (∃ i, y = .int i) ∨ y = .non) ∧
  a.natAbs < 2 ^ 200 ∧ b < 17 ∧ -17 < b ∧ z1.cps.size ≤ 1000 ∧ z2.cps.size ≤ 1000 ∧ ∀ c H', Same H H' → (c = true ↔ rightB m (some [.int a, .int b]) (.str z1) (.str z2) (some ns)) → Q (.bl c) H'
section
variable {P : Program} {w : World} {K : PySem.W.Frag} {mg : Str → Option Value} {base : Heap}
theorem ok_law_is_mean (T : Txt K mg) : FnOk P w K mg base (L2.CX P w) 20 T.a_law_is_mean T.fd_law_is_mean ["_law_d", "_law_value"] (sp_lism K) := by
  refine T.F_law_is_mean.okX sc_law_is_mean (fun vs H Q E h => ?_) (fun cdv A outer s H vs Q E hr h => ?_)
  · obtain ⟨d, p, q, r, z1, z2, a, b, ns, m, rfl, _⟩ := h
    rfl
  · obtain ⟨d, p, q, r, z1, z2, a, b, ns, m, rfl, hd, o, hp, hq, hr', hl, hw, ha, hb, hb', l1, l2, k⟩ := h
    refine ⟨_, (PSs.nox (pss_cons (ps_asg (pv 1) (pg_tup rfl (pgs_cons (pg_tup rfl (pgs_cons (pg_name (i := 2) sc_law_is_mean.nd rfl (Or.inl rfl)) (pgs_cons (pg_name (i := 3) sc_law_is_mean.nd rfl (Or.inl rfl)) pgs_nil))) (pgs_cons (pg_name (i := 4) sc_law_is_mean.nd rfl (Or.inl rfl)) (pgs_cons (pg_name (i := 5) sc_law_is_mean.nd rfl (Or.inl rfl)) (pgs_cons (pg_name (i := 6) sc_law_is_mean.nd rfl (Or.inl rfl)) pgs_nil))))))
  (pss_cons (ps_set (i := 7) sc_law_is_mean.nd rfl (Or.inl rfl) (pe_call (ok_law_way T) (hr.mono (by decide)) (by rfl) T.m_law_way T.k_law_way T.b_law_way .nil passL (pa_cons (pv 0) (pa_cons (pv 4) (pa_cons pe_int pa_nil)))))
  (pss_cons (ps_set (i := 8) sc_law_is_mean.nd rfl (Or.inl rfl) (pe_ifExp (PW.pt (pw_or (pt_cmp (pc_isN (pv 7))) (pw_or1 (pt_cmpR op_eq (pv 5) pe_str (nomark _))))) pe_non (pe_call (ok_law_way T) (hr.mono (by decide)) (by rfl) T.m_law_way T.k_law_way T.b_law_way .nil passL (pa_cons (pv 0) (pa_cons (pv 5) (pa_cons (pe_ix ix_tup (pv 7) pe_int (fun _ _ => rfl)) pa_nil))))))
  (pss_cons (ps_if (PW.pt (pw_or (pt_cmp (pc_isN (pv 8))) (pw_or (pt_cmpR op_ne (pe_ix ix_tup (pv 8) pe_int (fun _ _ => rfl)) (pe_ix ix_tup (pv 7) pe_int (fun _ _ => rfl)) (nomark _)) (pw_or1 (pt_cmpR op_ne (pe_op op_mulW (pe_ix ix_tup (pv 8) pe_int (fun _ _ => rfl)) (pv 3)) (pe_op op_mulW (pv 2) (pe_callB call_len_str (by rfl) T.z_len PySem.boot_len (pa_cons (pv 5) pa_nil))) (nomark _))))))
  (pss_one (ps_ret pe_bl))
  pss_nil)
  (pss_cons (ps_if (PW.pt (pw_or (pt_cmpR op_lt (pv 3) pe_int (nomark _)) (pw_or1 (pt_cmpR op_ne (pe_call (ok_law_gcd_at T 17 (by decide)) (hr.mono (by decide)) (by rfl) T.m_law_gcd T.k_law_gcd T.b_law_gcd .nil passL (pa_cons (pv 2) (pa_cons (pv 3) pa_nil))) pe_int (nomark _)))))
  (pss_one (ps_ret pe_bl))
  pss_nil)
  (pss_cons (ps_set (i := 9) sc_law_is_mean.nd rfl (Or.inl rfl) (pe_call (ok_law_reached T) (hr.mono (by decide)) (by rfl) T.m_law_reached T.k_law_reached T.b_law_reached .nil passL (pa_cons (pv 0) pa_nil)))
  (pss_cons (ps_for PassesOwn.never rfl (pi_list (pv 9)) (pg_name (i := 10) sc_law_is_mean.nd rfl (Or.inl rfl))
  (pss_one (ps_if (PW.pt (pw_or (pt_val (pe_callB call_isi (by rfl) T.z_isinstance (by decide +kernel) (pa_cons (pe_ix ix_tup (pv 6) (pv 10) (fun _ _ => rfl)) (pa_cons (pe_bltn (v := .ty "bool") (by rfl) T.z_bool (by decide +kernel) rfl) pa_nil)))) (pw_or1 (pt_not (pt_val (pe_callB call_isi (by rfl) T.z_isinstance (by decide +kernel) (pa_cons (pe_ix ix_tup (pv 6) (pv 10) (fun _ _ => rfl)) (pa_cons (pe_bltn (v := .ty "int") (by rfl) T.z_int (by decide +kernel) rfl) pa_nil))))))))
  (pss_one (ps_ret pe_bl))
  pss_nil)))
  (pss_cons (ps_for PassesOwn.never rfl (pi_tup (pe_dget (hu_of hr) (pv 0) pe_str (fun _ _ => rfl))) (pg_tup rfl (pgs_cons (pg_name (i := 11) sc_law_is_mean.nd rfl (Or.inl rfl)) (pgs_cons (pg_name (i := 12) sc_law_is_mean.nd rfl (Or.inl rfl)) (pgs_cons (pg_name (i := 13) sc_law_is_mean.nd rfl (Or.inl rfl)) (pgs_cons (pg_name (i := 14) sc_law_is_mean.nd rfl (Or.inl rfl)) pgs_nil)))))
  (pss_one (ps_if (PW.pt (pw_and (pt_cmpR op_in_seq (pv 11) (pv 9) (by rfl)) (pw_and1 (pt_cmpR op_lt (pe_ix ix_tup (pv 6) (pv 13) (fun _ _ => rfl)) (pe_op op_sub (pe_op op_add (pe_ix ix_tup (pv 6) (pv 11) (fun _ _ => rfl)) (pe_op op_mulW (pv 3) (pv 14))) (pv 2)) (nomark _)))))
  (pss_one (ps_ret pe_bl))
  pss_nil)))
  (pss_one (ps_ret pe_bl))))))))))), ?_⟩
    have n8 := o.n8
    have no : ∀ H', Same H H' → ¬ rightB m (some [.int a, .int b]) (.str z1) (.str z2) (some ns) → Q (.bl false) H' := fun H' z n => k false H' z ⟨(fun e => by cases e), fun e => absurd e n⟩
    have nom : ∀ H', Same H H' → ¬ meanB m a b (.str z1) (.str z2) = true → Q (.bl false) H' := fun H' z n => no H' z fun ⟨a', b', ns', e1, _, e3, _⟩ => by
      cases e1
      exact n e3
    walk_at "begin"
    walk_at "go"
    refine k_gt hp rfl ?_
    walk_at "go"
    refine k_gt hq rfl ?_
    walk_at "go"
    refine ⟨d, z1, 0, m, rfl, hd, o, fun e1 H1 y1 => ?_, fun n1 t1 e1 p1 H1 y1 _ ep1 => ?_⟩
    · walk_at "go"
      refine k_yes (by rfl) ?_
      walk_at "go"
      refine k_yes (by rfl) ?_
      walk_at "go"
      exact nom _ y1 fun e => by
        obtain ⟨q', r', h1, _⟩ := mean_iff.mp e
        rw [show run m z1.cps.toList = runW m (0, 0) z1.cps.toList from rfl, e1] at h1
        cases h1
    walk_at "go"
    refine k_no (by rfl) ?_
    walk_at "go"
    have r1 : run m z1.cps.toList = some (n1, t1) := e1
    by_cases ez : z2 = ""
    · refine k_yes (decide_eq_true (by rw [ez])) ?_
      walk_at "go"
      refine k_yes (by rfl) ?_
      walk_at "go"
      exact nom _ y1 fun e => by
        obtain ⟨q', r', _, _, _, h4, _⟩ := mean_iff.mp e
        exact h4 ez
    refine k_no (decide_eq_false (fun z => by injection z with z; exact ez z)) ?_
    walk_at "go"
    refine k_ixT (SqT.of ep1) (v := .int (n1 : Nat)) rfl ?_
    walk_at "go"
    refine ⟨d, z2, n1, m, rfl, hd.same y1, o, fun e2 H2 y2 => ?_, fun n2 t2 e2 p2 H2 y2 _ ep2 => ?_⟩
    · walk_at "go"
      refine k_yes (by rfl) ?_
      walk_at "go"
      exact nom _ (y1.trans y2) fun e => by
        obtain ⟨q', r', h1, h2, _⟩ := mean_iff.mp e
        rw [r1] at h1
        cases h1
        rw [e2] at h2
        cases h2
    have y12 := y1.trans y2
    have ep1 := y2 _ _ ep1
    walk_at "go"
    refine k_no (by rfl) ?_
    walk_at "go"
    refine k_ixT (SqT.of ep2) (v := .int (n2 : Nat)) rfl ?_
    walk_at "go"
    refine k_ixT (SqT.of ep1) (v := .int (n1 : Nat)) rfl ?_
    walk_at "go"
    by_cases c1 : n2 ≠ n1
    · refine k_yes (by rw [decide_eq_false (show ¬ V.int (n2 : Nat) = V.int (n1 : Nat) from fun z => by injection z with z; exact c1 (by omega))]; rfl) ?_
      walk_at "go"
      refine iteT ?_
      walk_at "go"
      exact nom _ y12 fun e => by
        obtain ⟨q', r', h1, h2, h3, _⟩ := mean_iff.mp e
        rw [r1] at h1
        cases h1
        rw [e2] at h2
        cases h2
        exact c1 h3
    obtain rfl : n2 = n1 := Decidable.of_not_not c1
    refine k_no (by rw [decide_eq_true rfl]; rfl) ?_
    walk_at "go"
    refine k_ixT (SqT.of ep2) (v := .int t2) rfl ?_
    walk_at "go"
    obtain ⟨g1, g2⟩ := runW_gain o _ _ _ _ _ e2
    rw [show z2.cps.toList.length = z2.cps.size by simp] at g1 g2
    refine k_I (wide_mul (a := 120) (b := 5) (by omega) (by omega) (by decide) (by decide) (by decide)) ?_
    walk_at "go"
    have zl : z2.length = z2.cps.size := rfl
    refine ⟨z2, rfl, Nat.le_trans (show z2.length ≤ 1000 by omega) (by decide), ?_⟩
    walk_at "go"
    refine k_I (wide_mul (a := 200) (b := 11) ha (by omega) (by decide) (by decide) (by decide)) ?_
    walk_at "go"
    by_cases c2 : t2 * b = a * (z2.cps.size : Int)
    case neg =>
      refine k_yes (by rw [decide_eq_false (show ¬ V.int (t2 * b) = V.int (a * (z2.length : Nat)) from fun z => by injection z with z; exact c2 z)]; rfl) ?_
      walk_at "go"
      exact nom _ y12 fun e => by
        obtain ⟨q', r', h1, h2, _, _, h5⟩ := mean_iff.mp e
        rw [r1] at h1
        cases h1
        rw [e2] at h2
        cases h2
        exact c2 h5
    refine k_no (by rw [decide_eq_true (show V.int (t2 * b) = V.int (a * (z2.length : Nat)) from by rw [zl, c2])]; rfl) ?_
    walk_at "go"
    have mb : meanB m a b (.str z1) (.str z2) = true := mean_iff.mpr ⟨_, _, r1, e2, rfl, ez, c2⟩
    by_cases c3 : b < 1
    · refine k_yes (decide_eq_true c3) ?_
      refine iteT ?_
      walk_at "go"
      exact no _ y12 fun ⟨a', b', ns', e1, e2, _⟩ => by
        cases e1
        have := of_decide_eq_true (Bool.and_eq_true_iff.mp (show (decide (1 ≤ b) && decide (Nat.gcd a.natAbs b.natAbs = 1)) = true from e2)).1
        omega
    refine k_no (decide_eq_false c3) ?_
    walk_at "go"
    refine ⟨a, b, rfl, by omega, by omega, ha, ?_⟩
    walk_at "go"
    by_cases c4 : Nat.gcd a.natAbs b.natAbs = 1
    case neg =>
      refine k_yes (by rw [decide_eq_false (show ¬ V.int ((Nat.gcd a.natAbs b.natAbs : Nat) : Int) = V.int 1 from fun z => by injection z with z; exact c4 (by omega))]; rfl) ?_
      walk_at "go"
      exact no _ y12 fun ⟨a', b', ns', e1, e2, _⟩ => by
        cases e1
        exact c4 (of_decide_eq_true (Bool.and_eq_true_iff.mp (show (decide (1 ≤ b) && decide (Nat.gcd a.natAbs b.natAbs = 1)) = true from e2)).2)
    refine k_no (by rw [decide_eq_true (show V.int ((Nat.gcd a.natAbs b.natAbs : Nat) : Int) = V.int 1 from by rw [c4]; rfl)]; rfl) ?_
    have fb : fracB [.int a, .int b] = true := by
      show (decide (1 ≤ b) && decide (Nat.gcd a.natAbs b.natAbs = 1)) = true
      rw [decide_eq_true (by omega), decide_eq_true c4]
      rfl
    have noN : ∀ H', Same H H' → ¬ NumsOk m a b ns → Q (.bl false) H' := fun H' z n => no H' z fun ⟨a', b', ns', e1, _, _, e4, e5⟩ => by
      cases e1
      cases e4
      exact n e5
    walk_at "go"
    refine ⟨d, m, rfl, hd.same y12, o, fun ql l H3 y3 hq3 eq3 mem asc => ?_⟩
    have y13 := y12.trans y3
    clear y1 y2 y3 ep1 ep2 y12
    walk_at "go"
    refine ⟨ql, rfl, ⟨_, SqL.of eq3⟩, ?_⟩
    refine for_list (xs := nats l) (fun i σ H' => H' = H3 ∧ (∀ n ∈ l.take i, intAt ns n = true) ∧ ∃ c10 c11 c12 c13 c14, σ = [some (.ref d), some (.ref p), some (.int a), some (.int b), some (.str z1), some (.str z2), some (.ref r), some (.ref p1), some (.ref p2), some (.ref ql), c10, c11, c12, c13, c14])
      ⟨rfl, (fun n h => by simp at h), _, _, _, _, _, rfl⟩ (fun i σ H' _ ⟨e, _⟩ => by rw [e]; exact SqL.of eq3) ?_ ?_
    · rintro i y σ H4 hy ⟨rfl, al, c10, c11, c12, c13, c14, rfl⟩
      obtain ⟨n, en, rfl⟩ := nats_at hy
      have nn : n < ns.length := by rw [hl]; exact reach_lt o ((mem n).mp (List.mem_of_getElem? en))
      have es : ns[n]? = some (ns[n]'nn) := List.getElem?_eq_getElem nn
      have ym : ns[n]'nn ∈ ns := List.getElem_mem nn
      have ei : intAt ns n = match ns[n]'nn with | .int _ => true | _ => false := by
        unfold intAt
        rw [es]
        cases ns[n]'nn <;> rfl
      generalize ns[n]'nn = y at es ym ei
      walk_at "go"
      refine k_ixT ((same_tups y13).sq hr') (atI_nat es) ?_
      walk_at "go"
      rcases hw y ym with ⟨i', rfl⟩ | rfl
      · refine k_isi (.ty _) (.base (.int _)) (kit_ty (b := "bool") (r := false) (by decide +kernel)) ?_
        walk_at "go"
        refine iteF ?_
        walk_at "go"
        refine k_ixT ((same_tups y13).sq hr') (atI_nat es) ?_
        walk_at "go"
        refine k_isi (.ty _) (.base (.int _)) (kit_ty (b := "int") (r := true) (by decide +kernel)) ?_
        walk_at "go"
        refine iteF ?_
        walk_at "go"
        refine ⟨rfl, fun n' h' => ?_, _, _, _, _, _, rfl⟩
        rw [List.take_add_one, en] at h'
        rcases List.mem_append.mp h' with h' | h'
        · exact al n' h'
        · rw [show n' = n from by simpa using h', ei]
      · refine k_isi (.ty _) (.base .non) (kit_ty (b := "bool") (r := false) (by decide +kernel)) ?_
        walk_at "go"
        refine iteF ?_
        walk_at "go"
        refine k_ixT ((same_tups y13).sq hr') (atI_nat es) ?_
        walk_at "go"
        refine k_isi (.ty _) (.base .non) (kit_ty (b := "int") (r := false) (by decide +kernel)) ?_
        walk_at "go"
        refine iteT ?_
        walk_at "go"
        exact noN _ y13 fun e => by
          have := e.2.1 n ((mem n).mp (List.mem_of_getElem? en))
          rw [ei] at this
          cases this
    · rintro σ H4 ⟨rfl, al, c10, c11, c12, c13, c14, rfl⟩
      have tl : l.take (nats l).length = l := by unfold nats; rw [List.length_map, List.take_length]
      rw [tl] at al
      have l32 := o.len
      obtain ⟨td, ud, ed, ⟨us, ht, hs⟩, _⟩ := hd.same y13
      walk_at "go"
      refine ⟨d, .ref td, rfl, DGet.k (k := .inr "steps") ed, td, rfl, ⟨us, ht⟩, ?_⟩
      refine for_tup (xs := us) (fun i σ H' => H' = H4 ∧ (∀ s ∈ m.ss.take i, Reach m.ss [0] s.b → stepB a b ns s = true) ∧ ∃ c10 c11 c12 c13 c14, σ = [some (.ref d), some (.ref p), some (.int a), some (.int b), some (.str z1), some (.str z2), some (.ref r), some (.ref p1), some (.ref p2), some (.ref ql), c10, c11, c12, c13, c14])
        ⟨rfl, (fun n h => by simp at h), _, _, _, _, _, rfl⟩ (fun i σ H' _ ⟨e, _⟩ => by rw [e]; exact ht) ?_ ?_
      · rintro i y σ H5 hy ⟨rfl, al2, c10, c11, c12, c13, c14, rfl⟩
        obtain ⟨s0, q0, e0, rfl, hq0⟩ := sts_at hs hy
        have sm : s0 ∈ m.ss := List.mem_of_getElem? e0
        have ok0 := o.ok s0 sm
        have tk : ∀ s, s ∈ m.ss.take (i + 1) ↔ s ∈ m.ss.take i ∨ s = s0 := fun s => by rw [List.take_add_one, e0, List.mem_append]; simp
        refine k_gt hq0 rfl ?_
        unfold stpV
        walk_at "go"
        refine k_in (.inl (SqL.of eq3)) rfl (flat_nats l) ?_
        have e1 : inV (.int (s0.b : Nat)) (nats l) = decide (s0.b ∈ l) := inV_nats s0.b l
        rw [e1]
        walk_at "go"
        by_cases hbl : s0.b ∈ l
        case neg =>
          rw [decide_eq_false hbl]
          refine k_no (by rfl) ?_
          refine iteF ?_
          refine ⟨rfl, fun s hs' hr2 => ?_, _, _, _, _, _, rfl⟩
          rcases (tk s).mp hs' with h' | rfl
          · exact al2 s h' hr2
          · exact absurd ((mem _).mpr hr2) hbl
        rw [decide_eq_true hbl]
        refine k_yes (by rfl) ?_
        have rb := (mem _).mp hbl
        have re : Reach m.ss [0] s0.e := .step sm rb
        have ib := int_at (al _ hbl)
        have ie := int_at (al _ ((mem _).mpr re))
        walk_at "go"
        refine k_ixT ((same_tups y13).sq hr') (atI_nat ie) ?_
        walk_at "go"
        refine k_ixT ((same_tups y13).sq hr') (atI_nat ib) ?_
        walk_at "go"
        refine k_I (wide_mul (a := 5) (b := 100) (by omega) (by have := ok0.g; have := ok0.g'; omega) (by decide) (by decide) (by decide)) ?_
        walk_at "go"
        by_cases c5 : numAt ns s0.e < numAt ns s0.b + b * s0.g - a
        · refine k_yes (decide_eq_true c5) ?_
          walk_at "go"
          exact noN _ y13 fun e => by
            have := of_decide_eq_true (show decide (numAt ns s0.b + (b * s0.g - a) ≤ numAt ns s0.e) = true from e.2.2 s0 sm rb)
            omega
        · refine k_no (decide_eq_false c5) ?_
          refine ⟨rfl, fun s hs' hr2 => ?_, _, _, _, _, _, rfl⟩
          rcases (tk s).mp hs' with h' | rfl
          · exact al2 s h' hr2
          · exact decide_eq_true (by omega)
      · rintro σ H5 ⟨rfl, al2, c10, c11, c12, c13, c14, rfl⟩
        rw [show m.ss.take us.length = m.ss from by rw [hs.1, List.take_length]] at al2
        walk_at "go"
        exact k true _ y13 ⟨fun _ => ⟨a, b, ns, rfl, fb, mb, rfl, hl, fun n h => al n ((mem n).mpr h), al2⟩, fun _ => rfl⟩
end
/-! ### tuples sliced and joined, the whole one among them -/
theorem k_slT {K : PySem.W.Frag} {H : Hp} {Q : VK} {a : Addr} {xs : List V} {lo hi : Option Int} (h : SqT K H a xs) (q : ∀ r H', Same H H' → SqT K H' r (cutV xs lo hi) → Q (.ref r) H') : rSlA K (.ref a) lo hi H Q := by
  refine ⟨a, xs, rfl, h, fun e => q a H (Same.refl _) ?_, fun _ p hp => q p _ (Same.new hp) (SqT.of upd_same)⟩
  have : cutV xs lo hi = xs := by
    unfold cutV
    rw [e.1, e.2, List.drop_zero, Nat.sub_zero, List.take_length]
  rw [this]
  exact h
theorem k_catT {K : PySem.W.Frag} {H : Hp} {Q : VK} {a b : Addr} {xs ys : List V} (ha : SqT K H a xs) (hb : SqT K H b ys) (l : xs.length + ys.length ≤ sizeLine) (q : ∀ r H', Same H H' → SqT K H' r (xs ++ ys) → Q (.ref r) H') : rCatA K (.ref a) (.ref b) H Q := by
  refine ⟨a, b, xs, ys, rfl, rfl, ha, hb, l, fun e => q b H (Same.refl _) (by rw [e]; exact hb), fun _ e => q a H (Same.refl _) (by rw [e, List.append_nil]; exact ha), fun _ _ p hp => q p _ (Same.new hp) (SqT.of upd_same)⟩
theorem cutV_drop (xs : List V) (k : Nat) : cutV xs (some ((k : Nat) : Int)) none = xs.drop k := by
  unfold cutV
  rw [HT.sIx_none, HT.sIx_nat]
  rcases Nat.le_total k xs.length with h | h
  · rw [Nat.min_eq_left h, List.take_of_length_le (by rw [List.length_drop]; exact Nat.le_refl _)]
  · rw [Nat.min_eq_right h, Nat.sub_self, List.take_zero, List.drop_eq_nil_of_le h]
theorem cutV_take (xs : List V) (k : Nat) : cutV xs none (some ((k : Nat) : Int)) = xs.take k := by
  unfold cutV
  rw [HT.sIx_none, HT.sIx_nat, List.drop_zero, Nat.sub_zero]
  rcases Nat.le_total k xs.length with h | h
  · rw [Nat.min_eq_left h]
  · rw [Nat.min_eq_right h, List.take_length, List.take_of_length_le h]
/-! ### the law's own best mean -/
def lvlS1 (s0 : Nat) (sg : Int) (ss : List Stp) (i : Nat) : LF := fun k => (lvlS s0 sg ss i k).map (·.1)
theorem lvlS1_smax (s0 : Nat) (sg : Int) (ss : List Stp) (i k : Nat) : SMax sg (lvlS1 s0 sg ss i) ss k (lvlS1 s0 sg ss (i + 1) k) := by
  have up : ∀ s ∈ ss, ∀ v, lvlS s0 sg ss i s.b = some v → ∃ z, lvlS s0 sg ss (i + 1) s.e = some z ∧ v.1 + sg * s.g ≤ z.1 := fun s hs v ev => by
    obtain ⟨z, ez, nz⟩ := longer_has (sg := sg) ev ss hs fun _ => none
    exact ⟨z, ez, nz.le⟩
  cases e : lvlS s0 sg ss (i + 1) k with
  | none =>
    refine .inl ⟨by unfold lvlS1; rw [e]; rfl, fun s hs hk => ?_⟩
    cases e2 : lvlS s0 sg ss i s.b with
    | none => unfold lvlS1; rw [e2]; rfl
    | some v =>
      obtain ⟨z, ez, _⟩ := up s hs v e2
      rw [hk, e] at ez
      cases ez
  | some y =>
    have at_ := longer_ind (sg := sg) (f := lvlS s0 sg ss i) (ss := ss) (P := fun n y => ∃ s ∈ ss, s.e = n ∧ ∃ u, lvlS1 s0 sg ss i s.b = some u ∧ y.1 = u + sg * s.g) (fun s hs v ev => ⟨s, hs, rfl, v.1, by unfold lvlS1; rw [ev]; rfl, rfl⟩) k y e
    refine .inr ⟨y.1, by unfold lvlS1; rw [e]; rfl, at_, fun s hs hk u eu => ?_⟩
    unfold lvlS1 at eu
    cases e2 : lvlS s0 sg ss i s.b with
    | none => rw [e2] at eu; cases eu
    | some v =>
      rw [e2] at eu
      cases eu
      obtain ⟨z, ez, hz⟩ := up s hs v e2
      rw [hk, e] at ez
      cases ez
      exact hz
theorem KvI.zeroS {s0 : Nat} {sg : Int} {ss : List Stp} : KvI [(.inl (s0 : Int), .int 0)] (lvlS1 s0 sg ss 0) := by
  refine ⟨fun p hp => ⟨s0, by rw [List.mem_singleton.mp hp]⟩, fun n => ?_⟩
  unfold lvlS1 lvlS
  by_cases c : n = s0
  · subst c
    rw [if_pos rfl]
    exact valV_pos (p := ((.inl (n : Int) : Key), V.int 0)) rfl
  · rw [if_neg c]
    have : ¬ (Sum.inl (s0 : Int) : Key) = .inl (n : Int) := fun z => c (by injection z with z; omega)
    exact valV_neg (p := ((.inl (s0 : Int) : Key), V.int 0)) this
theorem mem_loops {m : MD} {s0 : Nat} {sg : Int} {y : Int × Wd} : y ∈ loopsAt m s0 sg ↔ ∃ i, i < m.n ∧ lvlS s0 sg m.ss (i + 1) s0 = some y := by
  constructor
  · intro h
    obtain ⟨i, hi, e⟩ := List.mem_filterMap.mp h
    exact ⟨i, List.mem_range.mp hi, e⟩
  · rintro ⟨i, hi, e⟩
    exact List.mem_filterMap.mpr ⟨i, List.mem_range.mpr hi, e⟩
def LBt (K : PySem.W.Frag) (H : Hp) (v : V) : Bst → Prop
  | none => v = .non
  | some q => ∃ p, v = .ref p ∧ SqT K H p [.int q.2.1, .int (q.2.2.length : Nat)]
theorem LBt.tups {K : PySem.W.Frag} {H H' : Hp} {v : V} {r : Bst} (h : LBt K H v r) (t : Tups H H') : LBt K H' v r := by
  cases r with
  | none => exact h
  | some q => obtain ⟨p, e, z⟩ := h; exact ⟨p, e, t.sq z⟩
def sp_lmean (K : PySem.W.Frag) : Sp := fun vs H Q _ => ∃ (d : Addr) (sg : Int) (m : MD), vs = [.ref d, .int sg] ∧ DAt K H d m ∧ m.Ok ∧ (sg = 1 ∨ sg = -1) ∧ ∀ r v H', Same H H' → BestM m sg r → LBt K H' v r → Q v H'
section
variable {P : Program} {w : World} {K : PySem.W.Frag} {mg : Str → Option Value} {base : Heap}
theorem ok_law_mean (T : Txt K mg) : FnOk P w K mg base (L2.CX P w) 3 T.a_law_mean T.fd_law_mean ["_law_d", "_law_sign"] (sp_lmean K) := by
  refine T.F_law_mean.okX sc_law_mean (fun vs H Q E h => ?_) (fun cdv A outer s H vs Q E hr h => ?_)
  · obtain ⟨d, sg, m, rfl, _⟩ := h
    rfl
  · obtain ⟨d, sg, m, rfl, hd, o, hsg, k⟩ := h
    have n8 := o.n8
    have n1 := o.n1
    refine ⟨_, (PSs.nox (pss_cons (ps_set (i := 2) sc_law_mean.nd rfl (Or.inl rfl) pe_non)
  (pss_cons (ps_for PassesOwn.never rfl (pi_list (pe_call (ok_law_reached T) (hr.mono (by decide)) (by rfl) T.m_law_reached T.k_law_reached T.b_law_reached .nil passL (pa_cons (pv 0) pa_nil))) (pg_name (i := 3) sc_law_mean.nd rfl (Or.inl rfl))
  (pss_cons (ps_set (i := 4) sc_law_mean.nd rfl (Or.inl rfl) (pe_disp (pps_cons (pv 3) pe_int pps_nil) (by rfl) (by rfl) (fun z => by cases z) (by decide)))
  (pss_one (ps_for PassesOwn.never rfl (pi_range2 (by rfl) T.z_range (pa_cons pe_int (pa_cons (pe_op op_add (pe_dget (hu_of hr) (pv 0) pe_str (fun _ _ => rfl)) pe_int) pa_nil))) (pg_name (i := 5) sc_law_mean.nd rfl (Or.inl rfl))
  (pss_cons (ps_set (i := 6) sc_law_mean.nd rfl (Or.inl rfl) pe_dnewK)
  (pss_cons (ps_lock (ps_for PassesOwn.never rfl (pi_keys (pv 4)) (pg_name (i := 7) sc_law_mean.nd rfl (Or.inl rfl))
  (pss_one (ps_for PassesOwn.never rfl (pi_list (pe_call (ok_law_next T) (hr.mono (by decide)) (by rfl) T.m_law_next T.k_law_next T.b_law_next .nil passL (pa_cons (pv 0) (pa_cons (pv 7) pa_nil)))) (pg_tup rfl (pgs_cons (pg_name (i := 8) sc_law_mean.nd rfl (Or.inl rfl)) (pgs_cons (pg_name (i := 9) sc_law_mean.nd rfl (Or.inl rfl)) (pgs_cons (pg_name (i := 10) sc_law_mean.nd rfl (Or.inl rfl)) pgs_nil))))
  (pss_one (ps_if (PW.pt (pw_or (pt_cmp (pc_dnotin (hu_of hr) (pv 9) (pv 6)) (by rfl)) (pw_or1 (pt_cmpR op_gt (pe_op op_add (pe_dget (hu_of hr) (pv 4) (pv 7) (fun _ _ => rfl)) (pe_op op_mulW (pv 1) (pv 10))) (pe_dget (hu_of hr) (pv 6) (pv 9) (fun _ _ => rfl)) (nomark _)))))
  (pss_one (ps_dput (hu_of hr) (pv 6) (pv 9) (pe_op op_add (pe_dget (hu_of hr) (pv 4) (pv 7) (fun _ _ => rfl)) (pe_op op_mulW (pv 1) (pv 10))) rfl))
  pss_nil))))))
  (pss_cons (ps_set (i := 4) sc_law_mean.nd rfl (Or.inl rfl) (pv 6))
  (pss_one (ps_if (PW.pt (pw_and (pt_cmp (pc_din (hu_of hr) (pv 3) (pv 4)) (by rfl)) (pw_and1 (PW.pt (pw_or (pt_cmp (pc_isN (pv 2))) (pw_or1 (pt_cmpR op_gt (pe_op op_mulW (pe_dget (hu_of hr) (pv 4) (pv 3) (fun _ _ => rfl)) (pe_ix ix_tup (pv 2) pe_int (fun _ _ => rfl))) (pe_op op_mulW (pe_ix ix_tup (pv 2) pe_int (fun _ _ => rfl)) (pv 5)) (nomark _))))))))
  (pss_one (ps_set (i := 2) sc_law_mean.nd rfl (Or.inl rfl) (pe_tup (pa_cons (pe_dget (hu_of hr) (pv 4) (pv 3) (fun _ _ => rfl)) (pa_cons (pv 5) pa_nil)))))
  pss_nil)))))))))
  (pss_one (ps_ret (pv 2)))))), ?_⟩
    walk_at "begin"
    walk_at "go"
    refine ⟨d, m, rfl, hd, o, fun q l H1 z1 hq eq mem asc => ?_⟩
    refine ⟨q, rfl, ⟨_, SqL.of eq⟩, for_list (xs := nats l) (fun i σ H' => ∃ (r : Bst) (v : V) (Z : List (Int × Wd)) (a3 a4 a5 a6 a7 a8 a9 a10 : Option V), Same H1 H' ∧ LBt K H' v r ∧ BestZ m sg Z r ∧ (∀ z ∈ Z, 0 < z.2.length) ∧ (∀ b ∈ l.take i, ∀ y ∈ loopsAt m b sg, y ∈ Z) ∧
        σ = [some (.ref d), some (.int sg), some v, a3, a4, a5, a6, a7, a8, a9, a10])
      ⟨none, .non, [], _, _, _, _, _, _, _, _, Same.refl _, rfl, .inl ⟨rfl, rfl⟩, fun z h => absurd h (by simp), fun b h => by simp at h, rfl⟩ (fun _ _ _ _ ⟨_, _, _, _, _, _, _, _, _, _, _, z, _⟩ => SqL.of (z _ _ eq)) ?_ ?_⟩
    · rintro i y σ H2 hy ⟨r, v, Z, a3, a4, a5, a6, a7, a8, a9, a10, z2, hb, bz, pz, cv, rfl⟩
      obtain ⟨n, en, rfl⟩ := nats_at hy
      have rn := (mem n).mp (List.mem_of_getElem? en)
      have nn := reach_lt o rn
      walk_at "go"
      intro h0 hh0
      walk_at "go"
      refine ⟨upd_same, [(.inl (n : Int), .int 0)], rfl, (by decide : 1 ≤ 15), ?_⟩
      have em : mergeK [] [((.inl (n : Int) : Key), V.int 0)] = [(.inl (n : Int), .int 0)] := rfl
      rw [em]
      have hh1 : H1 h0 = none := free_of z2 hh0
      have z3 := Same.mut (o := .dK [(.inl (n : Int), .int 0)]) (z2.trans (Same.new (o := .dK []) hh0)) hh1
      have eh0 := upd_same (H := upd H2 h0 (.dK [])) (a := h0) (o := .dK [((.inl (n : Int) : Key), V.int 0)])
      have t23 : Tups H2 (upd (upd H2 h0 (.dK [])) h0 (.dK [((.inl (n : Int) : Key), V.int 0)])) := (Tups.new (o := .dK []) hh0).trans (Tups.dk upd_same)
      have hb3 := hb.tups t23
      generalize upd (upd H2 h0 (.dK [])) h0 (.dK [((.inl (n : Int) : Key), V.int 0)]) = H3 at z3 eh0 hb3 ⊢
      clear t23 hb z2 hh0 H2
      obtain ⟨td, ud, ed, _⟩ := (hd.same z1).same z3
      walk_at "go"
      refine k_rng2 ?_
      walk_at "go"
      refine ⟨d, .int (m.n : Nat), rfl, DGet.k (k := .inr "stands") ed, ?_⟩
      walk_at "go"
      refine ⟨1, _, rfl, ⟨by decide, by decide, by omega, by omega⟩, ?_⟩
      refine for_range (lo := 1) (n := (((m.n : Nat) : Int) + 1 - 1).toNat) (fun j σ H' => ∃ (r : Bst) (v : V) (Z' : List (Int × Wd)) (h : Addr) (kvs : List (Key × V)) (a5 a6 a7 a8 a9 a10 : Option V), Same H1 H' ∧ LBt K H' v r ∧ BestZ m sg Z' r ∧ (∀ z ∈ Z', 0 < z.2.length) ∧ (∀ z ∈ Z, z ∈ Z') ∧ (∀ z ∈ loopsTo m n sg j, z ∈ Z') ∧ H' h = some (.dK kvs) ∧ KvI kvs (lvlS1 n sg m.ss j) ∧ (kvs.map (·.1)).Nodup ∧ H1 h = none ∧
          σ = [some (.ref d), some (.int sg), some v, some (.int (n : Nat)), some (.ref h), a5, a6, a7, a8, a9, a10])
        ⟨r, v, Z, h0, _, _, _, _, _, _, _, z3, hb3, bz, pz, fun z h => h, (fun z h => by cases h), eh0, KvI.zeroS, (by simp), hh1, rfl⟩ ?_ ?_
      · clear hb3 bz pz z3 eh0 ed hh1 cv h0 em
        rintro j σ H4 hj ⟨r, v, Z', h, kvs, a5, a6, a7, a8, a9, a10, z4, hb, bz, pz, c1, c2, eh, kvh, ndh, nh1, rfl⟩
        have jn : j < m.n := by omega
        walk_at "go"
        intro D hD
        walk_at "go"
        have nDh : D ≠ h := (ne_of_none eh hD).symm
        have eh2 : (upd H4 D (.dK [])) h = some (.dK kvs) := by rw [upd_ne nDh.symm]; exact eh
        refine ⟨h, _, eh2, trivial, fun od => ?_⟩
        obtain ⟨HL, eHL⟩ : ∃ z, z = upd H4 h (.frz od (.dK kvs)) := ⟨_, rfl⟩
        have ltb : ∀ k u, lvlS1 n sg m.ss j k = some u → k < m.n := fun k u e => by
          unfold lvlS1 at e
          cases e2 : lvlS n sg m.ss j k with
          | none => rw [e2] at e; cases e
          | some y =>
            obtain ⟨tt, e3, _⟩ := lvlS_run o _ _ _ e2
            exact runW_lt o _ _ _ _ _ nn e3
        have hD1 : HL D = none := by rw [eHL, upd_ne nDh]; exact hD
        have hL1 : HL h = some (.frz od (.dK kvs)) := by rw [eHL, upd_same]
        have zL : Same HL (upd (upd H4 D (.dK [])) h (.frz od (.dK kvs))) := fun b ob eb => by
          rw [eHL] at eb
          by_cases c : b = h
          · rw [c, upd_same] at eb ⊢; exact eb
          · rw [upd_ne c] at eb ⊢
            rw [upd_ne (ne_of_none eb hD)]
            exact eb
        have eDL : (upd (upd H4 D (.dK [])) h (.frz od (.dK kvs))) D = some (.dK []) := by rw [upd_ne nDh, upd_same]
        have tL : Tups H4 HL := by rw [eHL]; exact Tups.dk eh
        have hdL : DAt K HL d m := by
          obtain ⟨t, u, e, q⟩ := (hd.same z1).same z4
          obtain ⟨t2, u2, e2, _⟩ := hd.same z1
          refine ⟨t, u, ?_, tL.parts q⟩
          rw [eHL, upd_ne ?_]
          · exact e
          · intro c
            rw [c, nh1] at e2
            cases e2
        have hbL := hb.tups tL
        have k8 : kvs.length ≤ 8 := Nat.le_trans (kvh.len ndh ltb) o.n8
        generalize upd (upd H4 D (.dK [])) h (.frz od (.dK kvs)) = H5 at zL eDL ⊢
        walk_at "go"
        refine ⟨_, rfl, h, od, rfl, .inl ⟨kvs, zL _ _ hL1, ?_⟩⟩
        refine for_it walk_keys (fun j' σ H' => ∃ (g : LF) (kvD : List (Key × V)) (PS : List Stp) (a7 a8 a9 a10 : Option V), Same HL H' ∧ H' D = some (.dK kvD) ∧ KvI kvD g ∧ (kvD.map (·.1)).Nodup ∧ (∀ k, SMax sg (lvlS1 n sg m.ss j) PS k (g k)) ∧
            (∀ s, s ∈ PS ↔ s ∈ m.ss ∧ ∃ (j2 : Nat) (v : V), j2 < j' ∧ kvs[j2]? = some ((Sum.inl (s.b : Int) : Key), v)) ∧
            σ = [some (.ref d), some (.int sg), some v, some (.int (n : Nat)), some (.ref h), some (.int (1 + (j : Nat))), some (.ref D), a7, a8, a9, a10])
          ⟨fun _ => none, [], [], _, _, _, _, zL, eDL, ⟨fun p hp => absurd hp (by simp), fun n => rfl⟩, by simp, fun k => .inl ⟨rfl, fun s hs => absurd hs (by simp)⟩, fun s => ⟨fun z => absurd z (by simp), fun ⟨_, j, _, hj, _⟩ => absurd hj (Nat.not_lt_zero _)⟩, rfl⟩
          (fun _ _ _ _ ⟨_, _, _, _, _, _, _, z, _⟩ => z _ _ hL1) ?_ ?_
        · rintro j' x σ H0 H6 hj' ⟨g, kvD, PS, b7, b8, b9, b10, z6, eD6, kvg, ndg, sm, mem2, rfl⟩ ⟨rfl, key, v', hk, rfl⟩
          obtain ⟨k0, un, rfl, fn⟩ := kvh.key (List.mem_of_getElem? hk)
          walk_at "go"
          refine ⟨d, k0, m, rfl, hdL.same z6, o, fun p ns H7 z7 hp ep nx => ?_⟩
          refine ⟨p, rfl, ⟨_, SqL.of ep⟩, for_list (xs := ns) (fun c σ H' => ∃ (g' : LF) (kv' : List (Key × V)) (a8 a9 a10 : Option V), Same HL H' ∧ H' D = some (.dK kv') ∧ KvI kv' g' ∧ (kv'.map (·.1)).Nodup ∧ (∀ k, SMax sg (lvlS1 n sg m.ss j) (PS ++ (fromS m k0).take c) k (g' k)) ∧
              H' p = some (.lst ns) ∧ NxAt K H' ns (fromS m k0) ∧ σ = [some (.ref d), some (.int sg), some v, some (.int (n : Nat)), some (.ref h), some (.int (1 + (j : Nat))), some (.ref D), some (.int (k0 : Nat)), a8, a9, a10])
            ⟨g, kvD, _, _, _, z6.trans z7, z7 _ _ eD6, kvg, ndg, by simpa using sm, ep, nx, rfl⟩ (fun _ _ _ _ ⟨_, _, _, _, _, _, _, _, _, _, e, _⟩ => SqL.of e) ?_ ?_⟩
          · rintro c y σ H8 hc ⟨g', kv', c8, c9, c10, z8, eD8, kvg', nd', sm', ep8, nx8, rfl⟩
            have cl : c < (fromS m k0).length := by rw [← nx8.1]; exact (List.getElem?_eq_some_iff.mp hc).1
            have es : (fromS m k0)[c]? = some ((fromS m k0)[c]'cl) := List.getElem?_eq_getElem cl
            have hs : (fromS m k0)[c]'cl ∈ fromS m k0 := List.getElem_mem cl
            have tk : (fromS m k0).take (c + 1) = (fromS m k0).take c ++ [(fromS m k0)[c]'cl] := by rw [List.take_add_one, es]; rfl
            rw [tk, ← List.append_assoc]
            generalize (fromS m k0)[c]'cl = s0 at es hs
            obtain ⟨hs1, hs2⟩ := mem_fromS'.mp hs
            obtain ⟨q, eq, hq⟩ := nx8.2 _ _ es
            rw [hc] at eq
            cases eq
            have ok0 := o.ok _ hs1
            have fs : lvlS1 n sg m.ss j s0.b = some un := by rw [hs2]; exact fn
            have sn := SMax.snoc sm' fs
            refine k_gt hq rfl ?_
            unfold nxV
            walk_at "go"
            have dr : ∀ {H' : Hp}, Same HL H' → DGet H' h (.int (k0 : Nat)) (some (.int un)) := fun {H'} z => by
              have q : DGet H' h (.int (k0 : Nat)) (valV kvs (.inl (k0 : Int))) := .inl ⟨kvs, .inl (k0 : Int), .inr ⟨od, z _ _ hL1⟩, rfl, rfl⟩
              rw [kvh.2 k0, fn] at q
              exact q
            have dg : DGet H8 D (.int (s0.e : Nat)) (valV kv' (.inl (s0.e : Int))) := DGet.k (k := .inl (s0.e : Int)) eD8
            refine ⟨D, _, rfl, dg, ?_⟩
            walk_at "go"
            have k8' : kv'.length ≤ 8 := Nat.le_trans (kvg'.len nd' fun k u e => by
              rcases sm' k with ⟨e2, _⟩ | ⟨v, e2, ⟨s, hs, hk, u2, eu2, _⟩, _⟩
              · rw [e2] at e; cases e
              · rw [← hk]
                rcases List.mem_append.mp hs with hs | hs
                · exact (o.ok _ ((mem2 s).mp hs).1).e
                · exact (o.ok _ (mem_fromS'.mp (List.mem_of_mem_take hs)).1).e) n8
            have mulW : CMulW sg s0.g := wide_mul (a := 1) (b := 101) (by rcases hsg with rfl | rfl <;> decide) (by have := ok0.g; have := ok0.g'; omega) (by decide) (by decide) (by decide)
            have put : (g' s0.e = none ∨ ∃ y, g' s0.e = some y ∧ y < un + sg * s0.g) → (∃ (g2 : LF) (kv2 : List (Key × V)) (a8 a9 a10 : Option V), Same HL (upd H8 D (.dK (putK kv' (.inl (s0.e : Int)) (.int (un + sg * s0.g))))) ∧ (upd H8 D (.dK (putK kv' (.inl (s0.e : Int)) (.int (un + sg * s0.g))))) D = some (.dK kv2) ∧ KvI kv2 g2 ∧ (kv2.map (·.1)).Nodup ∧ (∀ k, SMax sg (lvlS1 n sg m.ss j) (PS ++ (fromS m k0).take c ++ [s0]) k (g2 k)) ∧
                (upd H8 D (.dK (putK kv' (.inl (s0.e : Int)) (.int (un + sg * s0.g))))) p = some (.lst ns) ∧ NxAt K (upd H8 D (.dK (putK kv' (.inl (s0.e : Int)) (.int (un + sg * s0.g))))) ns (fromS m k0) ∧ [some (V.ref d), some (.int sg), some v, some (.int (n : Nat)), some (.ref h), some (.int (1 + (j : Nat))), some (.ref D), some (.int (k0 : Nat)), some (.str ⟨#[s0.c]⟩), some (.int (s0.e : Nat)), some (.int s0.g)] = [some (V.ref d), some (.int sg), some v, some (.int (n : Nat)), some (.ref h), some (.int (1 + (j : Nat))), some (.ref D), some (.int (k0 : Nat)), a8, a9, a10]) := fun cnd => by
              have npD : p ≠ D := by intro e; rw [e, eD8] at ep8; cases ep8
              refine ⟨_, _, _, _, _, Same.mut z8 hD1, upd_same, kvg'.put s0.e _, putK_nodup _ _ nd', fun k => ?_, by rw [upd_ne npD]; exact ep8, nx8.tups (Tups.dk eD8), rfl⟩
              have q := sn k
              by_cases ck : k = s0.e
              · rw [if_pos ⟨cnd, ck⟩] at q
                show SMax _ _ _ _ (if k = s0.e then _ else _)
                rw [if_pos ck]
                exact q
              · rw [if_neg fun z => ck z.2] at q
                show SMax _ _ _ _ (if k = s0.e then _ else _)
                rw [if_neg ck]
                exact q
            have keep : ¬ (g' s0.e = none ∨ ∃ y, g' s0.e = some y ∧ y < un + sg * s0.g) → ∀ k, SMax sg (lvlS1 n sg m.ss j) (PS ++ (fromS m k0).take c ++ [s0]) k (g' k) := fun cnd k => by
              have q := sn k
              rw [if_neg fun z => cnd z.1] at q
              exact q
            rw [kvg'.2 s0.e] at dg ⊢
            cases eg : g' s0.e with
            | none =>
              refine iteT (iteT ?_)
              walk_at "go"
              refine ⟨h, _, rfl, dr z8, ?_⟩
              walk_at "go"
              refine k_I mulW ?_
              walk_at "go"
              exact ⟨D, _, rfl, DPut.k (k := .inl (s0.e : Int)) eD8 (Nat.lt_of_le_of_lt k8' (by decide)), put (.inl eg)⟩
            | some y =>
              rw [eg] at dg
              refine iteF ?_
              walk_at "go"
              refine ⟨h, _, rfl, dr z8, ?_⟩
              walk_at "go"
              refine k_I mulW ?_
              walk_at "go"
              refine ⟨D, _, rfl, dg, ?_⟩
              walk_at "go"
              refine k_ite (fun cc => ?_) (fun cc => ?_)
              · walk_at "go"
                refine ⟨h, _, rfl, dr z8, ?_⟩
                walk_at "go"
                refine k_I mulW ?_
                walk_at "go"
                exact ⟨D, _, rfl, DPut.k (k := .inl (s0.e : Int)) eD8 (Nat.lt_of_le_of_lt k8' (by decide)), put (.inr ⟨y, eg, cc⟩)⟩
              · walk_at "go"
                exact ⟨g', kv', _, _, _, z8, eD8, kvg', nd', keep (fun z => by
                  rcases z with z | ⟨y', ey, hy⟩
                  · rw [eg] at z; cases z
                  · rw [eg] at ey; cases ey; exact cc hy), ep8, nx8, rfl⟩
          · rintro σ H8 ⟨g', kv', c8, c9, c10, z8, eD8, kvg', nd', sm', ep8, nx8, rfl⟩
            rw [nx8.1, List.take_length] at sm'
            refine ⟨g', kv', _, _, _, _, _, z8, eD8, kvg', nd', sm', fun s => ?_, rfl⟩
            rw [List.mem_append, mem2 s, mem_fromS']
            constructor
            · rintro (⟨h1, j2, v2, hj2, e⟩ | ⟨h1, h2⟩)
              · exact ⟨h1, j2, v2, by omega, e⟩
              · exact ⟨h1, j', v', by omega, by rw [h2]; exact hk⟩
            · rintro ⟨h1, j2, v2, hj2, e⟩
              by_cases cj : j2 = j'
              · rw [cj, hk] at e
                have e' : ((Sum.inl (k0 : Int) : Key), v') = (.inl (s.b : Int), v2) := Option.some.inj e
                exact .inr ⟨h1, ((key_eq k0 s.b).mp (congrArg Prod.fst e')).symm⟩
              · exact .inl ⟨h1, j2, v2, by omega, e⟩
        · rintro σ H6 ⟨g, kvD, PS, b7, b8, b9, b10, z6, eD6, kvg, ndg, sm, mem2, rfl⟩
          refine ⟨z6 _ _ hL1, ?_⟩
          rw [eHL] at z6
          have z7 := unlock_same eh z6
          have eD7 : (upd H6 h (.dK kvs)) D = some (.dK kvD) := by rw [upd_ne nDh]; exact eD6
          have eg : g = lvlS1 n sg m.ss (j + 1) := by
            funext k
            refine (sm k).uniq (lvlS1_smax n sg m.ss j k) fun s hs => ?_
            rw [mem2 s]
            refine ⟨fun z => z.1, fun z => ⟨z, ?_⟩⟩
            cases e : lvlS1 n sg m.ss j s.b with
            | none => exact absurd e hs
            | some u =>
              obtain ⟨j', v', e'⟩ := kvh.has e
              exact ⟨j', v', (List.getElem?_eq_some_iff.mp e').1, e'⟩
          rw [eg] at kvg
          have hb7 := hb.tups (same_tups z7)
          have hDn : H1 D = none := free_of z4 hD
          have z47 := z4.trans z7
          generalize upd H6 h (.dK kvs) = H9 at z7 eD7 hb7 z47 ⊢
          have dn : DGet H9 D (.int (n : Nat)) (valV kvD (.inl (n : Int))) := DGet.k (k := .inl (n : Int)) eD7
          rw [kvg.2 n] at dn
          walk_at "go"
          refine ⟨D, _, rfl, dn, ?_⟩
          cases el : lvlS n sg m.ss (j + 1) n with
          | none =>
            have e1 : lvlS1 n sg m.ss (j + 1) n = none := by unfold lvlS1; rw [el]; rfl
            rw [e1]
            refine ⟨_, rfl, iteF ?_⟩
            refine iteF ?_
            refine ⟨r, v, Z', D, kvD, _, _, _, _, _, _, z47, hb7, bz, pz, c1, fun z hz => ?_, eD7, kvg, ndg, hDn, rfl⟩
            rw [loopsTo_succ, el] at hz
            rcases List.mem_append.mp hz with hz | hz
            · exact c2 z hz
            · cases hz
          | some y0 =>
            have e1 : lvlS1 n sg m.ss (j + 1) n = some y0.1 := by unfold lvlS1; rw [el]; rfl
            rw [e1] at dn ⊢
            have hs : y0 ∈ loopsAt m n sg := mem_loops.mpr ⟨j, jn, el⟩
            have ly := lvlS_len _ _ _ el
            have py := loops_pos o hs
            have sy := loops_small o hsg hs
            have d1 : ∀ z ∈ Z, z ∈ Z' ++ [y0] := fun z h => List.mem_append_left _ (c1 z h)
            have d2 : ∀ z ∈ loopsTo m n sg (j + 1), z ∈ Z' ++ [y0] := fun z hz => by
              rw [loopsTo_succ, el] at hz
              rcases List.mem_append.mp hz with hz | hz
              · exact List.mem_append_left _ (c2 z hz)
              · exact List.mem_append_right _ hz
            have d3 : ∀ z ∈ Z' ++ [y0], 0 < z.2.length := fun z h => by
              rcases List.mem_append.mp h with h | h
              · exact pz z h
              · rw [List.mem_singleton.mp h]; exact py.1
            refine ⟨_, rfl, iteT ?_⟩
            have e5 : (1 : Int) + (j : Nat) = (y0.2.length : Nat) := by omega
            rw [e5]
            walk_at "go"
            cases r with
            | none =>
              cases hb7
              refine k_yes (decide_eq_true rfl) (iteT ?_)
              have bz2 : BestZ m sg (Z' ++ [y0]) (some (n, y0)) := by
                rcases bz with ⟨_, ez⟩ | ⟨s0, y, q, _⟩
                · exact .inr ⟨n, y0, rfl, rn, hs, fun z hz => by
                    rw [ez] at hz
                    rw [List.mem_singleton.mp hz]
                    exact Int.le_refl _⟩
                · cases q
              walk_at "go"
              refine ⟨D, _, rfl, dn, ?_⟩
              walk_at "go"
              refine ⟨by show 2 ≤ sizeLine; decide, fun pt hpt => ?_⟩
              have zt := Same.new (o := .tup [.int y0.1, .int (y0.2.length : Nat)]) hpt
              exact ⟨some (n, y0), .ref pt, Z' ++ [y0], D, kvD, _, _, _, _, _, _, z47.trans zt, ⟨pt, rfl, SqT.of upd_same⟩, bz2, d3, d1, d2, zt _ _ eD7, kvg, ndg, hDn, rfl⟩
            | some q =>
              obtain ⟨p, rfl, hp2⟩ := hb7
              obtain ⟨b0, x0⟩ := q
              rcases bz with ⟨q, _⟩ | ⟨s0, y, q, r0, hx0, al⟩
              · cases q
              cases q
              have px := loops_pos o hx0
              have sx := loops_small o hsg hx0
              refine k_no (decide_eq_false (by simp)) ?_
              walk_at "go"
              refine ⟨D, _, rfl, dn, ?_⟩
              walk_at "go"
              refine k_ixT hp2 (v := .int (x0.2.length : Nat)) rfl ?_
              refine ⟨_, _, rfl, rfl, wide_mul (a := 104) (b := 4) (by omega) (by omega) (by decide) (by decide) (by decide), ?_⟩
              walk_at "go"
              refine k_ixT hp2 (v := .int x0.1) rfl ?_
              walk_at "go"
              refine ⟨_, _, rfl, rfl, wide_mul (a := 104) (b := 4) (by omega) (by omega) (by decide) (by decide) (by decide), ?_⟩
              walk_at "go"
              by_cases c : x0.1 * (y0.2.length : Nat) < y0.1 * (x0.2.length : Nat)
              · refine k_yes (decide_eq_true c) ?_
                have bz2 := best_new o hx0 al rn hs c pz
                walk_at "go"
                refine ⟨D, _, rfl, dn, ?_⟩
                walk_at "go"
                refine ⟨by show 2 ≤ sizeLine; decide, fun pt hpt => ?_⟩
                have zt := Same.new (o := .tup [.int y0.1, .int (y0.2.length : Nat)]) hpt
                exact ⟨some (n, y0), .ref pt, Z' ++ [y0], D, kvD, _, _, _, _, _, _, z47.trans zt, ⟨pt, rfl, SqT.of upd_same⟩, bz2, d3, d1, d2, zt _ _ eD7, kvg, ndg, hDn, rfl⟩
              · refine k_no (decide_eq_false c) ?_
                walk_at "go"
                exact ⟨some (b0, x0), .ref p, Z' ++ [y0], D, kvD, _, _, _, _, _, _, z47, ⟨p, rfl, hp2⟩, .inr ⟨b0, x0, rfl, r0, hx0, fun z hz => by
                  rcases List.mem_append.mp hz with hz | hz
                  · exact al z hz
                  · rw [List.mem_singleton.mp hz]
                    omega⟩, d3, d1, d2, eD7, kvg, ndg, hDn, rfl⟩
      · rintro σ H4 ⟨r, v, Z', h, kvs, a5, a6, a7, a8, a9, a10, z4, hb, bz, pz, c1, c2, eh, kvh, ndh, nh1, rfl⟩
        refine ⟨r, v, Z', _, _, _, _, _, _, _, _, z4, hb, bz, pz, fun b hb2 y hy2 => ?_, rfl⟩
        rw [List.take_add_one, en] at hb2
        rcases List.mem_append.mp hb2 with hb2 | hb2
        · exact c1 y (cv b hb2 y hy2)
        · have : b = n := by simpa using hb2
          subst this
          refine c2 y ?_
          rw [show (((m.n : Nat) : Int) + 1 - 1).toNat = m.n by omega]
          exact hy2
    · rintro σ H2 ⟨r, v, Z, a3, a4, a5, a6, a7, a8, a9, a10, z2, hb, bz, pz, cv, rfl⟩
      have tl : l.take (nats l).length = l := by unfold nats; rw [List.length_map, List.take_length]
      rw [tl] at cv
      walk_at "go"
      refine k r v H2 (z1.trans z2) ?_ hb
      rcases bz with ⟨e, ez⟩ | ⟨s0, y, e, r0, hy, al⟩
      · refine .inl ⟨e, fun b hb2 => List.eq_nil_iff_forall_not_mem.mpr fun y hy => ?_⟩
        have := cv b ((mem b).mpr hb2) y hy
        rw [ez] at this
        cases this
      · exact .inr ⟨s0, y, e, r0, hy, fun b hb2 z hz => al z (cv b ((mem b).mpr hb2) z hz)⟩
end
/-! ### the law's own fraction -/
def sp_lfrac (K : PySem.W.Frag) : Sp := fun vs H Q _ => ∃ (v : V) (sg : Int) (m : MD) (r : Bst), vs = [v, .int sg] ∧ m.Ok ∧ (sg = 1 ∨ sg = -1) ∧ BestM m sg r ∧ LBt K H v r ∧ ∀ v' H', Same H H' → MeanV K H' m sg v' → Q v' H'
theorem mean_uniq {m : MD} {sg a b a' b' : Int} (hsg : sg = 1 ∨ sg = -1) (b0 : 0 < b) (b0' : 0 < b') (u : ∀ s w g, Reach m.ss [0] s → LoopAt m s w g → sg * g * b ≤ sg * a * w.length) (u' : ∀ s w g, Reach m.ss [0] s → LoopAt m s w g → sg * g * b' ≤ sg * a' * w.length)
    (gc : Nat.gcd a.natAbs b.natAbs = 1) (gc' : Nat.gcd a'.natAbs b'.natAbs = 1) (h : ∃ s w g, Reach m.ss [0] s ∧ LoopAt m s w g ∧ g * b = a * w.length) (h' : ∃ s w g, Reach m.ss [0] s ∧ LoopAt m s w g ∧ g * b' = a' * w.length) : a = a' ∧ b = b' := by
  have half : ∀ {a b a' b' : Int}, 0 < b → 0 < b' → (∀ s w g, Reach m.ss [0] s → LoopAt m s w g → sg * g * b' ≤ sg * a' * w.length) → (∃ s w g, Reach m.ss [0] s ∧ LoopAt m s w g ∧ g * b = a * w.length) → sg * a * b' ≤ sg * a' * b := fun {a b a' b'} b0 b0' u' ⟨s, w, g, r, l, e⟩ => by
    have h1 := u' s w g r l
    have lw : 0 < (w.length : Int) := by
      have := List.length_pos_iff.mpr l.1
      omega
    have h2 : sg * g * b' * b ≤ sg * a' * w.length * b := Int.mul_le_mul_of_nonneg_right h1 (Int.le_of_lt b0)
    have e1 : sg * g * b' * b = sg * a * b' * w.length := by
      rw [show sg * g * b' * b = sg * (g * b) * b' by rw [Int.mul_assoc sg g b', Int.mul_assoc sg (g * b') b, Int.mul_assoc g b' b, Int.mul_comm b' b, ← Int.mul_assoc g b b', ← Int.mul_assoc sg (g * b) b'], e, ← Int.mul_assoc, Int.mul_right_comm]
    have e2 : sg * a' * w.length * b = sg * a' * b * w.length := Int.mul_right_comm _ _ _
    rw [e1, e2] at h2
    exact Int.le_of_mul_le_mul_right h2 lw
  have h1 := half b0 b0' u' h
  have h2 := half b0' b0 u h'
  have e : a * b' = a' * b := by
    rcases hsg with rfl | rfl
    · rw [Int.one_mul, Int.one_mul] at h1 h2
      omega
    · have e1 : ∀ x y : Int, -1 * x * y = -(x * y) := fun x y => by rw [Int.neg_mul, Int.one_mul, Int.neg_mul]
      rw [e1, e1] at h1 h2
      omega
  have en : a.natAbs * b'.natAbs = a'.natAbs * b.natAbs := by rw [← Int.natAbs_mul, ← Int.natAbs_mul, e]
  have d1 : b.natAbs ∣ b'.natAbs := by
    have c : Nat.Coprime b.natAbs a.natAbs := by rw [Nat.coprime_comm]; exact gc
    exact c.dvd_of_dvd_mul_left (by rw [en]; exact Nat.dvd_mul_left _ _)
  have d2 : b'.natAbs ∣ b.natAbs := by
    have c : Nat.Coprime b'.natAbs a'.natAbs := by rw [Nat.coprime_comm]; exact gc'
    exact c.dvd_of_dvd_mul_left (by rw [← en]; exact Nat.dvd_mul_left _ _)
  have eb : b = b' := by
    have := Nat.dvd_antisymm d1 d2
    omega
  subst eb
  exact ⟨Int.eq_of_mul_eq_mul_right (by omega) e, rfl⟩
section
variable {P : Program} {w : World} {K : PySem.W.Frag} {mg : Str → Option Value} {base : Heap}
theorem ok_law_fraction (T : Txt K mg) : FnOk P w K mg base (L2.CX P w) 20 T.a_law_fraction T.fd_law_fraction ["_law_pair", "_law_sign"] (sp_lfrac K) := by
  refine T.F_law_fraction.okX sc_law_fraction (fun vs H Q E h => ?_) (fun cdv A outer s H vs Q E hr h => ?_)
  · obtain ⟨v, sg, m, r, rfl, _⟩ := h
    rfl
  · obtain ⟨v, sg, m, r, rfl, o, hsg, bm, hb, k⟩ := h
    have n8 := o.n8
    refine ⟨_, (PSs.nox (pss_cons (ps_if (pt_cmp (pc_isN (pv 0)))
  (pss_one (ps_ret pe_non))
  pss_nil)
  (pss_cons (ps_set (i := 2) sc_law_fraction.nd rfl (Or.inl rfl) (pe_call (ok_law_gcd_at T 17 (by decide)) (hr.mono (by decide)) (by rfl) T.m_law_gcd T.k_law_gcd T.b_law_gcd .nil passL (pa_cons (pe_ix ix_tup (pv 0) pe_int (fun _ _ => rfl)) (pa_cons (pe_ix ix_tup (pv 0) pe_int (fun _ _ => rfl)) pa_nil))))
  (pss_one (ps_ret (pe_tup (pa_cons (pe_op op_fdivW (pe_op op_mulW (pv 1) (pe_ix ix_tup (pv 0) pe_int (fun _ _ => rfl))) (pv 2)) (pa_cons (pe_op op_fdivW (pe_ix ix_tup (pv 0) pe_int (fun _ _ => rfl)) (pv 2)) pa_nil)))))))), ?_⟩
    walk_at "begin"
    walk_at "go"
    cases r with
    | none =>
      cases hb
      refine k_yes (decide_eq_true rfl) ?_
      walk_at "go"
      refine k .non H (Same.refl _) (.inl ⟨rfl, ?_⟩)
      rcases bm with ⟨_, e⟩ | ⟨_, _, q, _⟩
      · exact fun b w g hb hl => mean_none o e w.length b w g (Nat.le_refl _) hb hl
      · cases q
    | some q =>
      obtain ⟨p, rfl, hp⟩ := hb
      rcases bm with ⟨q, _⟩ | ⟨s0, x0, q, r0, hx0, al⟩
      · cases q
      cases q
      have px := loops_pos o hx0
      have sx := loops_small o hsg hx0
      refine k_no (decide_eq_false (by simp)) ?_
      walk_at "go"
      refine k_ixT hp (v := .int x0.1) rfl ?_
      walk_at "go"
      refine k_ixT hp (v := .int (x0.2.length : Nat)) rfl ?_
      walk_at "go"
      refine ⟨_, _, rfl, by omega, by omega, by omega, ?_⟩
      obtain ⟨c, ec⟩ : ∃ c, c = Nat.gcd x0.1.natAbs ((x0.2.length : Nat) : Int).natAbs := ⟨_, rfl⟩
      rw [← ec]
      have cb : c ∣ x0.2.length := by
        have := Nat.gcd_dvd_right x0.1.natAbs ((x0.2.length : Nat) : Int).natAbs
        rw [← ec, Int.natAbs_natCast] at this
        exact this
      have ca : (c : Int) ∣ x0.1 := Int.natAbs_dvd_natAbs.mp (by rw [Int.natAbs_natCast, ec]; exact Nat.gcd_dvd_left _ _)
      have c0 : 0 < c := Nat.pos_of_dvd_of_pos cb px.1
      have c8 : c ≤ 8 := Nat.le_trans (Nat.le_of_dvd px.1 cb) (by omega)
      have cb' : (c : Int) ∣ ((x0.2.length : Nat) : Int) := Int.natCast_dvd_natCast.mpr cb
      have ca' : (c : Int) ∣ sg * x0.1 := Int.dvd_mul_of_dvd_right ca
      walk_at "go"
      refine k_ixT hp (v := .int x0.1) rfl ?_
      refine k_I (wide_mul (a := 1) (b := 104) (by rcases hsg with rfl | rfl <;> decide) (by omega) (by decide) (by decide) (by decide)) ?_
      walk_at "go"
      refine k_I (wide_div (b := 4) (by omega) (by omega) (by decide) (by decide)) ?_
      walk_at "go"
      refine k_ixT hp (v := .int (x0.2.length : Nat)) rfl ?_
      walk_at "go"
      refine k_I (wide_div (b := 4) (by omega) (by omega) (by decide) (by decide)) ?_
      walk_at "go"
      refine ⟨by show 2 ≤ sizeLine; decide, fun p2 hp2 => ?_⟩
      have ea := Int.ediv_mul_cancel ca'
      have eb := Int.ediv_mul_cancel cb'
      have pb : 0 < ((x0.2.length : Nat) : Int) / (c : Int) := Int.ediv_pos_of_pos_of_dvd (by omega) (by omega) cb'
      have sa : (sg * x0.1).natAbs = x0.1.natAbs := by rcases hsg with rfl | rfl <;> omega
      refine k _ _ (Same.new hp2) (mean_of o hsg r0 hx0 al upd_same ea.symm eb.symm (by omega) pb ?_)
      generalize sg * x0.1 / (c : Int) = a' at ea ⊢
      generalize ((x0.2.length : Nat) : Int) / (c : Int) = b' at eb pb ⊢
      have na : a'.natAbs * c = x0.1.natAbs := by rw [← sa, ← ea, Int.natAbs_mul, Int.natAbs_natCast]
      have nb : b'.natAbs * c = ((x0.2.length : Nat) : Int).natAbs := by rw [← eb, Int.natAbs_mul, Int.natAbs_natCast]
      obtain ⟨d, ed⟩ : ∃ d, d = Nat.gcd a'.natAbs b'.natAbs := ⟨_, rfl⟩
      have d1 : d ∣ a'.natAbs := by rw [ed]; exact Nat.gcd_dvd_left _ _
      have d2 : d ∣ b'.natAbs := by rw [ed]; exact Nat.gcd_dvd_right _ _
      have d0 : 0 < d := Nat.pos_of_dvd_of_pos d2 (by omega)
      have dc : d * c ∣ c := by
        have h1 : d * c ∣ x0.1.natAbs := by rw [← na]; exact Nat.mul_dvd_mul_right d1 c
        have h2 : d * c ∣ ((x0.2.length : Nat) : Int).natAbs := by rw [← nb]; exact Nat.mul_dvd_mul_right d2 c
        have h3 := Nat.dvd_gcd h1 h2
        rwa [← ec] at h3
      have le := Nat.le_of_dvd c0 dc
      rw [← ed]
      have : ¬ 2 ≤ d := fun z => by
        have : 2 * c ≤ d * c := Nat.mul_le_mul_right c z
        omega
      omega
end
/-! ### the law -/
theorem mean_same {K : PySem.W.Frag} {H : Hp} {m : MD} {sg : Int} {v v' : V} (hsg : sg = 1 ∨ sg = -1) (h : MeanV K H m sg v) (h' : MeanV K H m sg v') : (v = .non ∧ v' = .non ∧ ∀ b w g, Reach m.ss [0] b → ¬ LoopAt m b w g) ∨ ∃ p p' a b, v = .ref p ∧ v' = .ref p' ∧ SqT K H p [.int a, .int b] ∧ SqT K H p' [.int a, .int b] ∧ 0 < b ∧ b ≤ 8 ∧ Nat.gcd a.natAbs b.natAbs = 1 ∧ (∀ s w g, Reach m.ss [0] s → LoopAt m s w g → sg * g * b ≤ sg * a * w.length) ∧ ∃ s w g, Reach m.ss [0] s ∧ LoopAt m s w g ∧ g * b = a * w.length := by
  rcases h with ⟨e1, h1⟩ | ⟨⟨b1, w1, g1, r1, l1⟩, p, a, b, e1, s1, _, b0, b8, u, gc, at_⟩ <;> rcases h' with ⟨e2, h2⟩ | ⟨⟨b2, w2, g2, r2, l2⟩, p', a', b', e2, s2, _, b0', b8', u', gc', at'⟩
  · exact .inl ⟨e1, e2, h1⟩
  · exact absurd l2 (h1 _ _ _ r2)
  · exact absurd l1 (h2 _ _ _ r1)
  · obtain ⟨rfl, rfl⟩ := mean_uniq hsg b0 b0' u u' gc gc' at_ at'
    exact .inr ⟨p, p', a, b, e1, e2, s1, s2, b0, b8, gc, u, at_⟩
theorem dp_pair {K : PySem.W.Frag} {H : Hp} {p : Addr} {a b : Int} (h : SqT K H p [.int a, .int b]) : Dp K H (.ref p) (.tuple [.int a, .int b]) := .tup h (.cons (.int _) (.cons (.int _) .nil))
theorem pair_sh {a b : Int} : SeqAt.shaped (.tuple [.int a, .int b]) = true := rfl
theorem mean_dp {K : PySem.W.Frag} {H : Hp} {m : MD} {sg : Int} {v v' : V} (hsg : sg = 1 ∨ sg = -1) (h : MeanV K H m sg v) (h' : MeanV K H m sg v') : ∃ d, Dp K H v d ∧ Dp K H v' d ∧ SeqAt.shaped d = true := by
  rcases mean_same hsg h h' with ⟨rfl, rfl, _⟩ | ⟨p, p', a, b, rfl, rfl, s, s', _⟩
  · exact ⟨.none, .non, .non, rfl⟩
  · exact ⟨_, dp_pair s, dp_pair s', pair_sh⟩
theorem sh_refl {d : PyData} (h : SeqAt.shaped d = true) : PyData.eqv d d = true := SeqAt.eqv_refl d (Bool.and_eq_true_iff.mp h).1
theorem paper_right {m : MD} (o : m.Ok) {a b g : Int} {s : Nat} {lead loop : Wd} (b0 : 0 < b) (gc : Nat.gcd a.natAbs b.natAbs = 1) (nu : NoUp m a b) (rl : ∃ t, run m lead = some (s, t)) (lp : LoopAt m s loop g) (ge : g * b = a * loop.length) :
    rightB m (some [.int a, .int b]) (.str (sOf lead)) (.str (sOf loop)) (some ((List.range m.n).map (numV a b m))) := by
  have gt : ∀ k, k < m.n → ((List.range m.n).map (numV a b m))[k]? = some (numV a b m k) := fun k hk => by
    rw [List.getElem?_map, List.getElem?_range hk]
    rfl
  have nat_ : ∀ {k : Nat} {y : Int × Wd}, k < m.n → bst 1 (m.ss.map (ovS a b)) m.n k = some y → intAt ((List.range m.n).map (numV a b m)) k = true ∧ numAt ((List.range m.n).map (numV a b m)) k = y.1 := fun {k y} hk e => by
    have en : numV a b m k = .int y.1 := by unfold numV; rw [e]
    unfold intAt numAt
    rw [gt k hk, en]
    exact ⟨rfl, rfl⟩
  obtain ⟨t, rl⟩ := rl
  refine ⟨a, b, _, rfl, ?_, mean_iff.mpr ⟨(s, t), (s, g), rl, lp.2, rfl, fun e => lp.1 ?_, ?_⟩, rfl, ?_, fun k hk => ?_, fun st hs hr => ?_⟩
  · show (decide (1 ≤ b) && decide (Nat.gcd a.natAbs b.natAbs = 1)) = true
    rw [decide_eq_true (by omega), decide_eq_true gc]
    rfl
  · have : sOf loop = sOf [] := e
    exact sOf_inj this
  · have : ((sOf loop).cps.size : Int) = loop.length := by
      have h := sOf_len loop
      show (((sOf loop).length : Nat) : Int) = _
      rw [h]
    show g * b = a * ((sOf loop).cps.size : Int)
    rw [this]
    exact ge
  · rw [List.length_map, List.length_range]
  · obtain ⟨y, ey⟩ := num_some (a := a) o b0 hk
    exact (nat_ (reach_lt o hk) ey).1
  · obtain ⟨y, z, ey, ez, le⟩ := num_step o b0 nu hs hr
    have ok := o.ok st hs
    exact decide_eq_true (by rw [(nat_ ok.b ey).2, (nat_ ok.e ez).2]; exact le)
theorem nums_el {a b : Int} {m : MD} : ∀ y ∈ (List.range m.n).map (numV a b m), (∃ i, y = .int i) ∨ y = .non := fun y hy => by
  obtain ⟨j, _, rfl⟩ := List.mem_map.mp hy
  unfold numV
  split
  · exact .inl ⟨_, rfl⟩
  · exact .inr rfl
def sp_law (K : PySem.W.Frag) : Sp := fun vs H Q _ => ∃ (sc : Addr) (ns : List Int), vs = [.ref sc] ∧ ScAt K H sc (ns.map V.int) ∧ ns.length ≤ 63 ∧ ∀ H', Q (.bl true) H'
section
variable {P : Program} {w : World} {K : PySem.W.Frag} {mg : Str → Option Value} {base : Heap}
theorem ok_law (T : Txt K mg) : FnOk P w K mg base (L2.CX P w) 30 T.a_law T.fd_law ["_law_script"] (sp_law K) := by
  refine T.F_law.okX sc_law (fun vs H Q E h => ?_) (fun cdv A outer s H vs Q E hr h => ?_)
  · obtain ⟨sc, ns, rfl, _⟩ := h
    rfl
  · obtain ⟨sc, ns, rfl, hsc, hns, k⟩ := h
    refine ⟨_, (PSs.nox (pss_cons (ps_set (i := 1) sc_law.nd rfl (Or.inl rfl) (pe_lst (pa_cons (pv 0) (pa_cons pe_int (pa_cons pe_int (pa_cons pe_int pa_nil))))))
  (pss_cons (ps_for PassesOwn.never rfl (pi_range1 (by rfl) T.z_range (pa_cons pe_int pa_nil)) (pg_name (i := 2) sc_law.nd rfl (Or.inl rfl))
  (pss_cons (ps_set (i := 3) sc_law.nd rfl (Or.inl rfl) (pe_call (ok_law_parts T) (hr.mono (by decide)) (by rfl) T.m_law_parts T.k_law_parts T.b_law_parts .nil passL (pa_cons (pv 1) (pa_cons (pe_ix ix_list (pe_lst (pa_cons pe_int (pa_cons pe_int pa_nil))) (pe_call (ok_law_taken T) (hr.mono (by decide)) (by rfl) T.m_law_taken T.k_law_taken T.b_law_taken .nil passL (pa_cons (pv 1) (pa_cons pe_int pa_nil))) (fun _ _ => rfl)) (pa_cons (pe_ix ix_list (pe_lst (pa_cons pe_int (pa_cons (pe_op op_pow pe_int pe_int) pa_nil))) (pe_call (ok_law_taken T) (hr.mono (by decide)) (by rfl) T.m_law_taken T.k_law_taken T.b_law_taken .nil passL (pa_cons (pv 1) (pa_cons pe_int pa_nil))) (fun _ _ => rfl)) pa_nil)))))
  (pss_cons (ps_set (i := 4) sc_law.nd rfl (Or.inl rfl) (pe_call (ok_law_machine T) (hr.mono (by decide)) (by rfl) T.m_law_machine T.k_law_machine T.b_law_machine .nil passL (pa_cons (pv 3) pa_nil)))
  (pss_cons (ps_set (i := 5) sc_law.nd rfl (Or.inl rfl) (pe_call (ok_law_fraction T) (hr.mono (by decide)) (by rfl) T.m_law_fraction T.k_law_fraction T.b_law_fraction .nil passL (pa_cons (pe_call (ok_law_mean T) (hr.mono (by decide)) (by rfl) T.m_law_mean T.k_law_mean T.b_law_mean .nil passL (pa_cons (pv 3) (pa_cons pe_int pa_nil))) (pa_cons pe_int pa_nil))))
  (pss_cons (ps_if (PW.pt (pw_or (pt_cmpR (op_neD hr.units) (pe_call (ok_greatest_mean T) (hr.mono (by decide)) (by rfl) T.m_greatest_mean T.k_greatest_mean T.b_greatest_mean .nil passL (pa_cons (pv 4) pa_nil)) (pv 5) (nomark _)) (pw_or1 (pt_cmpR (op_neD hr.units) (pe_call (ok_least_mean T) (hr.mono (by decide)) (by rfl) T.m_least_mean T.k_least_mean T.b_least_mean .nil passL (pa_cons (pv 4) pa_nil)) (pe_call (ok_law_fraction T) (hr.mono (by decide)) (by rfl) T.m_law_fraction T.k_law_fraction T.b_law_fraction .nil passL (pa_cons (pe_call (ok_law_mean T) (hr.mono (by decide)) (by rfl) T.m_law_mean T.k_law_mean T.b_law_mean .nil passL (pa_cons (pv 3) (pa_cons (pe_un un_neg pe_int) pa_nil))) (pa_cons (pe_un un_neg pe_int) pa_nil))) (nomark _)))))
  (pss_one (ps_ret pe_bl))
  pss_nil)
  (pss_cons (ps_set (i := 6) sc_law.nd rfl (Or.inl rfl) (pe_call (ok_mean_paper T) (hr.mono (by decide)) (by rfl) T.m_mean_paper T.k_mean_paper T.b_mean_paper .nil passL (pa_cons (pv 4) pa_nil)))
  (pss_cons (ps_if (pt_cmpR op_ne (pe_cmp (pc_isN (pv 6))) (pe_cmp (pc_isN (pv 5))) (nomark _))
  (pss_one (ps_ret pe_bl))
  pss_nil)
  (pss_one (ps_if (pt_cmp (pc_notN (pv 6)))
  (pss_cons (ps_if (PW.pt (pw_or (pt_not (pt_val (pe_callB call_isi (by rfl) T.z_isinstance (by decide +kernel) (pa_cons (pv 6) (pa_cons (pe_bltn (v := .ty "tuple") (by rfl) T.z_tuple (by decide +kernel) rfl) pa_nil))))) (pw_or (pt_cmpR op_ne (pe_callB call_len_seq (by rfl) T.z_len PySem.boot_len (pa_cons (pv 6) pa_nil)) pe_int (nomark _)) (pw_or (pt_cmpR (op_neD hr.units) (pe_ix ix_tup (pv 6) pe_int (fun _ _ => rfl)) (pv 5) (nomark _)) (pw_or1 (pt_not (pt_val (pe_call (ok_law_is_mean T) (hr.mono (by decide)) (by rfl) T.m_law_is_mean T.k_law_is_mean T.b_law_is_mean .nil passL (pa_cons (pv 3) (pa_cons (pv 6) pa_nil))))))))))
  (pss_one (ps_ret pe_bl))
  pss_nil)
  (pss_one (ps_if (PW.pt (pw_or (pt_cmpR op_ne (pe_callB call_len_seq (by rfl) T.z_len PySem.boot_len (pa_cons (pe_ix ix_tup (pv 6) pe_int (fun _ _ => rfl)) pa_nil)) (pe_dget (hu_of hr) (pv 3) pe_str (fun _ _ => rfl)) (nomark _)) (pw_or1 (pt_not (pt_val (pe_call (ok_right_mean T) (hr.mono (by decide)) (by rfl) T.m_right_mean T.k_right_mean T.b_right_mean .nil passL (pa_cons (pv 4) (pa_cons (pv 6) pa_nil))))))))
  (pss_one (ps_ret pe_bl))
  pss_nil)))
  pss_nil)))))))))
  (pss_one (ps_ret pe_bl))))), ?_⟩
    walk_at "begin"
    walk_at "go"
    refine ⟨(by decide : 4 ≤ sizeLine), fun a ha => ?_⟩
    have R1 : RowOk K (upd H a (.lst [.ref sc, .int 0, .int 216, .int 0])) a := ⟨sc, ns, 0, 216, 0, upd_same, hsc.same (Same.new ha), hns, by decide, by decide, by decide⟩
    generalize upd H a (.lst [.ref sc, .int 0, .int 216, .int 0]) = H1 at R1 ⊢
    walk_at "go"
    refine k_rg (by decide) (by decide) ?_
    refine for_range (lo := 0) (n := 2) (fun i σ H' => ∃ b2 b3 b4 b5 b6, RowOk K H' a ∧ σ = [some (.ref sc), some (.ref a), b2, b3, b4, b5, b6]) ⟨_, _, _, _, _, R1, rfl⟩ ?_ ?_
    · rintro i σ H2 hi ⟨b2, b3, b4, b5, b6, R2, rfl⟩
      walk_at "go"
      refine ⟨by show 2 ≤ sizeLine; decide, fun l1 h1 => ?_⟩
      have n1 := R2.ne h1
      have e1 := upd_same (H := H2) (a := l1) (o := .lst [.int 4, .int 8])
      have R3 := R2.same (Same.new (o := .lst [.int 4, .int 8]) h1)
      generalize upd H2 l1 (.lst [.int 4, .int 8]) = H3 at e1 R3 ⊢
      walk_at "go"
      refine ⟨a, 2, rfl, by decide, by decide, R3, fun x H4 x0 x2 R4 k4 => ?_⟩
      obtain ⟨st, est, st1, st8⟩ : ∃ st : Nat, atI [V.int 4, .int 8] x = some (.int (st : Nat)) ∧ 1 ≤ st ∧ st ≤ 8 := by
        have h : x = 0 ∨ x = 1 := by omega
        rcases h with rfl | rfl
        · exact ⟨4, rfl, by decide, by decide⟩
        · exact ⟨8, rfl, by decide, by decide⟩
      refine k_ixL (SqL.of (k4 _ _ n1.symm e1)) est ?_
      clear R2 R3 k4 e1 n1 h1 est x0 x2
      walk_at "go"
      refine k_I (by exact ⟨by decide, by decide, by decide⟩) ?_
      walk_at "go"
      refine ⟨by show 2 ≤ sizeLine; decide, fun l2 h2 => ?_⟩
      have n2 := R4.ne h2
      have e2 := upd_same (H := H4) (a := l2) (o := .lst [.int 3, .int (10 ^ Int.toNat 29)])
      have R5 := R4.same (Same.new (o := .lst [.int 3, .int (10 ^ Int.toNat 29)]) h2)
      generalize upd H4 l2 (.lst [.int 3, .int (10 ^ Int.toNat 29)]) = H5 at e2 R5 ⊢
      walk_at "go"
      refine ⟨a, 2, rfl, by decide, by decide, R5, fun y H6 y0 y2 R6 k6 => ?_⟩
      obtain ⟨sz, hsz, z0, z1⟩ : ∃ sz : Int, atI [V.int 3, V.int (10 ^ Int.toNat 29)] y = some (.int sz) ∧ 0 ≤ sz ∧ 2 * sz + 1 ≤ 10 ^ 30 := by
        have : y = 0 ∨ y = 1 := by omega
        rcases this with rfl | rfl
        · exact ⟨3, rfl, by decide, by decide⟩
        · exact ⟨10 ^ Int.toNat 29, rfl, by decide, by decide⟩
      refine k_ixL (SqL.of (k6 _ _ n2.symm e2)) hsz ?_
      clear R4 R5 k6 e2 n2 h2 hsz y0 y2
      walk_at "go"
      refine ⟨a, st, sz, rfl, st1, st8, z0, z1, R6, fun d m H7 o _ _ hd R7 _ _ => ?_⟩
      clear R6
      walk_at "go"
      refine ⟨d, m, rfl, hd, o, fun mc H8 y8 hmc hm => ?_⟩
      have R8 := R7.same y8
      have hd8 := hd.same y8
      clear R7 hd y8 hmc
      have n8 := o.n8
      walk_at "go"
      refine ⟨d, 1, m, rfl, hd8, o, .inl rfl, fun r v H9 y9 bm hb => ?_⟩
      walk_at "go"
      refine ⟨v, 1, m, r, rfl, o, .inl rfl, bm, hb, fun due H10 y10 hdue => ?_⟩
      have R10 := (R8.same y9).same y10
      have hd10 := (hd8.same y9).same y10
      have hm10 := (hm.same y9).same y10
      clear R8 hd8 hm y9 y10 bm hb
      walk_at "go"
      refine ⟨mc, m, rfl, hm10, o, fun gm H11 y11 hgm => ?_⟩
      have hdue11 := hdue.tups (same_tups y11)
      have hd11 := hd10.same y11
      have hm11 := hm10.same y11
      have R11 := R10.same y11
      clear R10 hd10 hm10 y11 hdue
      walk_at "go"
      obtain ⟨dd, dp1, dp2, sh⟩ := mean_dp (.inl rfl) hgm hdue11
      refine k_neD dp1 dp2 sh sh ?_
      rw [sh_refl sh]
      walk_at "go"
      refine iteF ?_
      clear dp1 dp2 sh dd hgm
      walk_at "go"
      refine ⟨mc, m, rfl, hm11, o, fun lm H12 y12 hlm => ?_⟩
      walk_at "go"
      refine ⟨d, -1, m, rfl, hd11.same y12, o, .inr rfl, fun r v H13 y13 bm hb => ?_⟩
      walk_at "go"
      refine ⟨v, -1, m, r, rfl, o, .inr rfl, bm, hb, fun due2 H14 y14 hdue2 => ?_⟩
      have y15 := (y12.trans y13).trans y14
      obtain ⟨dd, dp1, dp2, sh⟩ := mean_dp (.inr rfl) (hlm.tups (same_tups (y13.trans y14))) hdue2
      have R14 := R11.same y15
      have hd14 := hd11.same y15
      have hm14 := hm11.same y15
      have hdue14 := hdue11.tups (same_tups y15)
      refine k_neD dp1 dp2 sh sh ?_
      rw [sh_refl sh]
      walk_at "go"
      refine iteF ?_
      clear dp1 dp2 sh dd hlm hdue2 y12 y13 y14 y15 R11 hd11 hm11 hdue11 bm hb
      walk_at "go"
      refine ⟨mc, m, rfl, hm14, o, fun H15 z5 nl => ?_, fun p0 q0 r0 H15 av bv s0 g0 lead loop z5 _ ep eq er b0 b8 a0 a1 gc nu ll rl lp ge l2 => ?_⟩
      · have R15 := R14.same z5
        have du : due = .non := by
          rcases hdue14 with ⟨e, _⟩ | ⟨⟨b, w, g, r, l⟩, _⟩
          · exact e
          · exact absurd l (nl _ _ _ r)
        subst du
        walk_at "go"
        refine k_no (by rw [decide_eq_true rfl]; rfl) ?_
        walk_at "go"
        refine k_no (by rfl) ?_
        exact ⟨_, _, _, _, _, R15, rfl⟩
      · have R15 := R14.same z5
        have hd15 := hd14.same z5
        have hm15 := hm14.same z5
        have du : ∃ pd, due = .ref pd ∧ SqT K H15 pd [.int av, .int bv] := by
          rcases hdue14 with ⟨_, nl⟩ | ⟨_, pd, a', b', e, sd, _, b0', b8', u', gc', at'⟩
          · obtain ⟨tt, rl⟩ := rl
            exact absurd lp (nl _ _ _ (run_reach _ _ _ _ rfl rl))
          · obtain ⟨tt, rl'⟩ := id rl
            obtain ⟨rfl, rfl⟩ := mean_uniq (.inl rfl) b0 b0' (fun s w g r l => by rw [Int.one_mul, Int.one_mul]; exact nu s w g r l) u' gc gc' ⟨s0, loop, g0, run_reach _ _ _ _ rfl rl', lp, ge⟩ at'
            exact ⟨pd, e, (same_tups z5).sq sd⟩
        obtain ⟨pd, rfl, sd⟩ := du
        have rt := paper_right o b0 gc nu rl lp ge
        have ens := nums_el (a := av) (b := bv) (m := m)
        have lns : ((List.range m.n).map (numV av bv m)).length = m.n := by rw [List.length_map, List.length_range]
        clear R14 hd14 hm14 hdue14 z5
        generalize (List.range m.n).map (numV av bv m) = nsv at er rt ens lns
        walk_at "go"
        refine k_no (by rw [decide_eq_false (show ¬ V.ref p0 = .non from fun z => nomatch z), decide_eq_false (show ¬ V.ref pd = .non from fun z => nomatch z), decide_eq_true rfl]; rfl) ?_
        walk_at "go"
        refine k_yes (by rfl) ?_
        walk_at "go"
        refine k_isi (.ty _) (ty_tup (SqT.of ep)) (kit_ty (b := "tuple") (r := true) (by decide +kernel)) ?_
        walk_at "go"
        refine iteF ?_
        walk_at "go"
        refine k_len (.inr (SqT.of ep)) ?_
        walk_at "go"
        refine k_no (by rfl) ?_
        walk_at "go"
        refine k_ixT (SqT.of ep) (v := .ref q0) rfl ?_
        walk_at "go"
        refine k_neD (dp_pair (SqT.of eq)) (dp_pair sd) pair_sh pair_sh ?_
        rw [sh_refl pair_sh]
        walk_at "go"
        refine iteF ?_
        walk_at "go"
        have l1 : (sOf lead).cps.size ≤ 1000 := show (sOf lead).length ≤ 1000 by rw [sOf_len]; omega
        have l2' : (sOf loop).cps.size ≤ 1000 := show (sOf loop).length ≤ 1000 by rw [sOf_len]; omega
        refine ⟨d, p0, q0, r0, sOf lead, sOf loop, av, bv, nsv, m, rfl, hd15, o, SqT.of ep, SqT.of eq, SqT.of er, lns, ens, by omega, by omega, by omega, l1, l2', fun c H16 y16 hc => ?_⟩
        have ct : c = true := hc.mpr rt
        subst ct
        walk_at "go"
        refine iteF ?_
        have ep16 := y16 _ _ ep
        have eq16 := y16 _ _ eq
        have er16 := y16 _ _ er
        have R16 := R15.same y16
        have hm16 := hm15.same y16
        obtain ⟨td, ud, ed, _⟩ := hd15.same y16
        walk_at "go"
        refine k_ixT (SqT.of ep16) (v := .ref r0) rfl ?_
        walk_at "go"
        refine k_len (.inr (SqT.of er16)) ?_
        walk_at "go"
        refine ⟨d, .int (m.n : Nat), rfl, DGet.k (k := .inr "stands") ed, ?_⟩
        walk_at "go"
        refine k_no (by rw [lns, decide_eq_true rfl]; rfl) ?_
        walk_at "go"
        refine ⟨mc, _, m, rfl, hm16, o, .inr (.inr ⟨p0, _, _, _, _, some [.int av, .int bv], some nsv, rfl, SqT.of ep16, .inr ⟨q0, _, rfl, SqT.of eq16, fun w hw H' _ => ?_, rfl⟩, .inl ⟨_, rfl, l1⟩, .inl ⟨_, rfl, l2'⟩, .inr ⟨r0, _, rfl, SqT.of er16, fun w hw H' _ => ?_, rfl⟩, fun x' y' e => ?_, fun c H' z hc => ?_⟩)⟩
        · simp only [List.mem_cons, List.not_mem_nil, or_false] at hw
          rcases hw with rfl | rfl <;> exact .inl ⟨_, rfl⟩
        · rcases ens w hw with h | rfl
          · exact .inl h
          · exact .inr ⟨.inr ⟨_, .base .non, kit_ty (b := "int") (r := false) (by decide +kernel)⟩, fun _ z => nomatch z⟩
        · cases e
          exact ⟨by omega, by omega, fun _ => b8⟩
        · have ct : c = true := hc.mpr rt
          subst ct
          walk_at "go"
          refine iteF ?_
          exact ⟨_, _, _, _, _, R16.same z, rfl⟩
    · rintro σ H2 ⟨b2, b3, b4, b5, b6, R2, rfl⟩
      walk_at "go"
      exact k _
end
/-! ### what the written part says -/
theorem exc_self {K : PySem.W.Frag} {S : Addr} (hb : PySem.W.subIn K (.ref S) (.type "BaseException") = some true) (hc : PySem.W.isClsIn K S = true) (ht : PySem.W.typeIn K (.ref S) = some (.type "type")) (hs : PySem.W.subIn K (.ref S) (.ref S) = some true) : PySem.W.exmOne K (.ref S) (.ref S) = some true := by
  have hc' : (PySem.W.clsIn K S).isSome = true := hc
  unfold PySem.W.exmOne PySem.W.kitCls
  simp only [hb, ht, hc', hs, beq_self_eq_true, Bool.and_self, if_true]
theorem bb_led_to (kV doc pm : Value) (an : Option Addr) (cdv ct : Value) (us : List Value) (hl : us.length = 2) : bindArgs (PySem.W.fnOf "led_to" "led_to" (defArgs s_led_to) (defBody s_led_to) (defScope s_led_to) .none kV doc pm an cdv ct) ⟨us, []⟩ = pure ((["steps", "begins"] : List Str).zip us) := match us, hl with | [_, _], _ => rfl
theorem bb_longer_rows (kV doc pm : Value) (an : Option Addr) (cdv ct : Value) (us : List Value) (hl : us.length = 3) : bindArgs (PySem.W.fnOf "longer_rows" "longer_rows" (defArgs s_longer_rows) (defBody s_longer_rows) (defScope s_longer_rows) .none kV doc pm an cdv ct) ⟨us, []⟩ = pure ((["steps", "sign", "rows"] : List Str).zip us) := match us, hl with | [_, _, _], _ => rfl
theorem bb_improved (kV doc pm : Value) (an : Option Addr) (cdv ct : Value) (us : List Value) (hl : us.length = 2) : bindArgs (PySem.W.fnOf "_improved" "_improved" (defArgs s_improved) (defBody s_improved) (defScope s_improved) .none kV doc pm an cdv ct) ⟨us, []⟩ = pure ((["rows", "best"] : List Str).zip us) := match us, hl with | [_, _], _ => rfl
theorem bb_best_rows (kV doc pm : Value) (an : Option Addr) (cdv ct : Value) (us : List Value) (hl : us.length = 3) : bindArgs (PySem.W.fnOf "best_rows" "best_rows" (defArgs s_best_rows) (defBody s_best_rows) (defScope s_best_rows) .none kV doc pm an cdv ct) ⟨us, []⟩ = pure ((["many", "steps", "sign"] : List Str).zip us) := match us, hl with | [_, _, _], _ => rfl
theorem bb_shortest_rows (kV doc pm : Value) (an : Option Addr) (cdv ct : Value) (us : List Value) (hl : us.length = 2) : bindArgs (PySem.W.fnOf "shortest_rows" "shortest_rows" (defArgs s_shortest_rows) (defBody s_shortest_rows) (defScope s_shortest_rows) .none kV doc pm an cdv ct) ⟨us, []⟩ = pure ((["many", "steps"] : List Str).zip us) := match us, hl with | [_, _], _ => rfl
theorem bb_best_loops (kV doc pm : Value) (an : Option Addr) (cdv ct : Value) (us : List Value) (hl : us.length = 4) : bindArgs (PySem.W.fnOf "best_loops" "best_loops" (defArgs s_best_loops) (defBody s_best_loops) (defScope s_best_loops) .none kV doc pm an cdv ct) ⟨us, []⟩ = pure ((["many", "steps", "stand", "sign"] : List Str).zip us) := match us, hl with | [_, _, _, _], _ => rfl
theorem bb_Machine_init (kV doc pm : Value) (an : Option Addr) (cdv ct : Value) (us : List Value) (hl : us.length = 4) : bindArgs (PySem.W.fnOf "__init__" "Machine.__init__" (defArgs s_Machine_init) (defBody s_Machine_init) (defScope s_Machine_init) .none kV doc pm an cdv ct) ⟨us, []⟩ = pure ((["self", "stands", "steps", "ends"] : List Str).zip us) := match us, hl with | [_, _, _, _], _ => rfl
theorem bb_Machine_stands (kV doc pm : Value) (an : Option Addr) (cdv ct : Value) (us : List Value) (hl : us.length = 1) : bindArgs (PySem.W.fnOf "stands" "Machine.stands" (defArgs s_Machine_stands) (defBody s_Machine_stands) (defScope s_Machine_stands) .none kV doc pm an cdv ct) ⟨us, []⟩ = pure ((["self"] : List Str).zip us) := match us, hl with | [_], _ => rfl
theorem bb_Machine_steps (kV doc pm : Value) (an : Option Addr) (cdv ct : Value) (us : List Value) (hl : us.length = 1) : bindArgs (PySem.W.fnOf "steps" "Machine.steps" (defArgs s_Machine_steps) (defBody s_Machine_steps) (defScope s_Machine_steps) .none kV doc pm an cdv ct) ⟨us, []⟩ = pure ((["self"] : List Str).zip us) := match us, hl with | [_], _ => rfl
theorem bb_Machine_ends (kV doc pm : Value) (an : Option Addr) (cdv ct : Value) (us : List Value) (hl : us.length = 1) : bindArgs (PySem.W.fnOf "ends" "Machine.ends" (defArgs s_Machine_ends) (defBody s_Machine_ends) (defScope s_Machine_ends) .none kV doc pm an cdv ct) ⟨us, []⟩ = pure ((["self"] : List Str).zip us) := match us, hl with | [_], _ => rfl
theorem bb_is_whole_number (kV doc pm : Value) (an : Option Addr) (cdv ct : Value) (us : List Value) (hl : us.length = 1) : bindArgs (PySem.W.fnOf "is_whole_number" "is_whole_number" (defArgs s_is_whole_number) (defBody s_is_whole_number) (defScope s_is_whole_number) .none kV doc pm an cdv ct) ⟨us, []⟩ = pure ((["value"] : List Str).zip us) := match us, hl with | [_], _ => rfl
theorem bb_is_integer_between (kV doc pm : Value) (an : Option Addr) (cdv ct : Value) (us : List Value) (hl : us.length = 3) : bindArgs (PySem.W.fnOf "is_integer_between" "is_integer_between" (defArgs s_is_integer_between) (defBody s_is_integer_between) (defScope s_is_integer_between) .none kV doc pm an cdv ct) ⟨us, []⟩ = pure ((["value", "least", "most"] : List Str).zip us) := match us, hl with | [_, _, _], _ => rfl
theorem bb_is_stand (kV doc pm : Value) (an : Option Addr) (cdv ct : Value) (us : List Value) (hl : us.length = 2) : bindArgs (PySem.W.fnOf "_is_stand" "_is_stand" (defArgs s_is_stand) (defBody s_is_stand) (defScope s_is_stand) .none kV doc pm an cdv ct) ⟨us, []⟩ = pure ((["stands", "value"] : List Str).zip us) := match us, hl with | [_, _], _ => rfl
theorem bb_check_stands (kV doc pm : Value) (an : Option Addr) (cdv ct : Value) (us : List Value) (hl : us.length = 1) : bindArgs (PySem.W.fnOf "_check_stands" "_check_stands" (defArgs s_check_stands) (defBody s_check_stands) (defScope s_check_stands) .none kV doc pm an cdv ct) ⟨us, []⟩ = pure ((["stands"] : List Str).zip us) := match us, hl with | [_], _ => rfl
theorem bb_is_step (kV doc pm : Value) (an : Option Addr) (cdv ct : Value) (us : List Value) (hl : us.length = 2) : bindArgs (PySem.W.fnOf "_is_step" "_is_step" (defArgs s_is_step) (defBody s_is_step) (defScope s_is_step) .none kV doc pm an cdv ct) ⟨us, []⟩ = pure ((["stands", "value"] : List Str).zip us) := match us, hl with | [_, _], _ => rfl
theorem bb_check_steps (kV doc pm : Value) (an : Option Addr) (cdv ct : Value) (us : List Value) (hl : us.length = 2) : bindArgs (PySem.W.fnOf "_check_steps" "_check_steps" (defArgs s_check_steps) (defBody s_check_steps) (defScope s_check_steps) .none kV doc pm an cdv ct) ⟨us, []⟩ = pure ((["stands", "steps"] : List Str).zip us) := match us, hl with | [_, _], _ => rfl
theorem bb_is_ascending (kV doc pm : Value) (an : Option Addr) (cdv ct : Value) (us : List Value) (hl : us.length = 2) : bindArgs (PySem.W.fnOf "is_ascending" "is_ascending" (defArgs s_is_ascending) (defBody s_is_ascending) (defScope s_is_ascending) .none kV doc pm an cdv ct) ⟨us, []⟩ = pure ((["value", "many"] : List Str).zip us) := match us, hl with | [_, _], _ => rfl
theorem bb_check_ends (kV doc pm : Value) (an : Option Addr) (cdv ct : Value) (us : List Value) (hl : us.length = 2) : bindArgs (PySem.W.fnOf "_check_ends" "_check_ends" (defArgs s_check_ends) (defBody s_check_ends) (defScope s_check_ends) .none kV doc pm an cdv ct) ⟨us, []⟩ = pure ((["stands", "ends"] : List Str).zip us) := match us, hl with | [_, _], _ => rfl
theorem bb_check_machine (kV doc pm : Value) (an : Option Addr) (cdv ct : Value) (us : List Value) (hl : us.length = 1) : bindArgs (PySem.W.fnOf "check_machine" "check_machine" (defArgs s_check_machine) (defBody s_check_machine) (defScope s_check_machine) .none kV doc pm an cdv ct) ⟨us, []⟩ = pure ((["value"] : List Str).zip us) := match us, hl with | [_], _ => rfl
theorem bb_moves_of (kV doc pm : Value) (an : Option Addr) (cdv ct : Value) (us : List Value) (hl : us.length = 1) : bindArgs (PySem.W.fnOf "moves_of" "moves_of" (defArgs s_moves_of) (defBody s_moves_of) (defScope s_moves_of) .none kV doc pm an cdv ct) ⟨us, []⟩ = pure ((["machine"] : List Str).zip us) := match us, hl with | [_], _ => rfl
theorem bb_way (kV doc pm : Value) (an : Option Addr) (cdv ct : Value) (us : List Value) (hl : us.length = 3) : bindArgs (PySem.W.fnOf "way" "way" (defArgs s_way) (defBody s_way) (defScope s_way) .none kV doc pm an cdv ct) ⟨us, []⟩ = pure ((["machine", "stand", "value"] : List Str).zip us) := match us, hl with | [_, _, _], _ => rfl
theorem bb_gain_of_loop (kV doc pm : Value) (an : Option Addr) (cdv ct : Value) (us : List Value) (hl : us.length = 3) : bindArgs (PySem.W.fnOf "gain_of_loop" "gain_of_loop" (defArgs s_gain_of_loop) (defBody s_gain_of_loop) (defScope s_gain_of_loop) .none kV doc pm an cdv ct) ⟨us, []⟩ = pure ((["machine", "lead", "loop"] : List Str).zip us) := match us, hl with | [_, _, _], _ => rfl
theorem bb_reached (kV doc pm : Value) (an : Option Addr) (cdv ct : Value) (us : List Value) (hl : us.length = 1) : bindArgs (PySem.W.fnOf "reached" "reached" (defArgs s_reached) (defBody s_reached) (defScope s_reached) .none kV doc pm an cdv ct) ⟨us, []⟩ = pure ((["machine"] : List Str).zip us) := match us, hl with | [_], _ => rfl
theorem bb_best_loop (kV doc pm : Value) (an : Option Addr) (cdv ct : Value) (us : List Value) (hl : us.length = 2) : bindArgs (PySem.W.fnOf "_best_loop" "_best_loop" (defArgs s_best_loop) (defBody s_best_loop) (defScope s_best_loop) .none kV doc pm an cdv ct) ⟨us, []⟩ = pure ((["machine", "sign"] : List Str).zip us) := match us, hl with | [_, _], _ => rfl
theorem bb_fraction (kV doc pm : Value) (an : Option Addr) (cdv ct : Value) (us : List Value) (hl : us.length = 2) : bindArgs (PySem.W.fnOf "_fraction" "_fraction" (defArgs s_fraction) (defBody s_fraction) (defScope s_fraction) .none kV doc pm an cdv ct) ⟨us, []⟩ = pure ((["over", "under"] : List Str).zip us) := match us, hl with | [_, _], _ => rfl
theorem bb_best_mean (kV doc pm : Value) (an : Option Addr) (cdv ct : Value) (us : List Value) (hl : us.length = 2) : bindArgs (PySem.W.fnOf "_best_mean" "_best_mean" (defArgs s_best_mean) (defBody s_best_mean) (defScope s_best_mean) .none kV doc pm an cdv ct) ⟨us, []⟩ = pure ((["machine", "sign"] : List Str).zip us) := match us, hl with | [_, _], _ => rfl
theorem bb_greatest_mean (kV doc pm : Value) (an : Option Addr) (cdv ct : Value) (us : List Value) (hl : us.length = 1) : bindArgs (PySem.W.fnOf "greatest_mean" "greatest_mean" (defArgs s_greatest_mean) (defBody s_greatest_mean) (defScope s_greatest_mean) .none kV doc pm an cdv ct) ⟨us, []⟩ = pure ((["machine"] : List Str).zip us) := match us, hl with | [_], _ => rfl
theorem bb_least_mean (kV doc pm : Value) (an : Option Addr) (cdv ct : Value) (us : List Value) (hl : us.length = 1) : bindArgs (PySem.W.fnOf "least_mean" "least_mean" (defArgs s_least_mean) (defBody s_least_mean) (defScope s_least_mean) .none kV doc pm an cdv ct) ⟨us, []⟩ = pure ((["machine"] : List Str).zip us) := match us, hl with | [_], _ => rfl
theorem bb_steps_over (kV doc pm : Value) (an : Option Addr) (cdv ct : Value) (us : List Value) (hl : us.length = 3) : bindArgs (PySem.W.fnOf "_steps_over" "_steps_over" (defArgs s_steps_over) (defBody s_steps_over) (defScope s_steps_over) .none kV doc pm an cdv ct) ⟨us, []⟩ = pure ((["machine", "over", "under"] : List Str).zip us) := match us, hl with | [_, _, _], _ => rfl
theorem bb_numbers (kV doc pm : Value) (an : Option Addr) (cdv ct : Value) (us : List Value) (hl : us.length = 3) : bindArgs (PySem.W.fnOf "_numbers" "_numbers" (defArgs s_numbers) (defBody s_numbers) (defScope s_numbers) .none kV doc pm an cdv ct) ⟨us, []⟩ = pure ((["machine", "over", "under"] : List Str).zip us) := match us, hl with | [_, _, _], _ => rfl
theorem bb_mean_paper (kV doc pm : Value) (an : Option Addr) (cdv ct : Value) (us : List Value) (hl : us.length = 1) : bindArgs (PySem.W.fnOf "mean_paper" "mean_paper" (defArgs s_mean_paper) (defBody s_mean_paper) (defScope s_mean_paper) .none kV doc pm an cdv ct) ⟨us, []⟩ = pure ((["machine"] : List Str).zip us) := match us, hl with | [_], _ => rfl
theorem bb_is_fraction (kV doc pm : Value) (an : Option Addr) (cdv ct : Value) (us : List Value) (hl : us.length = 1) : bindArgs (PySem.W.fnOf "_is_fraction" "_is_fraction" (defArgs s_is_fraction) (defBody s_is_fraction) (defScope s_is_fraction) .none kV doc pm an cdv ct) ⟨us, []⟩ = pure ((["value"] : List Str).zip us) := match us, hl with | [_], _ => rfl
theorem bb_is_mean_of (kV doc pm : Value) (an : Option Addr) (cdv ct : Value) (us : List Value) (hl : us.length = 4) : bindArgs (PySem.W.fnOf "_is_mean_of" "_is_mean_of" (defArgs s_is_mean_of) (defBody s_is_mean_of) (defScope s_is_mean_of) .none kV doc pm an cdv ct) ⟨us, []⟩ = pure ((["machine", "mean", "lead", "loop"] : List Str).zip us) := match us, hl with | [_, _, _, _], _ => rfl
theorem bb_bars_greater (kV doc pm : Value) (an : Option Addr) (cdv ct : Value) (us : List Value) (hl : us.length = 3) : bindArgs (PySem.W.fnOf "_bars_greater" "_bars_greater" (defArgs s_bars_greater) (defBody s_bars_greater) (defScope s_bars_greater) .none kV doc pm an cdv ct) ⟨us, []⟩ = pure ((["machine", "mean", "numbers"] : List Str).zip us) := match us, hl with | [_, _, _], _ => rfl
theorem bb_right_mean (kV doc pm : Value) (an : Option Addr) (cdv ct : Value) (us : List Value) (hl : us.length = 2) : bindArgs (PySem.W.fnOf "right_mean" "right_mean" (defArgs s_right_mean) (defBody s_right_mean) (defScope s_right_mean) .none kV doc pm an cdv ct) ⟨us, []⟩ = pure ((["machine", "value"] : List Str).zip us) := match us, hl with | [_, _], _ => rfl
theorem bb_law_taken (kV doc pm : Value) (an : Option Addr) (cdv ct : Value) (us : List Value) (hl : us.length = 2) : bindArgs (PySem.W.fnOf "_law_taken" "_law_taken" (defArgs s_law_taken) (defBody s_law_taken) (defScope s_law_taken) .none kV doc pm an cdv ct) ⟨us, []⟩ = pure ((["_law_row", "_law_many"] : List Str).zip us) := match us, hl with | [_, _], _ => rfl
theorem bb_law_parts (kV doc pm : Value) (an : Option Addr) (cdv ct : Value) (us : List Value) (hl : us.length = 3) : bindArgs (PySem.W.fnOf "_law_parts" "_law_parts" (defArgs s_law_parts) (defBody s_law_parts) (defScope s_law_parts) .none kV doc pm an cdv ct) ⟨us, []⟩ = pure ((["_law_row", "_law_stands", "_law_size"] : List Str).zip us) := match us, hl with | [_, _, _], _ => rfl
theorem bb_law_machine (kV doc pm : Value) (an : Option Addr) (cdv ct : Value) (us : List Value) (hl : us.length = 1) : bindArgs (PySem.W.fnOf "_law_machine" "_law_machine" (defArgs s_law_machine) (defBody s_law_machine) (defScope s_law_machine) .none kV doc pm an cdv ct) ⟨us, []⟩ = pure ((["_law_d"] : List Str).zip us) := match us, hl with | [_], _ => rfl
theorem bb_law_next (kV doc pm : Value) (an : Option Addr) (cdv ct : Value) (us : List Value) (hl : us.length = 2) : bindArgs (PySem.W.fnOf "_law_next" "_law_next" (defArgs s_law_next) (defBody s_law_next) (defScope s_law_next) .none kV doc pm an cdv ct) ⟨us, []⟩ = pure ((["_law_d", "_law_stand"] : List Str).zip us) := match us, hl with | [_, _], _ => rfl
theorem bb_law_way (kV doc pm : Value) (an : Option Addr) (cdv ct : Value) (us : List Value) (hl : us.length = 3) : bindArgs (PySem.W.fnOf "_law_way" "_law_way" (defArgs s_law_way) (defBody s_law_way) (defScope s_law_way) .none kV doc pm an cdv ct) ⟨us, []⟩ = pure ((["_law_d", "_law_word", "_law_stand"] : List Str).zip us) := match us, hl with | [_, _, _], _ => rfl
theorem bb_law_reached (kV doc pm : Value) (an : Option Addr) (cdv ct : Value) (us : List Value) (hl : us.length = 1) : bindArgs (PySem.W.fnOf "_law_reached" "_law_reached" (defArgs s_law_reached) (defBody s_law_reached) (defScope s_law_reached) .none kV doc pm an cdv ct) ⟨us, []⟩ = pure ((["_law_d"] : List Str).zip us) := match us, hl with | [_], _ => rfl
theorem bb_law_mean (kV doc pm : Value) (an : Option Addr) (cdv ct : Value) (us : List Value) (hl : us.length = 2) : bindArgs (PySem.W.fnOf "_law_mean" "_law_mean" (defArgs s_law_mean) (defBody s_law_mean) (defScope s_law_mean) .none kV doc pm an cdv ct) ⟨us, []⟩ = pure ((["_law_d", "_law_sign"] : List Str).zip us) := match us, hl with | [_, _], _ => rfl
theorem bb_law_gcd (kV doc pm : Value) (an : Option Addr) (cdv ct : Value) (us : List Value) (hl : us.length = 2) : bindArgs (PySem.W.fnOf "_law_gcd" "_law_gcd" (defArgs s_law_gcd) (defBody s_law_gcd) (defScope s_law_gcd) .none kV doc pm an cdv ct) ⟨us, []⟩ = pure ((["_law_one", "_law_other"] : List Str).zip us) := match us, hl with | [_, _], _ => rfl
theorem bb_law_fraction (kV doc pm : Value) (an : Option Addr) (cdv ct : Value) (us : List Value) (hl : us.length = 2) : bindArgs (PySem.W.fnOf "_law_fraction" "_law_fraction" (defArgs s_law_fraction) (defBody s_law_fraction) (defScope s_law_fraction) .none kV doc pm an cdv ct) ⟨us, []⟩ = pure ((["_law_pair", "_law_sign"] : List Str).zip us) := match us, hl with | [_, _], _ => rfl
theorem bb_law_is_mean (kV doc pm : Value) (an : Option Addr) (cdv ct : Value) (us : List Value) (hl : us.length = 2) : bindArgs (PySem.W.fnOf "_law_is_mean" "_law_is_mean" (defArgs s_law_is_mean) (defBody s_law_is_mean) (defScope s_law_is_mean) .none kV doc pm an cdv ct) ⟨us, []⟩ = pure ((["_law_d", "_law_value"] : List Str).zip us) := match us, hl with | [_, _], _ => rfl
theorem bb_law (kV doc pm : Value) (an : Option Addr) (cdv ct : Value) (us : List Value) (hl : us.length = 1) : bindArgs (PySem.W.fnOf "law" "law" (defArgs s_law) (defBody s_law) (defScope s_law) .none kV doc pm an cdv ct) ⟨us, []⟩ = pure ((["_law_script"] : List Str).zip us) := match us, hl with | [_], _ => rfl
set_option maxHeartbeats 0 in
def txt_mk {K : PySem.W.Frag} {h : Heap} {mg : Str → Option Value} (X : K.In h) (G : h.Ns mainGlobals mg)
    {a_led_to : Addr} {od_led_to an_led_to : Option Addr} {sl_led_to : Array (Option Value)} {oc_led_to kV_led_to dc_led_to pm_led_to cd_led_to ct_led_to : Value}
    {a_longer_rows : Addr} {od_longer_rows an_longer_rows : Option Addr} {sl_longer_rows : Array (Option Value)} {oc_longer_rows kV_longer_rows dc_longer_rows pm_longer_rows cd_longer_rows ct_longer_rows : Value}
    {a_improved : Addr} {od_improved an_improved : Option Addr} {sl_improved : Array (Option Value)} {oc_improved kV_improved dc_improved pm_improved cd_improved ct_improved : Value}
    {a_best_rows : Addr} {od_best_rows an_best_rows : Option Addr} {sl_best_rows : Array (Option Value)} {oc_best_rows kV_best_rows dc_best_rows pm_best_rows cd_best_rows ct_best_rows : Value}
    {a_shortest_rows : Addr} {od_shortest_rows an_shortest_rows : Option Addr} {sl_shortest_rows : Array (Option Value)} {oc_shortest_rows kV_shortest_rows dc_shortest_rows pm_shortest_rows cd_shortest_rows ct_shortest_rows : Value}
    {a_best_loops : Addr} {od_best_loops an_best_loops : Option Addr} {sl_best_loops : Array (Option Value)} {oc_best_loops kV_best_loops dc_best_loops pm_best_loops cd_best_loops ct_best_loops : Value}
    {a_Machine_init : Addr} {od_Machine_init an_Machine_init : Option Addr} {sl_Machine_init : Array (Option Value)} {oc_Machine_init kV_Machine_init dc_Machine_init pm_Machine_init cd_Machine_init ct_Machine_init : Value}
    {a_Machine_stands : Addr} {od_Machine_stands an_Machine_stands : Option Addr} {sl_Machine_stands : Array (Option Value)} {oc_Machine_stands kV_Machine_stands dc_Machine_stands pm_Machine_stands cd_Machine_stands ct_Machine_stands : Value}
    {a_Machine_steps : Addr} {od_Machine_steps an_Machine_steps : Option Addr} {sl_Machine_steps : Array (Option Value)} {oc_Machine_steps kV_Machine_steps dc_Machine_steps pm_Machine_steps cd_Machine_steps ct_Machine_steps : Value}
    {a_Machine_ends : Addr} {od_Machine_ends an_Machine_ends : Option Addr} {sl_Machine_ends : Array (Option Value)} {oc_Machine_ends kV_Machine_ends dc_Machine_ends pm_Machine_ends cd_Machine_ends ct_Machine_ends : Value}
    {a_is_whole_number : Addr} {od_is_whole_number an_is_whole_number : Option Addr} {sl_is_whole_number : Array (Option Value)} {oc_is_whole_number kV_is_whole_number dc_is_whole_number pm_is_whole_number cd_is_whole_number ct_is_whole_number : Value}
    {a_is_integer_between : Addr} {od_is_integer_between an_is_integer_between : Option Addr} {sl_is_integer_between : Array (Option Value)} {oc_is_integer_between kV_is_integer_between dc_is_integer_between pm_is_integer_between cd_is_integer_between ct_is_integer_between : Value}
    {a_is_stand : Addr} {od_is_stand an_is_stand : Option Addr} {sl_is_stand : Array (Option Value)} {oc_is_stand kV_is_stand dc_is_stand pm_is_stand cd_is_stand ct_is_stand : Value}
    {a_check_stands : Addr} {od_check_stands an_check_stands : Option Addr} {sl_check_stands : Array (Option Value)} {oc_check_stands kV_check_stands dc_check_stands pm_check_stands cd_check_stands ct_check_stands : Value}
    {a_is_step : Addr} {od_is_step an_is_step : Option Addr} {sl_is_step : Array (Option Value)} {oc_is_step kV_is_step dc_is_step pm_is_step cd_is_step ct_is_step : Value}
    {a_check_steps : Addr} {od_check_steps an_check_steps : Option Addr} {sl_check_steps : Array (Option Value)} {oc_check_steps kV_check_steps dc_check_steps pm_check_steps cd_check_steps ct_check_steps : Value}
    {a_is_ascending : Addr} {od_is_ascending an_is_ascending : Option Addr} {sl_is_ascending : Array (Option Value)} {oc_is_ascending kV_is_ascending dc_is_ascending pm_is_ascending cd_is_ascending ct_is_ascending : Value}
    {a_check_ends : Addr} {od_check_ends an_check_ends : Option Addr} {sl_check_ends : Array (Option Value)} {oc_check_ends kV_check_ends dc_check_ends pm_check_ends cd_check_ends ct_check_ends : Value}
    {a_check_machine : Addr} {od_check_machine an_check_machine : Option Addr} {sl_check_machine : Array (Option Value)} {oc_check_machine kV_check_machine dc_check_machine pm_check_machine cd_check_machine ct_check_machine : Value}
    {a_moves_of : Addr} {od_moves_of an_moves_of : Option Addr} {sl_moves_of : Array (Option Value)} {oc_moves_of kV_moves_of dc_moves_of pm_moves_of cd_moves_of ct_moves_of : Value}
    {a_way : Addr} {od_way an_way : Option Addr} {sl_way : Array (Option Value)} {oc_way kV_way dc_way pm_way cd_way ct_way : Value}
    {a_gain_of_loop : Addr} {od_gain_of_loop an_gain_of_loop : Option Addr} {sl_gain_of_loop : Array (Option Value)} {oc_gain_of_loop kV_gain_of_loop dc_gain_of_loop pm_gain_of_loop cd_gain_of_loop ct_gain_of_loop : Value}
    {a_reached : Addr} {od_reached an_reached : Option Addr} {sl_reached : Array (Option Value)} {oc_reached kV_reached dc_reached pm_reached cd_reached ct_reached : Value}
    {a_best_loop : Addr} {od_best_loop an_best_loop : Option Addr} {sl_best_loop : Array (Option Value)} {oc_best_loop kV_best_loop dc_best_loop pm_best_loop cd_best_loop ct_best_loop : Value}
    {a_fraction : Addr} {od_fraction an_fraction : Option Addr} {sl_fraction : Array (Option Value)} {oc_fraction kV_fraction dc_fraction pm_fraction cd_fraction ct_fraction : Value}
    {a_best_mean : Addr} {od_best_mean an_best_mean : Option Addr} {sl_best_mean : Array (Option Value)} {oc_best_mean kV_best_mean dc_best_mean pm_best_mean cd_best_mean ct_best_mean : Value}
    {a_greatest_mean : Addr} {od_greatest_mean an_greatest_mean : Option Addr} {sl_greatest_mean : Array (Option Value)} {oc_greatest_mean kV_greatest_mean dc_greatest_mean pm_greatest_mean cd_greatest_mean ct_greatest_mean : Value}
    {a_least_mean : Addr} {od_least_mean an_least_mean : Option Addr} {sl_least_mean : Array (Option Value)} {oc_least_mean kV_least_mean dc_least_mean pm_least_mean cd_least_mean ct_least_mean : Value}
    {a_steps_over : Addr} {od_steps_over an_steps_over : Option Addr} {sl_steps_over : Array (Option Value)} {oc_steps_over kV_steps_over dc_steps_over pm_steps_over cd_steps_over ct_steps_over : Value}
    {a_numbers : Addr} {od_numbers an_numbers : Option Addr} {sl_numbers : Array (Option Value)} {oc_numbers kV_numbers dc_numbers pm_numbers cd_numbers ct_numbers : Value}
    {a_mean_paper : Addr} {od_mean_paper an_mean_paper : Option Addr} {sl_mean_paper : Array (Option Value)} {oc_mean_paper kV_mean_paper dc_mean_paper pm_mean_paper cd_mean_paper ct_mean_paper : Value}
    {a_is_fraction : Addr} {od_is_fraction an_is_fraction : Option Addr} {sl_is_fraction : Array (Option Value)} {oc_is_fraction kV_is_fraction dc_is_fraction pm_is_fraction cd_is_fraction ct_is_fraction : Value}
    {a_is_mean_of : Addr} {od_is_mean_of an_is_mean_of : Option Addr} {sl_is_mean_of : Array (Option Value)} {oc_is_mean_of kV_is_mean_of dc_is_mean_of pm_is_mean_of cd_is_mean_of ct_is_mean_of : Value}
    {a_bars_greater : Addr} {od_bars_greater an_bars_greater : Option Addr} {sl_bars_greater : Array (Option Value)} {oc_bars_greater kV_bars_greater dc_bars_greater pm_bars_greater cd_bars_greater ct_bars_greater : Value}
    {a_right_mean : Addr} {od_right_mean an_right_mean : Option Addr} {sl_right_mean : Array (Option Value)} {oc_right_mean kV_right_mean dc_right_mean pm_right_mean cd_right_mean ct_right_mean : Value}
    {a_law_taken : Addr} {od_law_taken an_law_taken : Option Addr} {sl_law_taken : Array (Option Value)} {oc_law_taken kV_law_taken dc_law_taken pm_law_taken cd_law_taken ct_law_taken : Value}
    {a_law_parts : Addr} {od_law_parts an_law_parts : Option Addr} {sl_law_parts : Array (Option Value)} {oc_law_parts kV_law_parts dc_law_parts pm_law_parts cd_law_parts ct_law_parts : Value}
    {a_law_machine : Addr} {od_law_machine an_law_machine : Option Addr} {sl_law_machine : Array (Option Value)} {oc_law_machine kV_law_machine dc_law_machine pm_law_machine cd_law_machine ct_law_machine : Value}
    {a_law_next : Addr} {od_law_next an_law_next : Option Addr} {sl_law_next : Array (Option Value)} {oc_law_next kV_law_next dc_law_next pm_law_next cd_law_next ct_law_next : Value}
    {a_law_way : Addr} {od_law_way an_law_way : Option Addr} {sl_law_way : Array (Option Value)} {oc_law_way kV_law_way dc_law_way pm_law_way cd_law_way ct_law_way : Value}
    {a_law_reached : Addr} {od_law_reached an_law_reached : Option Addr} {sl_law_reached : Array (Option Value)} {oc_law_reached kV_law_reached dc_law_reached pm_law_reached cd_law_reached ct_law_reached : Value}
    {a_law_mean : Addr} {od_law_mean an_law_mean : Option Addr} {sl_law_mean : Array (Option Value)} {oc_law_mean kV_law_mean dc_law_mean pm_law_mean cd_law_mean ct_law_mean : Value}
    {a_law_gcd : Addr} {od_law_gcd an_law_gcd : Option Addr} {sl_law_gcd : Array (Option Value)} {oc_law_gcd kV_law_gcd dc_law_gcd pm_law_gcd cd_law_gcd ct_law_gcd : Value}
    {a_law_fraction : Addr} {od_law_fraction an_law_fraction : Option Addr} {sl_law_fraction : Array (Option Value)} {oc_law_fraction kV_law_fraction dc_law_fraction pm_law_fraction cd_law_fraction ct_law_fraction : Value}
    {a_law_is_mean : Addr} {od_law_is_mean an_law_is_mean : Option Addr} {sl_law_is_mean : Array (Option Value)} {oc_law_is_mean kV_law_is_mean dc_law_is_mean pm_law_is_mean cd_law_is_mean ct_law_is_mean : Value}
    {a_law : Addr} {od_law an_law : Option Addr} {sl_law : Array (Option Value)} {oc_law kV_law dc_law pm_law cd_law ct_law : Value}
    {c_Machine : Addr}
    {q_stands : Addr} {rest_stands : List Value}
    {q_steps : Addr} {rest_steps : List Value}
    {q_ends : Addr} {rest_ends : List Value}
    {t_MOST_STANDS : Tok}
    {t_MOST_GAIN : Tok}
    {a_LETTERS : Addr} {od_LETTERS : Option Addr} {sl_LETTERS : Array (Option Value)} {n_LETTERS : Nat} {w0_LETTERS w1_LETTERS w2_LETTERS w3_LETTERS : Tok}
    {t_ENDLESS : Tok}
    (g_led_to : PySem.W.nsIn K mainGlobals "led_to" = some (some (.ref a_led_to)))
    (g_longer_rows : PySem.W.nsIn K mainGlobals "longer_rows" = some (some (.ref a_longer_rows)))
    (g_improved : PySem.W.nsIn K mainGlobals "_improved" = some (some (.ref a_improved)))
    (g_best_rows : PySem.W.nsIn K mainGlobals "best_rows" = some (some (.ref a_best_rows)))
    (g_shortest_rows : PySem.W.nsIn K mainGlobals "shortest_rows" = some (some (.ref a_shortest_rows)))
    (g_best_loops : PySem.W.nsIn K mainGlobals "best_loops" = some (some (.ref a_best_loops)))
    (g_is_whole_number : PySem.W.nsIn K mainGlobals "is_whole_number" = some (some (.ref a_is_whole_number)))
    (g_is_integer_between : PySem.W.nsIn K mainGlobals "is_integer_between" = some (some (.ref a_is_integer_between)))
    (g_is_stand : PySem.W.nsIn K mainGlobals "_is_stand" = some (some (.ref a_is_stand)))
    (g_check_stands : PySem.W.nsIn K mainGlobals "_check_stands" = some (some (.ref a_check_stands)))
    (g_is_step : PySem.W.nsIn K mainGlobals "_is_step" = some (some (.ref a_is_step)))
    (g_check_steps : PySem.W.nsIn K mainGlobals "_check_steps" = some (some (.ref a_check_steps)))
    (g_is_ascending : PySem.W.nsIn K mainGlobals "is_ascending" = some (some (.ref a_is_ascending)))
    (g_check_ends : PySem.W.nsIn K mainGlobals "_check_ends" = some (some (.ref a_check_ends)))
    (g_check_machine : PySem.W.nsIn K mainGlobals "check_machine" = some (some (.ref a_check_machine)))
    (g_moves_of : PySem.W.nsIn K mainGlobals "moves_of" = some (some (.ref a_moves_of)))
    (g_way : PySem.W.nsIn K mainGlobals "way" = some (some (.ref a_way)))
    (g_gain_of_loop : PySem.W.nsIn K mainGlobals "gain_of_loop" = some (some (.ref a_gain_of_loop)))
    (g_reached : PySem.W.nsIn K mainGlobals "reached" = some (some (.ref a_reached)))
    (g_best_loop : PySem.W.nsIn K mainGlobals "_best_loop" = some (some (.ref a_best_loop)))
    (g_fraction : PySem.W.nsIn K mainGlobals "_fraction" = some (some (.ref a_fraction)))
    (g_best_mean : PySem.W.nsIn K mainGlobals "_best_mean" = some (some (.ref a_best_mean)))
    (g_greatest_mean : PySem.W.nsIn K mainGlobals "greatest_mean" = some (some (.ref a_greatest_mean)))
    (g_least_mean : PySem.W.nsIn K mainGlobals "least_mean" = some (some (.ref a_least_mean)))
    (g_steps_over : PySem.W.nsIn K mainGlobals "_steps_over" = some (some (.ref a_steps_over)))
    (g_numbers : PySem.W.nsIn K mainGlobals "_numbers" = some (some (.ref a_numbers)))
    (g_mean_paper : PySem.W.nsIn K mainGlobals "mean_paper" = some (some (.ref a_mean_paper)))
    (g_is_fraction : PySem.W.nsIn K mainGlobals "_is_fraction" = some (some (.ref a_is_fraction)))
    (g_is_mean_of : PySem.W.nsIn K mainGlobals "_is_mean_of" = some (some (.ref a_is_mean_of)))
    (g_bars_greater : PySem.W.nsIn K mainGlobals "_bars_greater" = some (some (.ref a_bars_greater)))
    (g_right_mean : PySem.W.nsIn K mainGlobals "right_mean" = some (some (.ref a_right_mean)))
    (g_law_taken : PySem.W.nsIn K mainGlobals "_law_taken" = some (some (.ref a_law_taken)))
    (g_law_parts : PySem.W.nsIn K mainGlobals "_law_parts" = some (some (.ref a_law_parts)))
    (g_law_machine : PySem.W.nsIn K mainGlobals "_law_machine" = some (some (.ref a_law_machine)))
    (g_law_next : PySem.W.nsIn K mainGlobals "_law_next" = some (some (.ref a_law_next)))
    (g_law_way : PySem.W.nsIn K mainGlobals "_law_way" = some (some (.ref a_law_way)))
    (g_law_reached : PySem.W.nsIn K mainGlobals "_law_reached" = some (some (.ref a_law_reached)))
    (g_law_mean : PySem.W.nsIn K mainGlobals "_law_mean" = some (some (.ref a_law_mean)))
    (g_law_gcd : PySem.W.nsIn K mainGlobals "_law_gcd" = some (some (.ref a_law_gcd)))
    (g_law_fraction : PySem.W.nsIn K mainGlobals "_law_fraction" = some (some (.ref a_law_fraction)))
    (g_law_is_mean : PySem.W.nsIn K mainGlobals "_law_is_mean" = some (some (.ref a_law_is_mean)))
    (g_law : PySem.W.nsIn K mainGlobals "law" = some (some (.ref a_law)))
    (g_Machine : PySem.W.nsIn K mainGlobals "Machine" = some (some (.ref c_Machine)))
    (g_MOST_STANDS : PySem.W.nsIn K mainGlobals "MOST_STANDS" = some (some (.int 8 t_MOST_STANDS)))
    (g_MOST_GAIN : PySem.W.nsIn K mainGlobals "MOST_GAIN" = some (some (.int 1000000000000000000000000000000 t_MOST_GAIN)))
    (g_LETTERS : PySem.W.nsIn K mainGlobals "LETTERS" = some (some (.ref a_LETTERS)))
    (g_ENDLESS : PySem.W.nsIn K mainGlobals "ENDLESS" = some (some (.str "endless" t_ENDLESS)))
    (g_gcd : PySem.W.nsIn K mainGlobals "gcd" = some (some (.builtin "math.gcd")))
    (zz_abs : PySem.W.nsIn K mainGlobals "abs" = some none)
    (zz_all : PySem.W.nsIn K mainGlobals "all" = some none)
    (zz_bool : PySem.W.nsIn K mainGlobals "bool" = some none)
    (zz_enumerate : PySem.W.nsIn K mainGlobals "enumerate" = some none)
    (zz_int : PySem.W.nsIn K mainGlobals "int" = some none)
    (zz_isinstance : PySem.W.nsIn K mainGlobals "isinstance" = some none)
    (zz_len : PySem.W.nsIn K mainGlobals "len" = some none)
    (zz_list : PySem.W.nsIn K mainGlobals "list" = some none)
    (zz_max : PySem.W.nsIn K mainGlobals "max" = some none)
    (zz_min : PySem.W.nsIn K mainGlobals "min" = some none)
    (zz_range : PySem.W.nsIn K mainGlobals "range" = some none)
    (zz_sorted : PySem.W.nsIn K mainGlobals "sorted" = some none)
    (zz_str : PySem.W.nsIn K mainGlobals "str" = some none)
    (zz_tuple : PySem.W.nsIn K mainGlobals "tuple" = some none)
    (l_led_to : K.lookup a_led_to = some ⟨oc_led_to, od_led_to, .func (PySem.W.fnOf "led_to" "led_to" (defArgs s_led_to) (defBody s_led_to) (defScope s_led_to) .none kV_led_to dc_led_to pm_led_to an_led_to cd_led_to ct_led_to), sl_led_to⟩)
    (c_led_to : PySem.W.codeIn K cd_led_to "led_to" = true)
    (kk_led_to : PySem.W.keepIn K (.ref a_led_to) = true)
    (l_longer_rows : K.lookup a_longer_rows = some ⟨oc_longer_rows, od_longer_rows, .func (PySem.W.fnOf "longer_rows" "longer_rows" (defArgs s_longer_rows) (defBody s_longer_rows) (defScope s_longer_rows) .none kV_longer_rows dc_longer_rows pm_longer_rows an_longer_rows cd_longer_rows ct_longer_rows), sl_longer_rows⟩)
    (c_longer_rows : PySem.W.codeIn K cd_longer_rows "longer_rows" = true)
    (kk_longer_rows : PySem.W.keepIn K (.ref a_longer_rows) = true)
    (l_improved : K.lookup a_improved = some ⟨oc_improved, od_improved, .func (PySem.W.fnOf "_improved" "_improved" (defArgs s_improved) (defBody s_improved) (defScope s_improved) .none kV_improved dc_improved pm_improved an_improved cd_improved ct_improved), sl_improved⟩)
    (c_improved : PySem.W.codeIn K cd_improved "_improved" = true)
    (kk_improved : PySem.W.keepIn K (.ref a_improved) = true)
    (l_best_rows : K.lookup a_best_rows = some ⟨oc_best_rows, od_best_rows, .func (PySem.W.fnOf "best_rows" "best_rows" (defArgs s_best_rows) (defBody s_best_rows) (defScope s_best_rows) .none kV_best_rows dc_best_rows pm_best_rows an_best_rows cd_best_rows ct_best_rows), sl_best_rows⟩)
    (c_best_rows : PySem.W.codeIn K cd_best_rows "best_rows" = true)
    (kk_best_rows : PySem.W.keepIn K (.ref a_best_rows) = true)
    (l_shortest_rows : K.lookup a_shortest_rows = some ⟨oc_shortest_rows, od_shortest_rows, .func (PySem.W.fnOf "shortest_rows" "shortest_rows" (defArgs s_shortest_rows) (defBody s_shortest_rows) (defScope s_shortest_rows) .none kV_shortest_rows dc_shortest_rows pm_shortest_rows an_shortest_rows cd_shortest_rows ct_shortest_rows), sl_shortest_rows⟩)
    (c_shortest_rows : PySem.W.codeIn K cd_shortest_rows "shortest_rows" = true)
    (kk_shortest_rows : PySem.W.keepIn K (.ref a_shortest_rows) = true)
    (l_best_loops : K.lookup a_best_loops = some ⟨oc_best_loops, od_best_loops, .func (PySem.W.fnOf "best_loops" "best_loops" (defArgs s_best_loops) (defBody s_best_loops) (defScope s_best_loops) .none kV_best_loops dc_best_loops pm_best_loops an_best_loops cd_best_loops ct_best_loops), sl_best_loops⟩)
    (c_best_loops : PySem.W.codeIn K cd_best_loops "best_loops" = true)
    (kk_best_loops : PySem.W.keepIn K (.ref a_best_loops) = true)
    (l_Machine_init : K.lookup a_Machine_init = some ⟨oc_Machine_init, od_Machine_init, .func (PySem.W.fnOf "__init__" "Machine.__init__" (defArgs s_Machine_init) (defBody s_Machine_init) (defScope s_Machine_init) .none kV_Machine_init dc_Machine_init pm_Machine_init an_Machine_init cd_Machine_init ct_Machine_init), sl_Machine_init⟩)
    (c_Machine_init : PySem.W.codeIn K cd_Machine_init "Machine.__init__" = true)
    (kk_Machine_init : PySem.W.keepIn K (.ref a_Machine_init) = true)
    (l_Machine_stands : K.lookup a_Machine_stands = some ⟨oc_Machine_stands, od_Machine_stands, .func (PySem.W.fnOf "stands" "Machine.stands" (defArgs s_Machine_stands) (defBody s_Machine_stands) (defScope s_Machine_stands) .none kV_Machine_stands dc_Machine_stands pm_Machine_stands an_Machine_stands cd_Machine_stands ct_Machine_stands), sl_Machine_stands⟩)
    (c_Machine_stands : PySem.W.codeIn K cd_Machine_stands "Machine.stands" = true)
    (kk_Machine_stands : PySem.W.keepIn K (.ref a_Machine_stands) = true)
    (l_Machine_steps : K.lookup a_Machine_steps = some ⟨oc_Machine_steps, od_Machine_steps, .func (PySem.W.fnOf "steps" "Machine.steps" (defArgs s_Machine_steps) (defBody s_Machine_steps) (defScope s_Machine_steps) .none kV_Machine_steps dc_Machine_steps pm_Machine_steps an_Machine_steps cd_Machine_steps ct_Machine_steps), sl_Machine_steps⟩)
    (c_Machine_steps : PySem.W.codeIn K cd_Machine_steps "Machine.steps" = true)
    (kk_Machine_steps : PySem.W.keepIn K (.ref a_Machine_steps) = true)
    (l_Machine_ends : K.lookup a_Machine_ends = some ⟨oc_Machine_ends, od_Machine_ends, .func (PySem.W.fnOf "ends" "Machine.ends" (defArgs s_Machine_ends) (defBody s_Machine_ends) (defScope s_Machine_ends) .none kV_Machine_ends dc_Machine_ends pm_Machine_ends an_Machine_ends cd_Machine_ends ct_Machine_ends), sl_Machine_ends⟩)
    (c_Machine_ends : PySem.W.codeIn K cd_Machine_ends "Machine.ends" = true)
    (kk_Machine_ends : PySem.W.keepIn K (.ref a_Machine_ends) = true)
    (l_is_whole_number : K.lookup a_is_whole_number = some ⟨oc_is_whole_number, od_is_whole_number, .func (PySem.W.fnOf "is_whole_number" "is_whole_number" (defArgs s_is_whole_number) (defBody s_is_whole_number) (defScope s_is_whole_number) .none kV_is_whole_number dc_is_whole_number pm_is_whole_number an_is_whole_number cd_is_whole_number ct_is_whole_number), sl_is_whole_number⟩)
    (c_is_whole_number : PySem.W.codeIn K cd_is_whole_number "is_whole_number" = true)
    (kk_is_whole_number : PySem.W.keepIn K (.ref a_is_whole_number) = true)
    (l_is_integer_between : K.lookup a_is_integer_between = some ⟨oc_is_integer_between, od_is_integer_between, .func (PySem.W.fnOf "is_integer_between" "is_integer_between" (defArgs s_is_integer_between) (defBody s_is_integer_between) (defScope s_is_integer_between) .none kV_is_integer_between dc_is_integer_between pm_is_integer_between an_is_integer_between cd_is_integer_between ct_is_integer_between), sl_is_integer_between⟩)
    (c_is_integer_between : PySem.W.codeIn K cd_is_integer_between "is_integer_between" = true)
    (kk_is_integer_between : PySem.W.keepIn K (.ref a_is_integer_between) = true)
    (l_is_stand : K.lookup a_is_stand = some ⟨oc_is_stand, od_is_stand, .func (PySem.W.fnOf "_is_stand" "_is_stand" (defArgs s_is_stand) (defBody s_is_stand) (defScope s_is_stand) .none kV_is_stand dc_is_stand pm_is_stand an_is_stand cd_is_stand ct_is_stand), sl_is_stand⟩)
    (c_is_stand : PySem.W.codeIn K cd_is_stand "_is_stand" = true)
    (kk_is_stand : PySem.W.keepIn K (.ref a_is_stand) = true)
    (l_check_stands : K.lookup a_check_stands = some ⟨oc_check_stands, od_check_stands, .func (PySem.W.fnOf "_check_stands" "_check_stands" (defArgs s_check_stands) (defBody s_check_stands) (defScope s_check_stands) .none kV_check_stands dc_check_stands pm_check_stands an_check_stands cd_check_stands ct_check_stands), sl_check_stands⟩)
    (c_check_stands : PySem.W.codeIn K cd_check_stands "_check_stands" = true)
    (kk_check_stands : PySem.W.keepIn K (.ref a_check_stands) = true)
    (l_is_step : K.lookup a_is_step = some ⟨oc_is_step, od_is_step, .func (PySem.W.fnOf "_is_step" "_is_step" (defArgs s_is_step) (defBody s_is_step) (defScope s_is_step) .none kV_is_step dc_is_step pm_is_step an_is_step cd_is_step ct_is_step), sl_is_step⟩)
    (c_is_step : PySem.W.codeIn K cd_is_step "_is_step" = true)
    (kk_is_step : PySem.W.keepIn K (.ref a_is_step) = true)
    (l_check_steps : K.lookup a_check_steps = some ⟨oc_check_steps, od_check_steps, .func (PySem.W.fnOf "_check_steps" "_check_steps" (defArgs s_check_steps) (defBody s_check_steps) (defScope s_check_steps) .none kV_check_steps dc_check_steps pm_check_steps an_check_steps cd_check_steps ct_check_steps), sl_check_steps⟩)
    (c_check_steps : PySem.W.codeIn K cd_check_steps "_check_steps" = true)
    (kk_check_steps : PySem.W.keepIn K (.ref a_check_steps) = true)
    (l_is_ascending : K.lookup a_is_ascending = some ⟨oc_is_ascending, od_is_ascending, .func (PySem.W.fnOf "is_ascending" "is_ascending" (defArgs s_is_ascending) (defBody s_is_ascending) (defScope s_is_ascending) .none kV_is_ascending dc_is_ascending pm_is_ascending an_is_ascending cd_is_ascending ct_is_ascending), sl_is_ascending⟩)
    (c_is_ascending : PySem.W.codeIn K cd_is_ascending "is_ascending" = true)
    (kk_is_ascending : PySem.W.keepIn K (.ref a_is_ascending) = true)
    (l_check_ends : K.lookup a_check_ends = some ⟨oc_check_ends, od_check_ends, .func (PySem.W.fnOf "_check_ends" "_check_ends" (defArgs s_check_ends) (defBody s_check_ends) (defScope s_check_ends) .none kV_check_ends dc_check_ends pm_check_ends an_check_ends cd_check_ends ct_check_ends), sl_check_ends⟩)
    (c_check_ends : PySem.W.codeIn K cd_check_ends "_check_ends" = true)
    (kk_check_ends : PySem.W.keepIn K (.ref a_check_ends) = true)
    (l_check_machine : K.lookup a_check_machine = some ⟨oc_check_machine, od_check_machine, .func (PySem.W.fnOf "check_machine" "check_machine" (defArgs s_check_machine) (defBody s_check_machine) (defScope s_check_machine) .none kV_check_machine dc_check_machine pm_check_machine an_check_machine cd_check_machine ct_check_machine), sl_check_machine⟩)
    (c_check_machine : PySem.W.codeIn K cd_check_machine "check_machine" = true)
    (kk_check_machine : PySem.W.keepIn K (.ref a_check_machine) = true)
    (l_moves_of : K.lookup a_moves_of = some ⟨oc_moves_of, od_moves_of, .func (PySem.W.fnOf "moves_of" "moves_of" (defArgs s_moves_of) (defBody s_moves_of) (defScope s_moves_of) .none kV_moves_of dc_moves_of pm_moves_of an_moves_of cd_moves_of ct_moves_of), sl_moves_of⟩)
    (c_moves_of : PySem.W.codeIn K cd_moves_of "moves_of" = true)
    (kk_moves_of : PySem.W.keepIn K (.ref a_moves_of) = true)
    (l_way : K.lookup a_way = some ⟨oc_way, od_way, .func (PySem.W.fnOf "way" "way" (defArgs s_way) (defBody s_way) (defScope s_way) .none kV_way dc_way pm_way an_way cd_way ct_way), sl_way⟩)
    (c_way : PySem.W.codeIn K cd_way "way" = true)
    (kk_way : PySem.W.keepIn K (.ref a_way) = true)
    (l_gain_of_loop : K.lookup a_gain_of_loop = some ⟨oc_gain_of_loop, od_gain_of_loop, .func (PySem.W.fnOf "gain_of_loop" "gain_of_loop" (defArgs s_gain_of_loop) (defBody s_gain_of_loop) (defScope s_gain_of_loop) .none kV_gain_of_loop dc_gain_of_loop pm_gain_of_loop an_gain_of_loop cd_gain_of_loop ct_gain_of_loop), sl_gain_of_loop⟩)
    (c_gain_of_loop : PySem.W.codeIn K cd_gain_of_loop "gain_of_loop" = true)
    (kk_gain_of_loop : PySem.W.keepIn K (.ref a_gain_of_loop) = true)
    (l_reached : K.lookup a_reached = some ⟨oc_reached, od_reached, .func (PySem.W.fnOf "reached" "reached" (defArgs s_reached) (defBody s_reached) (defScope s_reached) .none kV_reached dc_reached pm_reached an_reached cd_reached ct_reached), sl_reached⟩)
    (c_reached : PySem.W.codeIn K cd_reached "reached" = true)
    (kk_reached : PySem.W.keepIn K (.ref a_reached) = true)
    (l_best_loop : K.lookup a_best_loop = some ⟨oc_best_loop, od_best_loop, .func (PySem.W.fnOf "_best_loop" "_best_loop" (defArgs s_best_loop) (defBody s_best_loop) (defScope s_best_loop) .none kV_best_loop dc_best_loop pm_best_loop an_best_loop cd_best_loop ct_best_loop), sl_best_loop⟩)
    (c_best_loop : PySem.W.codeIn K cd_best_loop "_best_loop" = true)
    (kk_best_loop : PySem.W.keepIn K (.ref a_best_loop) = true)
    (l_fraction : K.lookup a_fraction = some ⟨oc_fraction, od_fraction, .func (PySem.W.fnOf "_fraction" "_fraction" (defArgs s_fraction) (defBody s_fraction) (defScope s_fraction) .none kV_fraction dc_fraction pm_fraction an_fraction cd_fraction ct_fraction), sl_fraction⟩)
    (c_fraction : PySem.W.codeIn K cd_fraction "_fraction" = true)
    (kk_fraction : PySem.W.keepIn K (.ref a_fraction) = true)
    (l_best_mean : K.lookup a_best_mean = some ⟨oc_best_mean, od_best_mean, .func (PySem.W.fnOf "_best_mean" "_best_mean" (defArgs s_best_mean) (defBody s_best_mean) (defScope s_best_mean) .none kV_best_mean dc_best_mean pm_best_mean an_best_mean cd_best_mean ct_best_mean), sl_best_mean⟩)
    (c_best_mean : PySem.W.codeIn K cd_best_mean "_best_mean" = true)
    (kk_best_mean : PySem.W.keepIn K (.ref a_best_mean) = true)
    (l_greatest_mean : K.lookup a_greatest_mean = some ⟨oc_greatest_mean, od_greatest_mean, .func (PySem.W.fnOf "greatest_mean" "greatest_mean" (defArgs s_greatest_mean) (defBody s_greatest_mean) (defScope s_greatest_mean) .none kV_greatest_mean dc_greatest_mean pm_greatest_mean an_greatest_mean cd_greatest_mean ct_greatest_mean), sl_greatest_mean⟩)
    (c_greatest_mean : PySem.W.codeIn K cd_greatest_mean "greatest_mean" = true)
    (kk_greatest_mean : PySem.W.keepIn K (.ref a_greatest_mean) = true)
    (l_least_mean : K.lookup a_least_mean = some ⟨oc_least_mean, od_least_mean, .func (PySem.W.fnOf "least_mean" "least_mean" (defArgs s_least_mean) (defBody s_least_mean) (defScope s_least_mean) .none kV_least_mean dc_least_mean pm_least_mean an_least_mean cd_least_mean ct_least_mean), sl_least_mean⟩)
    (c_least_mean : PySem.W.codeIn K cd_least_mean "least_mean" = true)
    (kk_least_mean : PySem.W.keepIn K (.ref a_least_mean) = true)
    (l_steps_over : K.lookup a_steps_over = some ⟨oc_steps_over, od_steps_over, .func (PySem.W.fnOf "_steps_over" "_steps_over" (defArgs s_steps_over) (defBody s_steps_over) (defScope s_steps_over) .none kV_steps_over dc_steps_over pm_steps_over an_steps_over cd_steps_over ct_steps_over), sl_steps_over⟩)
    (c_steps_over : PySem.W.codeIn K cd_steps_over "_steps_over" = true)
    (kk_steps_over : PySem.W.keepIn K (.ref a_steps_over) = true)
    (l_numbers : K.lookup a_numbers = some ⟨oc_numbers, od_numbers, .func (PySem.W.fnOf "_numbers" "_numbers" (defArgs s_numbers) (defBody s_numbers) (defScope s_numbers) .none kV_numbers dc_numbers pm_numbers an_numbers cd_numbers ct_numbers), sl_numbers⟩)
    (c_numbers : PySem.W.codeIn K cd_numbers "_numbers" = true)
    (kk_numbers : PySem.W.keepIn K (.ref a_numbers) = true)
    (l_mean_paper : K.lookup a_mean_paper = some ⟨oc_mean_paper, od_mean_paper, .func (PySem.W.fnOf "mean_paper" "mean_paper" (defArgs s_mean_paper) (defBody s_mean_paper) (defScope s_mean_paper) .none kV_mean_paper dc_mean_paper pm_mean_paper an_mean_paper cd_mean_paper ct_mean_paper), sl_mean_paper⟩)
    (c_mean_paper : PySem.W.codeIn K cd_mean_paper "mean_paper" = true)
    (kk_mean_paper : PySem.W.keepIn K (.ref a_mean_paper) = true)
    (l_is_fraction : K.lookup a_is_fraction = some ⟨oc_is_fraction, od_is_fraction, .func (PySem.W.fnOf "_is_fraction" "_is_fraction" (defArgs s_is_fraction) (defBody s_is_fraction) (defScope s_is_fraction) .none kV_is_fraction dc_is_fraction pm_is_fraction an_is_fraction cd_is_fraction ct_is_fraction), sl_is_fraction⟩)
    (c_is_fraction : PySem.W.codeIn K cd_is_fraction "_is_fraction" = true)
    (kk_is_fraction : PySem.W.keepIn K (.ref a_is_fraction) = true)
    (l_is_mean_of : K.lookup a_is_mean_of = some ⟨oc_is_mean_of, od_is_mean_of, .func (PySem.W.fnOf "_is_mean_of" "_is_mean_of" (defArgs s_is_mean_of) (defBody s_is_mean_of) (defScope s_is_mean_of) .none kV_is_mean_of dc_is_mean_of pm_is_mean_of an_is_mean_of cd_is_mean_of ct_is_mean_of), sl_is_mean_of⟩)
    (c_is_mean_of : PySem.W.codeIn K cd_is_mean_of "_is_mean_of" = true)
    (kk_is_mean_of : PySem.W.keepIn K (.ref a_is_mean_of) = true)
    (l_bars_greater : K.lookup a_bars_greater = some ⟨oc_bars_greater, od_bars_greater, .func (PySem.W.fnOf "_bars_greater" "_bars_greater" (defArgs s_bars_greater) (defBody s_bars_greater) (defScope s_bars_greater) .none kV_bars_greater dc_bars_greater pm_bars_greater an_bars_greater cd_bars_greater ct_bars_greater), sl_bars_greater⟩)
    (c_bars_greater : PySem.W.codeIn K cd_bars_greater "_bars_greater" = true)
    (kk_bars_greater : PySem.W.keepIn K (.ref a_bars_greater) = true)
    (l_right_mean : K.lookup a_right_mean = some ⟨oc_right_mean, od_right_mean, .func (PySem.W.fnOf "right_mean" "right_mean" (defArgs s_right_mean) (defBody s_right_mean) (defScope s_right_mean) .none kV_right_mean dc_right_mean pm_right_mean an_right_mean cd_right_mean ct_right_mean), sl_right_mean⟩)
    (c_right_mean : PySem.W.codeIn K cd_right_mean "right_mean" = true)
    (kk_right_mean : PySem.W.keepIn K (.ref a_right_mean) = true)
    (l_law_taken : K.lookup a_law_taken = some ⟨oc_law_taken, od_law_taken, .func (PySem.W.fnOf "_law_taken" "_law_taken" (defArgs s_law_taken) (defBody s_law_taken) (defScope s_law_taken) .none kV_law_taken dc_law_taken pm_law_taken an_law_taken cd_law_taken ct_law_taken), sl_law_taken⟩)
    (c_law_taken : PySem.W.codeIn K cd_law_taken "_law_taken" = true)
    (kk_law_taken : PySem.W.keepIn K (.ref a_law_taken) = true)
    (l_law_parts : K.lookup a_law_parts = some ⟨oc_law_parts, od_law_parts, .func (PySem.W.fnOf "_law_parts" "_law_parts" (defArgs s_law_parts) (defBody s_law_parts) (defScope s_law_parts) .none kV_law_parts dc_law_parts pm_law_parts an_law_parts cd_law_parts ct_law_parts), sl_law_parts⟩)
    (c_law_parts : PySem.W.codeIn K cd_law_parts "_law_parts" = true)
    (kk_law_parts : PySem.W.keepIn K (.ref a_law_parts) = true)
    (l_law_machine : K.lookup a_law_machine = some ⟨oc_law_machine, od_law_machine, .func (PySem.W.fnOf "_law_machine" "_law_machine" (defArgs s_law_machine) (defBody s_law_machine) (defScope s_law_machine) .none kV_law_machine dc_law_machine pm_law_machine an_law_machine cd_law_machine ct_law_machine), sl_law_machine⟩)
    (c_law_machine : PySem.W.codeIn K cd_law_machine "_law_machine" = true)
    (kk_law_machine : PySem.W.keepIn K (.ref a_law_machine) = true)
    (l_law_next : K.lookup a_law_next = some ⟨oc_law_next, od_law_next, .func (PySem.W.fnOf "_law_next" "_law_next" (defArgs s_law_next) (defBody s_law_next) (defScope s_law_next) .none kV_law_next dc_law_next pm_law_next an_law_next cd_law_next ct_law_next), sl_law_next⟩)
    (c_law_next : PySem.W.codeIn K cd_law_next "_law_next" = true)
    (kk_law_next : PySem.W.keepIn K (.ref a_law_next) = true)
    (l_law_way : K.lookup a_law_way = some ⟨oc_law_way, od_law_way, .func (PySem.W.fnOf "_law_way" "_law_way" (defArgs s_law_way) (defBody s_law_way) (defScope s_law_way) .none kV_law_way dc_law_way pm_law_way an_law_way cd_law_way ct_law_way), sl_law_way⟩)
    (c_law_way : PySem.W.codeIn K cd_law_way "_law_way" = true)
    (kk_law_way : PySem.W.keepIn K (.ref a_law_way) = true)
    (l_law_reached : K.lookup a_law_reached = some ⟨oc_law_reached, od_law_reached, .func (PySem.W.fnOf "_law_reached" "_law_reached" (defArgs s_law_reached) (defBody s_law_reached) (defScope s_law_reached) .none kV_law_reached dc_law_reached pm_law_reached an_law_reached cd_law_reached ct_law_reached), sl_law_reached⟩)
    (c_law_reached : PySem.W.codeIn K cd_law_reached "_law_reached" = true)
    (kk_law_reached : PySem.W.keepIn K (.ref a_law_reached) = true)
    (l_law_mean : K.lookup a_law_mean = some ⟨oc_law_mean, od_law_mean, .func (PySem.W.fnOf "_law_mean" "_law_mean" (defArgs s_law_mean) (defBody s_law_mean) (defScope s_law_mean) .none kV_law_mean dc_law_mean pm_law_mean an_law_mean cd_law_mean ct_law_mean), sl_law_mean⟩)
    (c_law_mean : PySem.W.codeIn K cd_law_mean "_law_mean" = true)
    (kk_law_mean : PySem.W.keepIn K (.ref a_law_mean) = true)
    (l_law_gcd : K.lookup a_law_gcd = some ⟨oc_law_gcd, od_law_gcd, .func (PySem.W.fnOf "_law_gcd" "_law_gcd" (defArgs s_law_gcd) (defBody s_law_gcd) (defScope s_law_gcd) .none kV_law_gcd dc_law_gcd pm_law_gcd an_law_gcd cd_law_gcd ct_law_gcd), sl_law_gcd⟩)
    (c_law_gcd : PySem.W.codeIn K cd_law_gcd "_law_gcd" = true)
    (kk_law_gcd : PySem.W.keepIn K (.ref a_law_gcd) = true)
    (l_law_fraction : K.lookup a_law_fraction = some ⟨oc_law_fraction, od_law_fraction, .func (PySem.W.fnOf "_law_fraction" "_law_fraction" (defArgs s_law_fraction) (defBody s_law_fraction) (defScope s_law_fraction) .none kV_law_fraction dc_law_fraction pm_law_fraction an_law_fraction cd_law_fraction ct_law_fraction), sl_law_fraction⟩)
    (c_law_fraction : PySem.W.codeIn K cd_law_fraction "_law_fraction" = true)
    (kk_law_fraction : PySem.W.keepIn K (.ref a_law_fraction) = true)
    (l_law_is_mean : K.lookup a_law_is_mean = some ⟨oc_law_is_mean, od_law_is_mean, .func (PySem.W.fnOf "_law_is_mean" "_law_is_mean" (defArgs s_law_is_mean) (defBody s_law_is_mean) (defScope s_law_is_mean) .none kV_law_is_mean dc_law_is_mean pm_law_is_mean an_law_is_mean cd_law_is_mean ct_law_is_mean), sl_law_is_mean⟩)
    (c_law_is_mean : PySem.W.codeIn K cd_law_is_mean "_law_is_mean" = true)
    (kk_law_is_mean : PySem.W.keepIn K (.ref a_law_is_mean) = true)
    (l_law : K.lookup a_law = some ⟨oc_law, od_law, .func (PySem.W.fnOf "law" "law" (defArgs s_law) (defBody s_law) (defScope s_law) .none kV_law dc_law pm_law an_law cd_law ct_law), sl_law⟩)
    (c_law : PySem.W.codeIn K cd_law "law" = true)
    (kk_law : PySem.W.keepIn K (.ref a_law) = true)
    (pg_Machine : PySem.W.plainGet K c_Machine Str.empty = true)
    (hd_Machine : PySem.W.hasDictIn K c_Machine = true)
    (po_Machine : PySem.W.plainOver K c_Machine = true)
    (sa_Machine : PySem.W.findIn K (.ref c_Machine) "__setattr__" = some (some (.builtin "object.__setattr__")))
    (mi_Machine : PySem.W.makesIn K c_Machine = true)
    (kc_Machine : PySem.W.keepIn K (.ref c_Machine) = true)
    (fi_Machine : PySem.W.findIn K (.ref c_Machine) "__init__" = some (some (.ref a_Machine_init)))
    (if_Machine : PySem.W.isFn K (.ref a_Machine_init) = true)
    (nf_stands : PySem.W.findIn K (.ref c_Machine) "_stands" = some none)
    (nf_steps : PySem.W.findIn K (.ref c_Machine) "_steps" = some none)
    (nf_ends : PySem.W.findIn K (.ref c_Machine) "_ends" = some none)
    (pf_stands : PySem.W.findIn K (.ref c_Machine) "stands" = some (some (.ref q_stands)))
    (pt_stands : PySem.W.specialIn K (.ref q_stands) "__get__" = some (some (.builtin "property.__get__")))
    (pk_stands : PySem.W.takesIn K (.ref q_stands) = some true)
    (pr_stands : PySem.W.recIn K q_stands "property" = some (.ref a_Machine_stands :: rest_stands))
    (pf_steps : PySem.W.findIn K (.ref c_Machine) "steps" = some (some (.ref q_steps)))
    (pt_steps : PySem.W.specialIn K (.ref q_steps) "__get__" = some (some (.builtin "property.__get__")))
    (pk_steps : PySem.W.takesIn K (.ref q_steps) = some true)
    (pr_steps : PySem.W.recIn K q_steps "property" = some (.ref a_Machine_steps :: rest_steps))
    (pf_ends : PySem.W.findIn K (.ref c_Machine) "ends" = some (some (.ref q_ends)))
    (pt_ends : PySem.W.specialIn K (.ref q_ends) "__get__" = some (some (.builtin "property.__get__")))
    (pk_ends : PySem.W.takesIn K (.ref q_ends) = some true)
    (pr_ends : PySem.W.recIn K q_ends "property" = some (.ref a_Machine_ends :: rest_ends))
    (x_i1_Machine : PySem.W.findIn K (.ref c_Machine) "__class__" = some (some (.builtin "object.__class__")))
    (x_i2_Machine : PySem.W.specialIn K (.builtin "object.__class__") "__get__" = some (some (.builtin "getset_descriptor.__get__")))
    (x_i3_Machine : PySem.W.takesIn K (.builtin "object.__class__") = some true)
    (x_i4_Machine : PySem.W.mroIn K c_Machine (.type "object") = some true)
    (l_LETTERS : K.lookup a_LETTERS = some ⟨.type "tuple", od_LETTERS, .seq #[.str "a" w0_LETTERS, .str "b" w1_LETTERS, .str "c" w2_LETTERS, .str "d" w3_LETTERS] n_LETTERS, sl_LETTERS⟩) : Txt K mg :=
  Txt.mk (K := K) (mg := mg)
    (a_led_to)
    (_)
    (fun_mk (st := s_led_to) l_led_to c_led_to kk_led_to)
    ((fun_mk (st := s_led_to) l_led_to c_led_to kk_led_to).binds (ps := ["steps", "begins"]) bb_led_to)
    (kk_led_to)
    (PySem.W.mg_of X G g_led_to)
    (a_longer_rows)
    (_)
    (fun_mk (st := s_longer_rows) l_longer_rows c_longer_rows kk_longer_rows)
    ((fun_mk (st := s_longer_rows) l_longer_rows c_longer_rows kk_longer_rows).binds (ps := ["steps", "sign", "rows"]) bb_longer_rows)
    (kk_longer_rows)
    (PySem.W.mg_of X G g_longer_rows)
    (a_improved)
    (_)
    (fun_mk (st := s_improved) l_improved c_improved kk_improved)
    ((fun_mk (st := s_improved) l_improved c_improved kk_improved).binds (ps := ["rows", "best"]) bb_improved)
    (kk_improved)
    (PySem.W.mg_of X G g_improved)
    (a_best_rows)
    (_)
    (fun_mk (st := s_best_rows) l_best_rows c_best_rows kk_best_rows)
    ((fun_mk (st := s_best_rows) l_best_rows c_best_rows kk_best_rows).binds (ps := ["many", "steps", "sign"]) bb_best_rows)
    (kk_best_rows)
    (PySem.W.mg_of X G g_best_rows)
    (a_shortest_rows)
    (_)
    (fun_mk (st := s_shortest_rows) l_shortest_rows c_shortest_rows kk_shortest_rows)
    ((fun_mk (st := s_shortest_rows) l_shortest_rows c_shortest_rows kk_shortest_rows).binds (ps := ["many", "steps"]) bb_shortest_rows)
    (kk_shortest_rows)
    (PySem.W.mg_of X G g_shortest_rows)
    (a_best_loops)
    (_)
    (fun_mk (st := s_best_loops) l_best_loops c_best_loops kk_best_loops)
    ((fun_mk (st := s_best_loops) l_best_loops c_best_loops kk_best_loops).binds (ps := ["many", "steps", "stand", "sign"]) bb_best_loops)
    (kk_best_loops)
    (PySem.W.mg_of X G g_best_loops)
    (a_Machine_init)
    (_)
    (fun_mk (st := s_Machine_init) l_Machine_init c_Machine_init kk_Machine_init)
    ((fun_mk (st := s_Machine_init) l_Machine_init c_Machine_init kk_Machine_init).binds (ps := ["self", "stands", "steps", "ends"]) bb_Machine_init)
    (kk_Machine_init)
    (a_Machine_stands)
    (_)
    (fun_mk (st := s_Machine_stands) l_Machine_stands c_Machine_stands kk_Machine_stands)
    ((fun_mk (st := s_Machine_stands) l_Machine_stands c_Machine_stands kk_Machine_stands).binds (ps := ["self"]) bb_Machine_stands)
    (kk_Machine_stands)
    (a_Machine_steps)
    (_)
    (fun_mk (st := s_Machine_steps) l_Machine_steps c_Machine_steps kk_Machine_steps)
    ((fun_mk (st := s_Machine_steps) l_Machine_steps c_Machine_steps kk_Machine_steps).binds (ps := ["self"]) bb_Machine_steps)
    (kk_Machine_steps)
    (a_Machine_ends)
    (_)
    (fun_mk (st := s_Machine_ends) l_Machine_ends c_Machine_ends kk_Machine_ends)
    ((fun_mk (st := s_Machine_ends) l_Machine_ends c_Machine_ends kk_Machine_ends).binds (ps := ["self"]) bb_Machine_ends)
    (kk_Machine_ends)
    (a_is_whole_number)
    (_)
    (fun_mk (st := s_is_whole_number) l_is_whole_number c_is_whole_number kk_is_whole_number)
    ((fun_mk (st := s_is_whole_number) l_is_whole_number c_is_whole_number kk_is_whole_number).binds (ps := ["value"]) bb_is_whole_number)
    (kk_is_whole_number)
    (PySem.W.mg_of X G g_is_whole_number)
    (a_is_integer_between)
    (_)
    (fun_mk (st := s_is_integer_between) l_is_integer_between c_is_integer_between kk_is_integer_between)
    ((fun_mk (st := s_is_integer_between) l_is_integer_between c_is_integer_between kk_is_integer_between).binds (ps := ["value", "least", "most"]) bb_is_integer_between)
    (kk_is_integer_between)
    (PySem.W.mg_of X G g_is_integer_between)
    (a_is_stand)
    (_)
    (fun_mk (st := s_is_stand) l_is_stand c_is_stand kk_is_stand)
    ((fun_mk (st := s_is_stand) l_is_stand c_is_stand kk_is_stand).binds (ps := ["stands", "value"]) bb_is_stand)
    (kk_is_stand)
    (PySem.W.mg_of X G g_is_stand)
    (a_check_stands)
    (_)
    (fun_mk (st := s_check_stands) l_check_stands c_check_stands kk_check_stands)
    ((fun_mk (st := s_check_stands) l_check_stands c_check_stands kk_check_stands).binds (ps := ["stands"]) bb_check_stands)
    (kk_check_stands)
    (PySem.W.mg_of X G g_check_stands)
    (a_is_step)
    (_)
    (fun_mk (st := s_is_step) l_is_step c_is_step kk_is_step)
    ((fun_mk (st := s_is_step) l_is_step c_is_step kk_is_step).binds (ps := ["stands", "value"]) bb_is_step)
    (kk_is_step)
    (PySem.W.mg_of X G g_is_step)
    (a_check_steps)
    (_)
    (fun_mk (st := s_check_steps) l_check_steps c_check_steps kk_check_steps)
    ((fun_mk (st := s_check_steps) l_check_steps c_check_steps kk_check_steps).binds (ps := ["stands", "steps"]) bb_check_steps)
    (kk_check_steps)
    (PySem.W.mg_of X G g_check_steps)
    (a_is_ascending)
    (_)
    (fun_mk (st := s_is_ascending) l_is_ascending c_is_ascending kk_is_ascending)
    ((fun_mk (st := s_is_ascending) l_is_ascending c_is_ascending kk_is_ascending).binds (ps := ["value", "many"]) bb_is_ascending)
    (kk_is_ascending)
    (PySem.W.mg_of X G g_is_ascending)
    (a_check_ends)
    (_)
    (fun_mk (st := s_check_ends) l_check_ends c_check_ends kk_check_ends)
    ((fun_mk (st := s_check_ends) l_check_ends c_check_ends kk_check_ends).binds (ps := ["stands", "ends"]) bb_check_ends)
    (kk_check_ends)
    (PySem.W.mg_of X G g_check_ends)
    (a_check_machine)
    (_)
    (fun_mk (st := s_check_machine) l_check_machine c_check_machine kk_check_machine)
    ((fun_mk (st := s_check_machine) l_check_machine c_check_machine kk_check_machine).binds (ps := ["value"]) bb_check_machine)
    (kk_check_machine)
    (PySem.W.mg_of X G g_check_machine)
    (a_moves_of)
    (_)
    (fun_mk (st := s_moves_of) l_moves_of c_moves_of kk_moves_of)
    ((fun_mk (st := s_moves_of) l_moves_of c_moves_of kk_moves_of).binds (ps := ["machine"]) bb_moves_of)
    (kk_moves_of)
    (PySem.W.mg_of X G g_moves_of)
    (a_way)
    (_)
    (fun_mk (st := s_way) l_way c_way kk_way)
    ((fun_mk (st := s_way) l_way c_way kk_way).binds (ps := ["machine", "stand", "value"]) bb_way)
    (kk_way)
    (PySem.W.mg_of X G g_way)
    (a_gain_of_loop)
    (_)
    (fun_mk (st := s_gain_of_loop) l_gain_of_loop c_gain_of_loop kk_gain_of_loop)
    ((fun_mk (st := s_gain_of_loop) l_gain_of_loop c_gain_of_loop kk_gain_of_loop).binds (ps := ["machine", "lead", "loop"]) bb_gain_of_loop)
    (kk_gain_of_loop)
    (PySem.W.mg_of X G g_gain_of_loop)
    (a_reached)
    (_)
    (fun_mk (st := s_reached) l_reached c_reached kk_reached)
    ((fun_mk (st := s_reached) l_reached c_reached kk_reached).binds (ps := ["machine"]) bb_reached)
    (kk_reached)
    (PySem.W.mg_of X G g_reached)
    (a_best_loop)
    (_)
    (fun_mk (st := s_best_loop) l_best_loop c_best_loop kk_best_loop)
    ((fun_mk (st := s_best_loop) l_best_loop c_best_loop kk_best_loop).binds (ps := ["machine", "sign"]) bb_best_loop)
    (kk_best_loop)
    (PySem.W.mg_of X G g_best_loop)
    (a_fraction)
    (_)
    (fun_mk (st := s_fraction) l_fraction c_fraction kk_fraction)
    ((fun_mk (st := s_fraction) l_fraction c_fraction kk_fraction).binds (ps := ["over", "under"]) bb_fraction)
    (kk_fraction)
    (PySem.W.mg_of X G g_fraction)
    (a_best_mean)
    (_)
    (fun_mk (st := s_best_mean) l_best_mean c_best_mean kk_best_mean)
    ((fun_mk (st := s_best_mean) l_best_mean c_best_mean kk_best_mean).binds (ps := ["machine", "sign"]) bb_best_mean)
    (kk_best_mean)
    (PySem.W.mg_of X G g_best_mean)
    (a_greatest_mean)
    (_)
    (fun_mk (st := s_greatest_mean) l_greatest_mean c_greatest_mean kk_greatest_mean)
    ((fun_mk (st := s_greatest_mean) l_greatest_mean c_greatest_mean kk_greatest_mean).binds (ps := ["machine"]) bb_greatest_mean)
    (kk_greatest_mean)
    (PySem.W.mg_of X G g_greatest_mean)
    (a_least_mean)
    (_)
    (fun_mk (st := s_least_mean) l_least_mean c_least_mean kk_least_mean)
    ((fun_mk (st := s_least_mean) l_least_mean c_least_mean kk_least_mean).binds (ps := ["machine"]) bb_least_mean)
    (kk_least_mean)
    (PySem.W.mg_of X G g_least_mean)
    (a_steps_over)
    (_)
    (fun_mk (st := s_steps_over) l_steps_over c_steps_over kk_steps_over)
    ((fun_mk (st := s_steps_over) l_steps_over c_steps_over kk_steps_over).binds (ps := ["machine", "over", "under"]) bb_steps_over)
    (kk_steps_over)
    (PySem.W.mg_of X G g_steps_over)
    (a_numbers)
    (_)
    (fun_mk (st := s_numbers) l_numbers c_numbers kk_numbers)
    ((fun_mk (st := s_numbers) l_numbers c_numbers kk_numbers).binds (ps := ["machine", "over", "under"]) bb_numbers)
    (kk_numbers)
    (PySem.W.mg_of X G g_numbers)
    (a_mean_paper)
    (_)
    (fun_mk (st := s_mean_paper) l_mean_paper c_mean_paper kk_mean_paper)
    ((fun_mk (st := s_mean_paper) l_mean_paper c_mean_paper kk_mean_paper).binds (ps := ["machine"]) bb_mean_paper)
    (kk_mean_paper)
    (PySem.W.mg_of X G g_mean_paper)
    (a_is_fraction)
    (_)
    (fun_mk (st := s_is_fraction) l_is_fraction c_is_fraction kk_is_fraction)
    ((fun_mk (st := s_is_fraction) l_is_fraction c_is_fraction kk_is_fraction).binds (ps := ["value"]) bb_is_fraction)
    (kk_is_fraction)
    (PySem.W.mg_of X G g_is_fraction)
    (a_is_mean_of)
    (_)
    (fun_mk (st := s_is_mean_of) l_is_mean_of c_is_mean_of kk_is_mean_of)
    ((fun_mk (st := s_is_mean_of) l_is_mean_of c_is_mean_of kk_is_mean_of).binds (ps := ["machine", "mean", "lead", "loop"]) bb_is_mean_of)
    (kk_is_mean_of)
    (PySem.W.mg_of X G g_is_mean_of)
    (a_bars_greater)
    (_)
    (fun_mk (st := s_bars_greater) l_bars_greater c_bars_greater kk_bars_greater)
    ((fun_mk (st := s_bars_greater) l_bars_greater c_bars_greater kk_bars_greater).binds (ps := ["machine", "mean", "numbers"]) bb_bars_greater)
    (kk_bars_greater)
    (PySem.W.mg_of X G g_bars_greater)
    (a_right_mean)
    (_)
    (fun_mk (st := s_right_mean) l_right_mean c_right_mean kk_right_mean)
    ((fun_mk (st := s_right_mean) l_right_mean c_right_mean kk_right_mean).binds (ps := ["machine", "value"]) bb_right_mean)
    (kk_right_mean)
    (PySem.W.mg_of X G g_right_mean)
    (a_law_taken)
    (_)
    (fun_mk (st := s_law_taken) l_law_taken c_law_taken kk_law_taken)
    ((fun_mk (st := s_law_taken) l_law_taken c_law_taken kk_law_taken).binds (ps := ["_law_row", "_law_many"]) bb_law_taken)
    (kk_law_taken)
    (PySem.W.mg_of X G g_law_taken)
    (a_law_parts)
    (_)
    (fun_mk (st := s_law_parts) l_law_parts c_law_parts kk_law_parts)
    ((fun_mk (st := s_law_parts) l_law_parts c_law_parts kk_law_parts).binds (ps := ["_law_row", "_law_stands", "_law_size"]) bb_law_parts)
    (kk_law_parts)
    (PySem.W.mg_of X G g_law_parts)
    (a_law_machine)
    (_)
    (fun_mk (st := s_law_machine) l_law_machine c_law_machine kk_law_machine)
    ((fun_mk (st := s_law_machine) l_law_machine c_law_machine kk_law_machine).binds (ps := ["_law_d"]) bb_law_machine)
    (kk_law_machine)
    (PySem.W.mg_of X G g_law_machine)
    (a_law_next)
    (_)
    (fun_mk (st := s_law_next) l_law_next c_law_next kk_law_next)
    ((fun_mk (st := s_law_next) l_law_next c_law_next kk_law_next).binds (ps := ["_law_d", "_law_stand"]) bb_law_next)
    (kk_law_next)
    (PySem.W.mg_of X G g_law_next)
    (a_law_way)
    (_)
    (fun_mk (st := s_law_way) l_law_way c_law_way kk_law_way)
    ((fun_mk (st := s_law_way) l_law_way c_law_way kk_law_way).binds (ps := ["_law_d", "_law_word", "_law_stand"]) bb_law_way)
    (kk_law_way)
    (PySem.W.mg_of X G g_law_way)
    (a_law_reached)
    (_)
    (fun_mk (st := s_law_reached) l_law_reached c_law_reached kk_law_reached)
    ((fun_mk (st := s_law_reached) l_law_reached c_law_reached kk_law_reached).binds (ps := ["_law_d"]) bb_law_reached)
    (kk_law_reached)
    (PySem.W.mg_of X G g_law_reached)
    (a_law_mean)
    (_)
    (fun_mk (st := s_law_mean) l_law_mean c_law_mean kk_law_mean)
    ((fun_mk (st := s_law_mean) l_law_mean c_law_mean kk_law_mean).binds (ps := ["_law_d", "_law_sign"]) bb_law_mean)
    (kk_law_mean)
    (PySem.W.mg_of X G g_law_mean)
    (a_law_gcd)
    (_)
    (fun_mk (st := s_law_gcd) l_law_gcd c_law_gcd kk_law_gcd)
    ((fun_mk (st := s_law_gcd) l_law_gcd c_law_gcd kk_law_gcd).binds (ps := ["_law_one", "_law_other"]) bb_law_gcd)
    (kk_law_gcd)
    (PySem.W.mg_of X G g_law_gcd)
    (a_law_fraction)
    (_)
    (fun_mk (st := s_law_fraction) l_law_fraction c_law_fraction kk_law_fraction)
    ((fun_mk (st := s_law_fraction) l_law_fraction c_law_fraction kk_law_fraction).binds (ps := ["_law_pair", "_law_sign"]) bb_law_fraction)
    (kk_law_fraction)
    (PySem.W.mg_of X G g_law_fraction)
    (a_law_is_mean)
    (_)
    (fun_mk (st := s_law_is_mean) l_law_is_mean c_law_is_mean kk_law_is_mean)
    ((fun_mk (st := s_law_is_mean) l_law_is_mean c_law_is_mean kk_law_is_mean).binds (ps := ["_law_d", "_law_value"]) bb_law_is_mean)
    (kk_law_is_mean)
    (PySem.W.mg_of X G g_law_is_mean)
    (a_law)
    (_)
    (fun_mk (st := s_law) l_law c_law kk_law)
    ((fun_mk (st := s_law) l_law c_law kk_law).binds (ps := ["_law_script"]) bb_law)
    (kk_law)
    (PySem.W.mg_of X G g_law)
    (c_Machine)
    (⟨pg_Machine, hd_Machine, po_Machine, sa_Machine⟩)
    (PySem.W.mg_of X G g_Machine)
    (⟨mi_Machine, fi_Machine, if_Machine, kc_Machine⟩)
    (nf_stands)
    (nf_steps)
    (nf_ends)
    (q_stands)
    (⟨pf_stands, pt_stands, pk_stands, ⟨_, pr_stands⟩⟩)
    (q_steps)
    (⟨pf_steps, pt_steps, pk_steps, ⟨_, pr_steps⟩⟩)
    (q_ends)
    (⟨pf_ends, pt_ends, pk_ends, ⟨_, pr_ends⟩⟩)
    (x_i1_Machine)
    (x_i2_Machine)
    (x_i3_Machine)
    (x_i4_Machine)
    (.int 8 t_MOST_STANDS)
    (PySem.W.mg_of X G g_MOST_STANDS)
    (⟨_, rfl⟩)
    (.int 1000000000000000000000000000000 t_MOST_GAIN)
    (PySem.W.mg_of X G g_MOST_GAIN)
    (⟨_, rfl⟩)
    (a_LETTERS)
    (PySem.W.mg_of X G g_LETTERS)
    (rfl)
    (fun H => .inr ⟨_, _, _, l_LETTERS, rfl, rfl, (by show 4 ≤ sizeLine; decide), (Paired.cons ⟨_, rfl⟩ (Paired.cons ⟨_, rfl⟩ (Paired.cons ⟨_, rfl⟩ (Paired.cons ⟨_, rfl⟩ Paired.nil))))⟩)
    (.str "endless" t_ENDLESS)
    (PySem.W.mg_of X G g_ENDLESS)
    (⟨_, rfl⟩)
    (PySem.W.mg_of X G g_gcd)
    (PySem.W.mg_none_of X G zz_abs)
    (PySem.W.mg_none_of X G zz_all)
    (PySem.W.mg_none_of X G zz_bool)
    (PySem.W.mg_none_of X G zz_enumerate)
    (PySem.W.mg_none_of X G zz_int)
    (PySem.W.mg_none_of X G zz_isinstance)
    (PySem.W.mg_none_of X G zz_len)
    (PySem.W.mg_none_of X G zz_list)
    (PySem.W.mg_none_of X G zz_max)
    (PySem.W.mg_none_of X G zz_min)
    (PySem.W.mg_none_of X G zz_range)
    (PySem.W.mg_none_of X G zz_sorted)
    (PySem.W.mg_none_of X G zz_str)
    (PySem.W.mg_none_of X G zz_tuple)
    (fun s v => .of_eq rfl)
theorem all_mk {l : PySem.W.OpenLaw} {w : World} {K : PySem.W.Frag} {mg : Str → Option Value} {fa : Addr} (T : Txt K mg) (hfa : mg "law" = some (.ref fa)) :
    ∃ fd : FuncData, (∀ (s : Shared) (v : Value), BindsTo s fd ⟨[v], []⟩ [("_law_script", v)]) ∧ ∀ base : Heap, K.In base → base.Ns mainGlobals mg → FnOk l.prog w K mg base (L2.CX l.prog w) 30 fa fd ["_law_script"] (sp_law K) := by
  have e := hfa.symm.trans T.m_law
  cases e
  exact ⟨T.fd_law, T.bs_law, fun _ _ _ => ok_law T⟩
theorem walk {l : PySem.W.OpenLaw} {q : Program} {loose : List Str} {XP : (Str → Option Value) → Heap → Prop} {YP : World → Heap → Prop} {d : DefRec} {K : Params → PySem.W.Frag} (hn : l.most = some 63) (hdf : d.params.defaults = [])
    (hY : ∀ (w : World) (h : Heap), YP w h → (K w.params).In h)
    (F : ∀ (w : World) (mg : Str → Option Value) (fa : Addr) (h : Heap), (K w.params).In h → h.Ns mainGlobals mg → mg d.name = some (.ref fa) →
      ∃ fd : FuncData, (∀ (s : Shared) (u : Value), BindsTo s fd ⟨[u], []⟩ [("_law_script", u)]) ∧ ∀ base : Heap, (K w.params).In base → base.Ns mainGlobals mg → FnOk l.prog w (K w.params) mg base (L2.CX l.prog w) 30 fa fd ["_law_script"] (sp_law (K w.params))) :
    PySem.W.WalkO q loose XP YP l.row.toRowW d [] (fun f vs => PySem.call f vs) :=
  L2.walk_of (n := 63) (k := 30) (x := "_law_script") (CX := fun w => L2.CX l.prog w) (sp := fun w => sp_law (K w.params)) hn (by decide) hdf ⟨rfl, by decide, by decide⟩ hY F
    (fun _ H a ns hl hO hS => ⟨a, ns, rfl, by
      rcases hS with (e | ⟨o, e⟩) | h
      · rcases hO a with z | ⟨_, _, z⟩
        · rw [e] at z; cases z
        · rw [e] at z; cases z
      · exact .inl ⟨o, e⟩
      · exact .inr fun _ => .inr h, hl, fun _ => rfl⟩)
    fun _ _ _ _ _ h => by
      obtain ⟨_, _, _, _, _, _, _, _, _, _, _, _, z⟩ := h
      exact z.elim
end Sv
open PySem PySem.W PyProof.Rows in
set_option maxRecDepth 100000 in
set_option maxHeartbeats 0 in
theorem PySem.Challenge.cw_staytallies_k16_whole_means_holds : PySem.Challenge.rw_staytallies_k16_whole_means.Holds := by
  w_on; o_law; k_head; (case hw => w_witness2)
  k_fill
  refine Sv.walk (l := PySem.Challenge.rw_staytallies_k16_whole_means) rfl rfl (fun w h Y => PySem.W.kIn_of Y) ?F
  case F =>
    intro w mg fa h KX G hmg
    refine' Sv.all_mk (Sv.txt_mk KX G ?g_led_to ?g_longer_rows ?g_improved ?g_best_rows ?g_shortest_rows ?g_best_loops ?g_is_whole_number ?g_is_integer_between ?g_is_stand ?g_check_stands ?g_is_step ?g_check_steps ?g_is_ascending ?g_check_ends ?g_check_machine ?g_moves_of ?g_way ?g_gain_of_loop ?g_reached ?g_best_loop ?g_fraction ?g_best_mean ?g_greatest_mean ?g_least_mean ?g_steps_over ?g_numbers ?g_mean_paper ?g_is_fraction ?g_is_mean_of ?g_bars_greater ?g_right_mean ?g_law_taken ?g_law_parts ?g_law_machine ?g_law_next ?g_law_way ?g_law_reached ?g_law_mean ?g_law_gcd ?g_law_fraction ?g_law_is_mean ?g_law ?g_Machine ?g_MOST_STANDS ?g_MOST_GAIN ?g_LETTERS ?g_ENDLESS ?g_gcd ?zz_abs ?zz_all ?zz_bool ?zz_enumerate ?zz_int ?zz_isinstance ?zz_len ?zz_list ?zz_max ?zz_min ?zz_range ?zz_sorted ?zz_str ?zz_tuple ?l_led_to ?c_led_to ?kk_led_to ?l_longer_rows ?c_longer_rows ?kk_longer_rows ?l_improved ?c_improved ?kk_improved ?l_best_rows ?c_best_rows ?kk_best_rows ?l_shortest_rows ?c_shortest_rows ?kk_shortest_rows ?l_best_loops ?c_best_loops ?kk_best_loops ?l_Machine_init ?c_Machine_init ?kk_Machine_init ?l_Machine_stands ?c_Machine_stands ?kk_Machine_stands ?l_Machine_steps ?c_Machine_steps ?kk_Machine_steps ?l_Machine_ends ?c_Machine_ends ?kk_Machine_ends ?l_is_whole_number ?c_is_whole_number ?kk_is_whole_number ?l_is_integer_between ?c_is_integer_between ?kk_is_integer_between ?l_is_stand ?c_is_stand ?kk_is_stand ?l_check_stands ?c_check_stands ?kk_check_stands ?l_is_step ?c_is_step ?kk_is_step ?l_check_steps ?c_check_steps ?kk_check_steps ?l_is_ascending ?c_is_ascending ?kk_is_ascending ?l_check_ends ?c_check_ends ?kk_check_ends ?l_check_machine ?c_check_machine ?kk_check_machine ?l_moves_of ?c_moves_of ?kk_moves_of ?l_way ?c_way ?kk_way ?l_gain_of_loop ?c_gain_of_loop ?kk_gain_of_loop ?l_reached ?c_reached ?kk_reached ?l_best_loop ?c_best_loop ?kk_best_loop ?l_fraction ?c_fraction ?kk_fraction ?l_best_mean ?c_best_mean ?kk_best_mean ?l_greatest_mean ?c_greatest_mean ?kk_greatest_mean ?l_least_mean ?c_least_mean ?kk_least_mean ?l_steps_over ?c_steps_over ?kk_steps_over ?l_numbers ?c_numbers ?kk_numbers ?l_mean_paper ?c_mean_paper ?kk_mean_paper ?l_is_fraction ?c_is_fraction ?kk_is_fraction ?l_is_mean_of ?c_is_mean_of ?kk_is_mean_of ?l_bars_greater ?c_bars_greater ?kk_bars_greater ?l_right_mean ?c_right_mean ?kk_right_mean ?l_law_taken ?c_law_taken ?kk_law_taken ?l_law_parts ?c_law_parts ?kk_law_parts ?l_law_machine ?c_law_machine ?kk_law_machine ?l_law_next ?c_law_next ?kk_law_next ?l_law_way ?c_law_way ?kk_law_way ?l_law_reached ?c_law_reached ?kk_law_reached ?l_law_mean ?c_law_mean ?kk_law_mean ?l_law_gcd ?c_law_gcd ?kk_law_gcd ?l_law_fraction ?c_law_fraction ?kk_law_fraction ?l_law_is_mean ?c_law_is_mean ?kk_law_is_mean ?l_law ?c_law ?kk_law ?pg_Machine ?hd_Machine ?po_Machine ?sa_Machine ?mi_Machine ?kc_Machine ?fi_Machine ?if_Machine ?nf_stands ?nf_steps ?nf_ends ?pf_stands ?pt_stands ?pk_stands ?pr_stands ?pf_steps ?pt_steps ?pk_steps ?pr_steps ?pf_ends ?pt_ends ?pk_ends ?pr_ends ?x_i1_Machine ?x_i2_Machine ?x_i3_Machine ?x_i4_Machine ?l_LETTERS) hmg
    (case g_led_to => k_is)
    (case g_longer_rows => k_is)
    (case g_improved => k_is)
    (case g_best_rows => k_is)
    (case g_shortest_rows => k_is)
    (case g_best_loops => k_is)
    (case g_is_whole_number => k_is)
    (case g_is_integer_between => k_is)
    (case g_is_stand => k_is)
    (case g_check_stands => k_is)
    (case g_is_step => k_is)
    (case g_check_steps => k_is)
    (case g_is_ascending => k_is)
    (case g_check_ends => k_is)
    (case g_check_machine => k_is)
    (case g_moves_of => k_is)
    (case g_way => k_is)
    (case g_gain_of_loop => k_is)
    (case g_reached => k_is)
    (case g_best_loop => k_is)
    (case g_fraction => k_is)
    (case g_best_mean => k_is)
    (case g_greatest_mean => k_is)
    (case g_least_mean => k_is)
    (case g_steps_over => k_is)
    (case g_numbers => k_is)
    (case g_mean_paper => k_is)
    (case g_is_fraction => k_is)
    (case g_is_mean_of => k_is)
    (case g_bars_greater => k_is)
    (case g_right_mean => k_is)
    (case g_law_taken => k_is)
    (case g_law_parts => k_is)
    (case g_law_machine => k_is)
    (case g_law_next => k_is)
    (case g_law_way => k_is)
    (case g_law_reached => k_is)
    (case g_law_mean => k_is)
    (case g_law_gcd => k_is)
    (case g_law_fraction => k_is)
    (case g_law_is_mean => k_is)
    (case g_law => k_is)
    (case g_Machine => k_is)
    (case g_MOST_STANDS => k_is)
    (case g_MOST_GAIN => k_is)
    (case g_LETTERS => k_is)
    (case g_ENDLESS => k_is)
    (case g_gcd => k_is)
    (case zz_abs => k_is)
    (case zz_all => k_is)
    (case zz_bool => k_is)
    (case zz_enumerate => k_is)
    (case zz_int => k_is)
    (case zz_isinstance => k_is)
    (case zz_len => k_is)
    (case zz_list => k_is)
    (case zz_max => k_is)
    (case zz_min => k_is)
    (case zz_range => k_is)
    (case zz_sorted => k_is)
    (case zz_str => k_is)
    (case zz_tuple => k_is)
    (case pg_Machine => k_is)
    (case hd_Machine => k_is)
    (case po_Machine => k_is)
    (case sa_Machine => k_is)
    (case mi_Machine => k_is)
    (case kc_Machine => k_is)
    (case fi_Machine => k_is)
    (case if_Machine => k_is)
    (case nf_stands => k_is)
    (case nf_steps => k_is)
    (case nf_ends => k_is)
    (case pf_stands => k_is)
    (case pt_stands => k_is)
    (case pk_stands => k_is)
    (case pr_stands => k_is)
    (case pf_steps => k_is)
    (case pt_steps => k_is)
    (case pk_steps => k_is)
    (case pr_steps => k_is)
    (case pf_ends => k_is)
    (case pt_ends => k_is)
    (case pk_ends => k_is)
    (case pr_ends => k_is)
    (case x_i1_Machine => k_is)
    (case x_i2_Machine => k_is)
    (case x_i3_Machine => k_is)
    (case x_i4_Machine => k_is)
    (case l_LETTERS => k_is)
    (case l_led_to => k_is)
    (case c_led_to => k_is)
    (case kk_led_to => k_is)
    (case l_longer_rows => k_is)
    (case c_longer_rows => k_is)
    (case kk_longer_rows => k_is)
    (case l_improved => k_is)
    (case c_improved => k_is)
    (case kk_improved => k_is)
    (case l_best_rows => k_is)
    (case c_best_rows => k_is)
    (case kk_best_rows => k_is)
    (case l_shortest_rows => k_is)
    (case c_shortest_rows => k_is)
    (case kk_shortest_rows => k_is)
    (case l_best_loops => k_is)
    (case c_best_loops => k_is)
    (case kk_best_loops => k_is)
    (case l_Machine_init => k_is)
    (case c_Machine_init => k_is)
    (case kk_Machine_init => k_is)
    (case l_Machine_stands => k_is)
    (case c_Machine_stands => k_is)
    (case kk_Machine_stands => k_is)
    (case l_Machine_steps => k_is)
    (case c_Machine_steps => k_is)
    (case kk_Machine_steps => k_is)
    (case l_Machine_ends => k_is)
    (case c_Machine_ends => k_is)
    (case kk_Machine_ends => k_is)
    (case l_is_whole_number => k_is)
    (case c_is_whole_number => k_is)
    (case kk_is_whole_number => k_is)
    (case l_is_integer_between => k_is)
    (case c_is_integer_between => k_is)
    (case kk_is_integer_between => k_is)
    (case l_is_stand => k_is)
    (case c_is_stand => k_is)
    (case kk_is_stand => k_is)
    (case l_check_stands => k_is)
    (case c_check_stands => k_is)
    (case kk_check_stands => k_is)
    (case l_is_step => k_is)
    (case c_is_step => k_is)
    (case kk_is_step => k_is)
    (case l_check_steps => k_is)
    (case c_check_steps => k_is)
    (case kk_check_steps => k_is)
    (case l_is_ascending => k_is)
    (case c_is_ascending => k_is)
    (case kk_is_ascending => k_is)
    (case l_check_ends => k_is)
    (case c_check_ends => k_is)
    (case kk_check_ends => k_is)
    (case l_check_machine => k_is)
    (case c_check_machine => k_is)
    (case kk_check_machine => k_is)
    (case l_moves_of => k_is)
    (case c_moves_of => k_is)
    (case kk_moves_of => k_is)
    (case l_way => k_is)
    (case c_way => k_is)
    (case kk_way => k_is)
    (case l_gain_of_loop => k_is)
    (case c_gain_of_loop => k_is)
    (case kk_gain_of_loop => k_is)
    (case l_reached => k_is)
    (case c_reached => k_is)
    (case kk_reached => k_is)
    (case l_best_loop => k_is)
    (case c_best_loop => k_is)
    (case kk_best_loop => k_is)
    (case l_fraction => k_is)
    (case c_fraction => k_is)
    (case kk_fraction => k_is)
    (case l_best_mean => k_is)
    (case c_best_mean => k_is)
    (case kk_best_mean => k_is)
    (case l_greatest_mean => k_is)
    (case c_greatest_mean => k_is)
    (case kk_greatest_mean => k_is)
    (case l_least_mean => k_is)
    (case c_least_mean => k_is)
    (case kk_least_mean => k_is)
    (case l_steps_over => k_is)
    (case c_steps_over => k_is)
    (case kk_steps_over => k_is)
    (case l_numbers => k_is)
    (case c_numbers => k_is)
    (case kk_numbers => k_is)
    (case l_mean_paper => k_is)
    (case c_mean_paper => k_is)
    (case kk_mean_paper => k_is)
    (case l_is_fraction => k_is)
    (case c_is_fraction => k_is)
    (case kk_is_fraction => k_is)
    (case l_is_mean_of => k_is)
    (case c_is_mean_of => k_is)
    (case kk_is_mean_of => k_is)
    (case l_bars_greater => k_is)
    (case c_bars_greater => k_is)
    (case kk_bars_greater => k_is)
    (case l_right_mean => k_is)
    (case c_right_mean => k_is)
    (case kk_right_mean => k_is)
    (case l_law_taken => k_is)
    (case c_law_taken => k_is)
    (case kk_law_taken => k_is)
    (case l_law_parts => k_is)
    (case c_law_parts => k_is)
    (case kk_law_parts => k_is)
    (case l_law_machine => k_is)
    (case c_law_machine => k_is)
    (case kk_law_machine => k_is)
    (case l_law_next => k_is)
    (case c_law_next => k_is)
    (case kk_law_next => k_is)
    (case l_law_way => k_is)
    (case c_law_way => k_is)
    (case kk_law_way => k_is)
    (case l_law_reached => k_is)
    (case c_law_reached => k_is)
    (case kk_law_reached => k_is)
    (case l_law_mean => k_is)
    (case c_law_mean => k_is)
    (case kk_law_mean => k_is)
    (case l_law_gcd => k_is)
    (case c_law_gcd => k_is)
    (case kk_law_gcd => k_is)
    (case l_law_fraction => k_is)
    (case c_law_fraction => k_is)
    (case kk_law_fraction => k_is)
    (case l_law_is_mean => k_is)
    (case c_law_is_mean => k_is)
    (case kk_law_is_mean => k_is)
    (case l_law => k_is)
    (case c_law => k_is)
    (case kk_law => k_is)
#print axioms PySem.Challenge.cw_staytallies_k16_whole_means_holds
