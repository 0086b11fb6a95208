import PyProof.Rows.All
import Wide.All
import OpenK.AllK
import Wide.FinOn
import HandS.ForMost
import HandS.ForExc
import HandS.Wide
import HandS.Property
import HandS.IsInst
import HandS.TupAny
import HandS.TupLe
import HandS.Style
import HandS.Flow
import HandS.ExcInit
import HandS.ExcField
import HandS.FStr
import HandS.OwnEq
import KE.GoesMore
import HandS.Codes
import HandS.DictComp
import HandS.Walk
import HandS.SortInts
import HandS.TupMul
import HandS.Gcd
import HandS.Head3
import HandS.HeadHook2
import HandS.SetKeys
import PySem.Challenge.RW_staytallies_k10_bounds_refused
set_option Elab.async false
set_option linter.all false
set_option maxRecDepth 100000
set_option maxHeartbeats 4000000
namespace Sv
open PySem L2
def top (i : Nat) : Stmt := PySem.Challenge.pw_staytallies_k10_bounds_refused.main.body.getD i (.Pass ⟨0, 0, 0, 0⟩)
abbrev s_BadNumber_init : Stmt := (inClass (top 7) 0)
abbrev s_led_to : Stmt := (top 11)
abbrev s_longer_rows : Stmt := (top 12)
abbrev s_improved : Stmt := (top 13)
abbrev s_best_rows : Stmt := (top 14)
abbrev s_shortest_rows : Stmt := (top 15)
abbrev s_best_loops : Stmt := (top 16)
abbrev s_best_of : Stmt := (top 17)
abbrev s_least_and_greatest : Stmt := (top 18)
abbrev s_is_within : Stmt := (top 19)
abbrev s_first_row_out : Stmt := (top 20)
abbrev s_Machine_init : Stmt := (inClass (top 26) 0)
abbrev s_Machine_stands : Stmt := (inClass (top 26) 1)
abbrev s_Machine_steps : Stmt := (inClass (top 26) 2)
abbrev s_Machine_ends : Stmt := (inClass (top 26) 3)
abbrev s_is_whole_number : Stmt := (top 27)
abbrev s_is_integer_between : Stmt := (top 28)
abbrev s_is_stand : Stmt := (top 29)
abbrev s_check_stands : Stmt := (top 30)
abbrev s_is_step : Stmt := (top 31)
abbrev s_check_steps : Stmt := (top 32)
abbrev s_is_ascending : Stmt := (top 33)
abbrev s_check_ends : Stmt := (top 34)
abbrev s_check_machine : Stmt := (top 35)
abbrev s_check_stand : Stmt := (top 36)
abbrev s_check_number : Stmt := (top 37)
abbrev s_moves_of : Stmt := (top 38)
abbrev s_way : Stmt := (top 39)
abbrev s_gain_of_loop : Stmt := (top 40)
abbrev s_reached : Stmt := (top 41)
abbrev s_tally_at : Stmt := (top 43)
abbrev s_greatest_at : Stmt := (top 44)
abbrev s_least_at : Stmt := (top 45)
abbrev s_bounds : Stmt := (top 46)
abbrev s_check_bounds : Stmt := (top 49)
abbrev s_stays : Stmt := (top 50)
abbrev s_ring : Stmt := (top 51)
abbrev s_row_outside : Stmt := (top 52)
abbrev s_bar : Stmt := (top 53)
abbrev s_bars_as_row : Stmt := (top 54)
abbrev s_bars_as_ring : Stmt := (top 55)
abbrev s_right_bar : Stmt := (top 56)
abbrev s_span_at : Stmt := (top 57)
abbrev s_paper : Stmt := (top 58)
abbrev s_is_span : Stmt := (top 59)
abbrev s_covers : Stmt := (top 60)
abbrev s_leads_on : Stmt := (top 61)
abbrev s_right_paper : Stmt := (top 62)
abbrev s_moves_from : Stmt := (top 63)
abbrev s_first_leaving : Stmt := (top 64)
abbrev s_longer : Stmt := (top 67)
abbrev s_numbers : Stmt := (top 68)
abbrev s_count_staying : Stmt := (top 69)
abbrev s_law_taken : Stmt := (top 71)
abbrev s_law_call : Stmt := (top 72)
abbrev s_law_refused : Stmt := (top 73)
abbrev s_law : Stmt := (top 74)
theorem sc_BadNumber_init : FnScope ["self", "n"] ["self", "n"] (defScope s_BadNumber_init) := ⟨rfl, rfl, rfl, by decide +kernel, rfl, by decide +kernel, by decide +kernel⟩
theorem sc_led_to : FnScope ["steps", "begins", "found", "waiting", "stand", "begun", "_", "end"] ["steps", "begins"] (defScope s_led_to) := ⟨rfl, rfl, rfl, by decide +kernel, rfl, by decide +kernel, by decide +kernel⟩
theorem sc_longer_rows : FnScope ["steps", "sign", "rows", "longer", "begun", "letter", "end", "gain", "tally", "row"] ["steps", "sign", "rows"] (defScope s_longer_rows) := ⟨rfl, rfl, rfl, by decide +kernel, rfl, by decide +kernel, by decide +kernel⟩
theorem sc_improved : FnScope ["rows", "best", "stand"] ["rows", "best"] (defScope s_improved) := ⟨rfl, rfl, rfl, by decide +kernel, rfl, by decide +kernel, by decide +kernel⟩
theorem sc_best_rows : FnScope ["many", "steps", "sign", "best", "rows", "_", "improved", "stand", "endless"] ["many", "steps", "sign"] (defScope s_best_rows) := ⟨rfl, rfl, rfl, by decide +kernel, rfl, by decide +kernel, by decide +kernel⟩
theorem sc_shortest_rows : FnScope ["many", "steps", "best", "stand"] ["many", "steps"] (defScope s_shortest_rows) := ⟨rfl, rfl, rfl, by decide +kernel, rfl, by decide +kernel, by decide +kernel⟩
theorem sc_best_loops : FnScope ["many", "steps", "stand", "sign", "loops", "rows", "_"] ["many", "steps", "stand", "sign"] (defScope s_best_loops) := ⟨rfl, rfl, rfl, by decide +kernel, rfl, by decide +kernel, by decide +kernel⟩
theorem sc_best_of : FnScope ["many", "steps", "sign", "stands", "best", "tallies", "stand"] ["many", "steps", "sign", "stands"] (defScope s_best_of) := ⟨rfl, rfl, rfl, by decide +kernel, rfl, by decide +kernel, by decide +kernel⟩
theorem sc_least_and_greatest : FnScope ["many", "steps", "stands"] ["many", "steps", "stands"] (defScope s_least_and_greatest) := ⟨rfl, rfl, rfl, by decide +kernel, rfl, by decide +kernel, by decide +kernel⟩
theorem sc_is_within : FnScope ["pair", "low", "high", "least", "greatest"] ["pair", "low", "high"] (defScope s_is_within) := ⟨rfl, rfl, rfl, by decide +kernel, rfl, by decide +kernel, by decide +kernel⟩
theorem sc_first_row_out : FnScope ["moves", "begin", "seen", "layer", "longer", "place", "row", "letter", "end"] ["moves", "begin"] (defScope s_first_row_out) := ⟨rfl, rfl, rfl, by decide +kernel, rfl, by decide +kernel, by decide +kernel⟩
theorem sc_Machine_init : FnScope ["self", "stands", "steps", "ends"] ["self", "stands", "steps", "ends"] (defScope s_Machine_init) := ⟨rfl, rfl, rfl, by decide +kernel, rfl, by decide +kernel, by decide +kernel⟩
theorem sc_Machine_stands : FnScope ["self"] ["self"] (defScope s_Machine_stands) := ⟨rfl, rfl, rfl, by decide +kernel, rfl, by decide +kernel, by decide +kernel⟩
theorem sc_Machine_steps : FnScope ["self"] ["self"] (defScope s_Machine_steps) := ⟨rfl, rfl, rfl, by decide +kernel, rfl, by decide +kernel, by decide +kernel⟩
theorem sc_Machine_ends : FnScope ["self"] ["self"] (defScope s_Machine_ends) := ⟨rfl, rfl, rfl, by decide +kernel, rfl, by decide +kernel, by decide +kernel⟩
theorem sc_is_whole_number : FnScope ["value"] ["value"] (defScope s_is_whole_number) := ⟨rfl, rfl, rfl, by decide +kernel, rfl, by decide +kernel, by decide +kernel⟩
theorem sc_is_integer_between : FnScope ["value", "least", "most"] ["value", "least", "most"] (defScope s_is_integer_between) := ⟨rfl, rfl, rfl, by decide +kernel, rfl, by decide +kernel, by decide +kernel⟩
theorem sc_is_stand : FnScope ["stands", "value"] ["stands", "value"] (defScope s_is_stand) := ⟨rfl, rfl, rfl, by decide +kernel, rfl, by decide +kernel, by decide +kernel⟩
theorem sc_check_stands : FnScope ["stands"] ["stands"] (defScope s_check_stands) := ⟨rfl, rfl, rfl, by decide +kernel, rfl, by decide +kernel, by decide +kernel⟩
theorem sc_is_step : FnScope ["stands", "value", "begun", "letter", "end", "gain"] ["stands", "value"] (defScope s_is_step) := ⟨rfl, rfl, rfl, by decide +kernel, rfl, by decide +kernel, by decide +kernel⟩
theorem sc_check_steps : FnScope ["stands", "steps", "index", "step"] ["stands", "steps"] (defScope s_check_steps) := ⟨rfl, rfl, rfl, by decide +kernel, rfl, by decide +kernel, by decide +kernel⟩
theorem sc_is_ascending : FnScope ["value", "many", "least", "number"] ["value", "many"] (defScope s_is_ascending) := ⟨rfl, rfl, rfl, by decide +kernel, rfl, by decide +kernel, by decide +kernel⟩
theorem sc_check_ends : FnScope ["stands", "ends"] ["stands", "ends"] (defScope s_check_ends) := ⟨rfl, rfl, rfl, by decide +kernel, rfl, by decide +kernel, by decide +kernel⟩
theorem sc_check_machine : FnScope ["value"] ["value"] (defScope s_check_machine) := ⟨rfl, rfl, rfl, by decide +kernel, rfl, by decide +kernel, by decide +kernel⟩
theorem sc_check_stand : FnScope ["machine", "value"] ["machine", "value"] (defScope s_check_stand) := ⟨rfl, rfl, rfl, by decide +kernel, rfl, by decide +kernel, by decide +kernel⟩
theorem sc_check_number : FnScope ["value", "least", "most"] ["value", "least", "most"] (defScope s_check_number) := ⟨rfl, rfl, rfl, by decide +kernel, rfl, by decide +kernel, by decide +kernel⟩
theorem sc_moves_of : FnScope ["machine", "begun", "letter", "end", "gain"] ["machine"] (defScope s_moves_of) := ⟨rfl, rfl, rfl, by decide +kernel, rfl, by decide +kernel, by decide +kernel⟩
theorem sc_way : FnScope ["machine", "stand", "value", "moves", "sums", "letter", "gain"] ["machine", "stand", "value"] (defScope s_way) := ⟨rfl, rfl, rfl, by decide +kernel, rfl, by decide +kernel, by decide +kernel⟩
theorem sc_gain_of_loop : FnScope ["machine", "lead", "loop", "place", "back"] ["machine", "lead", "loop"] (defScope s_gain_of_loop) := ⟨rfl, rfl, rfl, by decide +kernel, rfl, by decide +kernel, by decide +kernel⟩
theorem sc_reached : FnScope ["machine"] ["machine"] (defScope s_reached) := ⟨rfl, rfl, rfl, by decide +kernel, rfl, by decide +kernel, by decide +kernel⟩
theorem sc_tally_at : FnScope ["machine", "stand", "sign", "best", "tally"] ["machine", "stand", "sign"] (defScope s_tally_at) := ⟨rfl, rfl, rfl, by decide +kernel, rfl, by decide +kernel, by decide +kernel⟩
theorem sc_greatest_at : FnScope ["machine", "stand"] ["machine", "stand"] (defScope s_greatest_at) := ⟨rfl, rfl, rfl, by decide +kernel, rfl, by decide +kernel, by decide +kernel⟩
theorem sc_least_at : FnScope ["machine", "stand"] ["machine", "stand"] (defScope s_least_at) := ⟨rfl, rfl, rfl, by decide +kernel, rfl, by decide +kernel, by decide +kernel⟩
theorem sc_bounds : FnScope ["machine"] ["machine"] (defScope s_bounds) := ⟨rfl, rfl, rfl, by decide +kernel, rfl, by decide +kernel, by decide +kernel⟩
theorem sc_check_bounds : FnScope ["low", "high", "most"] ["low", "high", "most"] (defScope s_check_bounds) := ⟨rfl, rfl, rfl, by decide +kernel, rfl, by decide +kernel, by decide +kernel⟩
theorem sc_stays : FnScope ["machine", "low", "high"] ["machine", "low", "high"] (defScope s_stays) := ⟨rfl, rfl, rfl, by decide +kernel, rfl, by decide +kernel, by decide +kernel⟩
theorem sc_ring : FnScope ["machine", "leads", "stand", "sign", "gain", "loop"] ["machine"] (defScope s_ring) := ⟨rfl, rfl, rfl, by decide +kernel, rfl, by decide +kernel, by decide +kernel⟩
theorem sc_row_outside : FnScope ["machine", "low", "high", "sign", "best", "stand", "tally", "row"] ["machine", "low", "high"] (defScope s_row_outside) := ⟨rfl, rfl, rfl, by decide +kernel, rfl, by decide +kernel, by decide +kernel⟩
theorem sc_bar : FnScope ["machine", "low", "high", "ring"] ["machine", "low", "high"] (defScope s_bar) := ⟨rfl, rfl, rfl, by decide +kernel, rfl, by decide +kernel, by decide +kernel⟩
theorem sc_bars_as_row : FnScope ["machine", "low", "high", "row", "place"] ["machine", "low", "high", "row"] (defScope s_bars_as_row) := ⟨rfl, rfl, rfl, by decide +kernel, rfl, by decide +kernel, by decide +kernel⟩
theorem sc_bars_as_ring : FnScope ["machine", "lead", "loop", "gain"] ["machine", "lead", "loop"] (defScope s_bars_as_ring) := ⟨rfl, rfl, rfl, by decide +kernel, rfl, by decide +kernel, by decide +kernel⟩
theorem sc_right_bar : FnScope ["machine", "low", "high", "value"] ["machine", "low", "high", "value"] (defScope s_right_bar) := ⟨rfl, rfl, rfl, by decide +kernel, rfl, by decide +kernel, by decide +kernel⟩
theorem sc_span_at : FnScope ["machine", "stand", "least"] ["machine", "stand"] (defScope s_span_at) := ⟨rfl, rfl, rfl, by decide +kernel, rfl, by decide +kernel, by decide +kernel⟩
theorem sc_paper : FnScope ["machine", "low", "high", "stand"] ["machine", "low", "high"] (defScope s_paper) := ⟨rfl, rfl, rfl, by decide +kernel, rfl, by decide +kernel, by decide +kernel⟩
theorem sc_is_span : FnScope ["value", "low", "high", "least", "most"] ["value", "low", "high"] (defScope s_is_span) := ⟨rfl, rfl, rfl, by decide +kernel, rfl, by decide +kernel, by decide +kernel⟩
theorem sc_covers : FnScope ["span", "least", "most"] ["span", "least", "most"] (defScope s_covers) := ⟨rfl, rfl, rfl, by decide +kernel, rfl, by decide +kernel, by decide +kernel⟩
theorem sc_leads_on : FnScope ["spans", "step", "begun", "_", "end", "gain", "least", "most"] ["spans", "step"] (defScope s_leads_on) := ⟨rfl, rfl, rfl, by decide +kernel, rfl, by decide +kernel, by decide +kernel⟩
theorem sc_right_paper : FnScope ["machine", "low", "high", "value", "span", "step"] ["machine", "low", "high", "value"] (defScope s_right_paper) := ⟨rfl, rfl, rfl, by decide +kernel, rfl, by decide +kernel, by decide +kernel⟩
theorem sc_moves_from : FnScope ["machine", "stand", "tally", "low", "high", "moves", "begun", "letter", "end", "gain"] ["machine", "stand", "tally", "low", "high"] (defScope s_moves_from) := ⟨rfl, rfl, rfl, by decide +kernel, rfl, by decide +kernel, by decide +kernel⟩
theorem sc_first_leaving : FnScope ["machine", "low", "high", "moves", "stand", "tally"] ["machine", "low", "high"] (defScope s_first_leaving) := ⟨rfl, rfl, rfl, by decide +kernel, rfl, by decide +kernel, by decide +kernel⟩
theorem sc_longer : FnScope ["steps", "numbers", "low", "high", "longer", "begun", "_", "end", "gain", "there", "tally", "number"] ["steps", "numbers", "low", "high"] (defScope s_longer) := ⟨rfl, rfl, rfl, by decide +kernel, rfl, by decide +kernel, by decide +kernel⟩
theorem sc_numbers : FnScope ["machine", "length", "low", "high", "numbers", "_", "found", "end", "tally", "number"] ["machine", "length", "low", "high"] (defScope s_numbers) := ⟨rfl, rfl, rfl, by decide +kernel, rfl, by decide +kernel, by decide +kernel⟩
theorem sc_count_staying : FnScope ["machine", "length", "low", "high"] ["machine", "length", "low", "high"] (defScope s_count_staying) := ⟨rfl, rfl, rfl, by decide +kernel, rfl, by decide +kernel, by decide +kernel⟩
theorem sc_law_taken : FnScope ["_law_row", "_law_many", "_law_found", "_law_cell"] ["_law_row", "_law_many"] (defScope s_law_taken) := ⟨rfl, rfl, rfl, by decide +kernel, rfl, by decide +kernel, by decide +kernel⟩
theorem sc_law_call : FnScope ["_law_kind", "_law_low", "_law_high", "_law_machine"] ["_law_kind", "_law_low", "_law_high"] (defScope s_law_call) := ⟨rfl, rfl, rfl, by decide +kernel, rfl, by decide +kernel, by decide +kernel⟩
theorem sc_law_refused : FnScope ["_law_kind", "_law_low", "_law_high", "_law_raised"] ["_law_kind", "_law_low", "_law_high"] (defScope s_law_refused) := ⟨rfl, rfl, rfl, by decide +kernel, rfl, by decide +kernel, by decide +kernel⟩
theorem sc_law : FnScope ["_law_script", "_law_row", "_law_turn", "_law_most", "_law_odd", "_law_low", "_law_high"] ["_law_script"] (defScope s_law) := ⟨rfl, rfl, rfl, by decide +kernel, rfl, by decide +kernel, by decide +kernel⟩
structure Txt (K : PySem.W.Frag) (mg : Str → Option Value) : Type where
  a_BadNumber_init : Addr
  fd_BadNumber_init : FuncData
  F_BadNumber_init : Fun K "__init__" "BadNumber.__init__" s_BadNumber_init a_BadNumber_init fd_BadNumber_init
  b_BadNumber_init : Binds K fd_BadNumber_init ["self", "n"] []
  k_BadNumber_init : PySem.W.keepIn K (.ref a_BadNumber_init) = true
  a_led_to : Addr
  fd_led_to : FuncData
  F_led_to : Fun K "led_to" "led_to" s_led_to a_led_to fd_led_to
  b_led_to : Binds K fd_led_to ["steps", "begins"] []
  k_led_to : PySem.W.keepIn K (.ref a_led_to) = true
  m_led_to : mg "led_to" = some (.ref a_led_to)
  a_longer_rows : Addr
  fd_longer_rows : FuncData
  F_longer_rows : Fun K "longer_rows" "longer_rows" s_longer_rows a_longer_rows fd_longer_rows
  b_longer_rows : Binds K fd_longer_rows ["steps", "sign", "rows"] []
  k_longer_rows : PySem.W.keepIn K (.ref a_longer_rows) = true
  m_longer_rows : mg "longer_rows" = some (.ref a_longer_rows)
  a_improved : Addr
  fd_improved : FuncData
  F_improved : Fun K "_improved" "_improved" s_improved a_improved fd_improved
  b_improved : Binds K fd_improved ["rows", "best"] []
  k_improved : PySem.W.keepIn K (.ref a_improved) = true
  m_improved : mg "_improved" = some (.ref a_improved)
  a_best_rows : Addr
  fd_best_rows : FuncData
  F_best_rows : Fun K "best_rows" "best_rows" s_best_rows a_best_rows fd_best_rows
  b_best_rows : Binds K fd_best_rows ["many", "steps", "sign"] []
  k_best_rows : PySem.W.keepIn K (.ref a_best_rows) = true
  m_best_rows : mg "best_rows" = some (.ref a_best_rows)
  a_shortest_rows : Addr
  fd_shortest_rows : FuncData
  F_shortest_rows : Fun K "shortest_rows" "shortest_rows" s_shortest_rows a_shortest_rows fd_shortest_rows
  b_shortest_rows : Binds K fd_shortest_rows ["many", "steps"] []
  k_shortest_rows : PySem.W.keepIn K (.ref a_shortest_rows) = true
  m_shortest_rows : mg "shortest_rows" = some (.ref a_shortest_rows)
  a_best_loops : Addr
  fd_best_loops : FuncData
  F_best_loops : Fun K "best_loops" "best_loops" s_best_loops a_best_loops fd_best_loops
  b_best_loops : Binds K fd_best_loops ["many", "steps", "stand", "sign"] []
  k_best_loops : PySem.W.keepIn K (.ref a_best_loops) = true
  m_best_loops : mg "best_loops" = some (.ref a_best_loops)
  a_best_of : Addr
  fd_best_of : FuncData
  F_best_of : Fun K "_best_of" "_best_of" s_best_of a_best_of fd_best_of
  b_best_of : Binds K fd_best_of ["many", "steps", "sign", "stands"] []
  k_best_of : PySem.W.keepIn K (.ref a_best_of) = true
  m_best_of : mg "_best_of" = some (.ref a_best_of)
  a_least_and_greatest : Addr
  fd_least_and_greatest : FuncData
  F_least_and_greatest : Fun K "least_and_greatest" "least_and_greatest" s_least_and_greatest a_least_and_greatest fd_least_and_greatest
  b_least_and_greatest : Binds K fd_least_and_greatest ["many", "steps", "stands"] []
  k_least_and_greatest : PySem.W.keepIn K (.ref a_least_and_greatest) = true
  m_least_and_greatest : mg "least_and_greatest" = some (.ref a_least_and_greatest)
  a_is_within : Addr
  fd_is_within : FuncData
  F_is_within : Fun K "is_within" "is_within" s_is_within a_is_within fd_is_within
  b_is_within : Binds K fd_is_within ["pair", "low", "high"] []
  k_is_within : PySem.W.keepIn K (.ref a_is_within) = true
  m_is_within : mg "is_within" = some (.ref a_is_within)
  a_first_row_out : Addr
  fd_first_row_out : FuncData
  F_first_row_out : Fun K "first_row_out" "first_row_out" s_first_row_out a_first_row_out fd_first_row_out
  b_first_row_out : Binds K fd_first_row_out ["moves", "begin"] []
  k_first_row_out : PySem.W.keepIn K (.ref a_first_row_out) = true
  m_first_row_out : mg "first_row_out" = some (.ref a_first_row_out)
  a_Machine_init : Addr
  fd_Machine_init : FuncData
  F_Machine_init : Fun K "__init__" "Machine.__init__" s_Machine_init a_Machine_init fd_Machine_init
  b_Machine_init : Binds K fd_Machine_init ["self", "stands", "steps", "ends"] []
  k_Machine_init : PySem.W.keepIn K (.ref a_Machine_init) = true
  a_Machine_stands : Addr
  fd_Machine_stands : FuncData
  F_Machine_stands : Fun K "stands" "Machine.stands" s_Machine_stands a_Machine_stands fd_Machine_stands
  b_Machine_stands : Binds K fd_Machine_stands ["self"] []
  k_Machine_stands : PySem.W.keepIn K (.ref a_Machine_stands) = true
  a_Machine_steps : Addr
  fd_Machine_steps : FuncData
  F_Machine_steps : Fun K "steps" "Machine.steps" s_Machine_steps a_Machine_steps fd_Machine_steps
  b_Machine_steps : Binds K fd_Machine_steps ["self"] []
  k_Machine_steps : PySem.W.keepIn K (.ref a_Machine_steps) = true
  a_Machine_ends : Addr
  fd_Machine_ends : FuncData
  F_Machine_ends : Fun K "ends" "Machine.ends" s_Machine_ends a_Machine_ends fd_Machine_ends
  b_Machine_ends : Binds K fd_Machine_ends ["self"] []
  k_Machine_ends : PySem.W.keepIn K (.ref a_Machine_ends) = true
  a_is_whole_number : Addr
  fd_is_whole_number : FuncData
  F_is_whole_number : Fun K "is_whole_number" "is_whole_number" s_is_whole_number a_is_whole_number fd_is_whole_number
  b_is_whole_number : Binds K fd_is_whole_number ["value"] []
  k_is_whole_number : PySem.W.keepIn K (.ref a_is_whole_number) = true
  m_is_whole_number : mg "is_whole_number" = some (.ref a_is_whole_number)
  a_is_integer_between : Addr
  fd_is_integer_between : FuncData
  F_is_integer_between : Fun K "is_integer_between" "is_integer_between" s_is_integer_between a_is_integer_between fd_is_integer_between
  b_is_integer_between : Binds K fd_is_integer_between ["value", "least", "most"] []
  k_is_integer_between : PySem.W.keepIn K (.ref a_is_integer_between) = true
  m_is_integer_between : mg "is_integer_between" = some (.ref a_is_integer_between)
  a_is_stand : Addr
  fd_is_stand : FuncData
  F_is_stand : Fun K "_is_stand" "_is_stand" s_is_stand a_is_stand fd_is_stand
  b_is_stand : Binds K fd_is_stand ["stands", "value"] []
  k_is_stand : PySem.W.keepIn K (.ref a_is_stand) = true
  m_is_stand : mg "_is_stand" = some (.ref a_is_stand)
  a_check_stands : Addr
  fd_check_stands : FuncData
  F_check_stands : Fun K "_check_stands" "_check_stands" s_check_stands a_check_stands fd_check_stands
  b_check_stands : Binds K fd_check_stands ["stands"] []
  k_check_stands : PySem.W.keepIn K (.ref a_check_stands) = true
  m_check_stands : mg "_check_stands" = some (.ref a_check_stands)
  a_is_step : Addr
  fd_is_step : FuncData
  F_is_step : Fun K "_is_step" "_is_step" s_is_step a_is_step fd_is_step
  b_is_step : Binds K fd_is_step ["stands", "value"] []
  k_is_step : PySem.W.keepIn K (.ref a_is_step) = true
  m_is_step : mg "_is_step" = some (.ref a_is_step)
  a_check_steps : Addr
  fd_check_steps : FuncData
  F_check_steps : Fun K "_check_steps" "_check_steps" s_check_steps a_check_steps fd_check_steps
  b_check_steps : Binds K fd_check_steps ["stands", "steps"] []
  k_check_steps : PySem.W.keepIn K (.ref a_check_steps) = true
  m_check_steps : mg "_check_steps" = some (.ref a_check_steps)
  a_is_ascending : Addr
  fd_is_ascending : FuncData
  F_is_ascending : Fun K "is_ascending" "is_ascending" s_is_ascending a_is_ascending fd_is_ascending
  b_is_ascending : Binds K fd_is_ascending ["value", "many"] []
  k_is_ascending : PySem.W.keepIn K (.ref a_is_ascending) = true
  m_is_ascending : mg "is_ascending" = some (.ref a_is_ascending)
  a_check_ends : Addr
  fd_check_ends : FuncData
  F_check_ends : Fun K "_check_ends" "_check_ends" s_check_ends a_check_ends fd_check_ends
  b_check_ends : Binds K fd_check_ends ["stands", "ends"] []
  k_check_ends : PySem.W.keepIn K (.ref a_check_ends) = true
  m_check_ends : mg "_check_ends" = some (.ref a_check_ends)
  a_check_machine : Addr
  fd_check_machine : FuncData
  F_check_machine : Fun K "check_machine" "check_machine" s_check_machine a_check_machine fd_check_machine
  b_check_machine : Binds K fd_check_machine ["value"] []
  k_check_machine : PySem.W.keepIn K (.ref a_check_machine) = true
  m_check_machine : mg "check_machine" = some (.ref a_check_machine)
  a_check_stand : Addr
  fd_check_stand : FuncData
  F_check_stand : Fun K "check_stand" "check_stand" s_check_stand a_check_stand fd_check_stand
  b_check_stand : Binds K fd_check_stand ["machine", "value"] []
  k_check_stand : PySem.W.keepIn K (.ref a_check_stand) = true
  m_check_stand : mg "check_stand" = some (.ref a_check_stand)
  a_check_number : Addr
  fd_check_number : FuncData
  F_check_number : Fun K "check_number" "check_number" s_check_number a_check_number fd_check_number
  b_check_number : Binds K fd_check_number ["value", "least", "most"] []
  k_check_number : PySem.W.keepIn K (.ref a_check_number) = true
  m_check_number : mg "check_number" = some (.ref a_check_number)
  a_moves_of : Addr
  fd_moves_of : FuncData
  F_moves_of : Fun K "moves_of" "moves_of" s_moves_of a_moves_of fd_moves_of
  b_moves_of : Binds K fd_moves_of ["machine"] []
  k_moves_of : PySem.W.keepIn K (.ref a_moves_of) = true
  m_moves_of : mg "moves_of" = some (.ref a_moves_of)
  a_way : Addr
  fd_way : FuncData
  F_way : Fun K "way" "way" s_way a_way fd_way
  b_way : Binds K fd_way ["machine", "stand", "value"] []
  k_way : PySem.W.keepIn K (.ref a_way) = true
  m_way : mg "way" = some (.ref a_way)
  a_gain_of_loop : Addr
  fd_gain_of_loop : FuncData
  F_gain_of_loop : Fun K "gain_of_loop" "gain_of_loop" s_gain_of_loop a_gain_of_loop fd_gain_of_loop
  b_gain_of_loop : Binds K fd_gain_of_loop ["machine", "lead", "loop"] []
  k_gain_of_loop : PySem.W.keepIn K (.ref a_gain_of_loop) = true
  m_gain_of_loop : mg "gain_of_loop" = some (.ref a_gain_of_loop)
  a_reached : Addr
  fd_reached : FuncData
  F_reached : Fun K "reached" "reached" s_reached a_reached fd_reached
  b_reached : Binds K fd_reached ["machine"] []
  k_reached : PySem.W.keepIn K (.ref a_reached) = true
  m_reached : mg "reached" = some (.ref a_reached)
  a_tally_at : Addr
  fd_tally_at : FuncData
  F_tally_at : Fun K "_tally_at" "_tally_at" s_tally_at a_tally_at fd_tally_at
  b_tally_at : Binds K fd_tally_at ["machine", "stand", "sign"] []
  k_tally_at : PySem.W.keepIn K (.ref a_tally_at) = true
  m_tally_at : mg "_tally_at" = some (.ref a_tally_at)
  a_greatest_at : Addr
  fd_greatest_at : FuncData
  F_greatest_at : Fun K "greatest_at" "greatest_at" s_greatest_at a_greatest_at fd_greatest_at
  b_greatest_at : Binds K fd_greatest_at ["machine", "stand"] []
  k_greatest_at : PySem.W.keepIn K (.ref a_greatest_at) = true
  m_greatest_at : mg "greatest_at" = some (.ref a_greatest_at)
  a_least_at : Addr
  fd_least_at : FuncData
  F_least_at : Fun K "least_at" "least_at" s_least_at a_least_at fd_least_at
  b_least_at : Binds K fd_least_at ["machine", "stand"] []
  k_least_at : PySem.W.keepIn K (.ref a_least_at) = true
  m_least_at : mg "least_at" = some (.ref a_least_at)
  a_bounds : Addr
  fd_bounds : FuncData
  F_bounds : Fun K "bounds" "bounds" s_bounds a_bounds fd_bounds
  b_bounds : Binds K fd_bounds ["machine"] []
  k_bounds : PySem.W.keepIn K (.ref a_bounds) = true
  m_bounds : mg "bounds" = some (.ref a_bounds)
  a_check_bounds : Addr
  fd_check_bounds : FuncData
  F_check_bounds : Fun K "check_bounds" "check_bounds" s_check_bounds a_check_bounds fd_check_bounds
  b_check_bounds : Binds K fd_check_bounds ["low", "high", "most"] []
  k_check_bounds : PySem.W.keepIn K (.ref a_check_bounds) = true
  m_check_bounds : mg "check_bounds" = some (.ref a_check_bounds)
  a_stays : Addr
  fd_stays : FuncData
  F_stays : Fun K "stays" "stays" s_stays a_stays fd_stays
  b_stays : Binds K fd_stays ["machine", "low", "high"] []
  k_stays : PySem.W.keepIn K (.ref a_stays) = true
  m_stays : mg "stays" = some (.ref a_stays)
  a_ring : Addr
  fd_ring : FuncData
  F_ring : Fun K "_ring" "_ring" s_ring a_ring fd_ring
  b_ring : Binds K fd_ring ["machine"] []
  k_ring : PySem.W.keepIn K (.ref a_ring) = true
  m_ring : mg "_ring" = some (.ref a_ring)
  a_row_outside : Addr
  fd_row_outside : FuncData
  F_row_outside : Fun K "_row_outside" "_row_outside" s_row_outside a_row_outside fd_row_outside
  b_row_outside : Binds K fd_row_outside ["machine", "low", "high"] []
  k_row_outside : PySem.W.keepIn K (.ref a_row_outside) = true
  m_row_outside : mg "_row_outside" = some (.ref a_row_outside)
  a_bar : Addr
  fd_bar : FuncData
  F_bar : Fun K "bar" "bar" s_bar a_bar fd_bar
  b_bar : Binds K fd_bar ["machine", "low", "high"] []
  k_bar : PySem.W.keepIn K (.ref a_bar) = true
  m_bar : mg "bar" = some (.ref a_bar)
  a_bars_as_row : Addr
  fd_bars_as_row : FuncData
  F_bars_as_row : Fun K "_bars_as_row" "_bars_as_row" s_bars_as_row a_bars_as_row fd_bars_as_row
  b_bars_as_row : Binds K fd_bars_as_row ["machine", "low", "high", "row"] []
  k_bars_as_row : PySem.W.keepIn K (.ref a_bars_as_row) = true
  m_bars_as_row : mg "_bars_as_row" = some (.ref a_bars_as_row)
  a_bars_as_ring : Addr
  fd_bars_as_ring : FuncData
  F_bars_as_ring : Fun K "_bars_as_ring" "_bars_as_ring" s_bars_as_ring a_bars_as_ring fd_bars_as_ring
  b_bars_as_ring : Binds K fd_bars_as_ring ["machine", "lead", "loop"] []
  k_bars_as_ring : PySem.W.keepIn K (.ref a_bars_as_ring) = true
  m_bars_as_ring : mg "_bars_as_ring" = some (.ref a_bars_as_ring)
  a_right_bar : Addr
  fd_right_bar : FuncData
  F_right_bar : Fun K "right_bar" "right_bar" s_right_bar a_right_bar fd_right_bar
  b_right_bar : Binds K fd_right_bar ["machine", "low", "high", "value"] []
  k_right_bar : PySem.W.keepIn K (.ref a_right_bar) = true
  m_right_bar : mg "right_bar" = some (.ref a_right_bar)
  a_span_at : Addr
  fd_span_at : FuncData
  F_span_at : Fun K "_span_at" "_span_at" s_span_at a_span_at fd_span_at
  b_span_at : Binds K fd_span_at ["machine", "stand"] []
  k_span_at : PySem.W.keepIn K (.ref a_span_at) = true
  m_span_at : mg "_span_at" = some (.ref a_span_at)
  a_paper : Addr
  fd_paper : FuncData
  F_paper : Fun K "paper" "paper" s_paper a_paper fd_paper
  b_paper : Binds K fd_paper ["machine", "low", "high"] []
  k_paper : PySem.W.keepIn K (.ref a_paper) = true
  m_paper : mg "paper" = some (.ref a_paper)
  a_is_span : Addr
  fd_is_span : FuncData
  F_is_span : Fun K "_is_span" "_is_span" s_is_span a_is_span fd_is_span
  b_is_span : Binds K fd_is_span ["value", "low", "high"] []
  k_is_span : PySem.W.keepIn K (.ref a_is_span) = true
  m_is_span : mg "_is_span" = some (.ref a_is_span)
  a_covers : Addr
  fd_covers : FuncData
  F_covers : Fun K "_covers" "_covers" s_covers a_covers fd_covers
  b_covers : Binds K fd_covers ["span", "least", "most"] []
  k_covers : PySem.W.keepIn K (.ref a_covers) = true
  m_covers : mg "_covers" = some (.ref a_covers)
  a_leads_on : Addr
  fd_leads_on : FuncData
  F_leads_on : Fun K "_leads_on" "_leads_on" s_leads_on a_leads_on fd_leads_on
  b_leads_on : Binds K fd_leads_on ["spans", "step"] []
  k_leads_on : PySem.W.keepIn K (.ref a_leads_on) = true
  m_leads_on : mg "_leads_on" = some (.ref a_leads_on)
  a_right_paper : Addr
  fd_right_paper : FuncData
  F_right_paper : Fun K "right_paper" "right_paper" s_right_paper a_right_paper fd_right_paper
  b_right_paper : Binds K fd_right_paper ["machine", "low", "high", "value"] []
  k_right_paper : PySem.W.keepIn K (.ref a_right_paper) = true
  m_right_paper : mg "right_paper" = some (.ref a_right_paper)
  a_moves_from : Addr
  fd_moves_from : FuncData
  F_moves_from : Fun K "_moves_from" "_moves_from" s_moves_from a_moves_from fd_moves_from
  b_moves_from : Binds K fd_moves_from ["machine", "stand", "tally", "low", "high"] []
  k_moves_from : PySem.W.keepIn K (.ref a_moves_from) = true
  m_moves_from : mg "_moves_from" = some (.ref a_moves_from)
  a_first_leaving : Addr
  fd_first_leaving : FuncData
  F_first_leaving : Fun K "first_leaving" "first_leaving" s_first_leaving a_first_leaving fd_first_leaving
  b_first_leaving : Binds K fd_first_leaving ["machine", "low", "high"] []
  k_first_leaving : PySem.W.keepIn K (.ref a_first_leaving) = true
  m_first_leaving : mg "first_leaving" = some (.ref a_first_leaving)
  a_longer : Addr
  fd_longer : FuncData
  F_longer : Fun K "_longer" "_longer" s_longer a_longer fd_longer
  b_longer : Binds K fd_longer ["steps", "numbers", "low", "high"] []
  k_longer : PySem.W.keepIn K (.ref a_longer) = true
  m_longer : mg "_longer" = some (.ref a_longer)
  a_numbers : Addr
  fd_numbers : FuncData
  F_numbers : Fun K "_numbers" "_numbers" s_numbers a_numbers fd_numbers
  b_numbers : Binds K fd_numbers ["machine", "length", "low", "high"] []
  k_numbers : PySem.W.keepIn K (.ref a_numbers) = true
  m_numbers : mg "_numbers" = some (.ref a_numbers)
  a_count_staying : Addr
  fd_count_staying : FuncData
  F_count_staying : Fun K "count_staying" "count_staying" s_count_staying a_count_staying fd_count_staying
  b_count_staying : Binds K fd_count_staying ["machine", "length", "low", "high"] []
  k_count_staying : PySem.W.keepIn K (.ref a_count_staying) = true
  m_count_staying : mg "count_staying" = some (.ref a_count_staying)
  a_law_taken : Addr
  fd_law_taken : FuncData
  F_law_taken : Fun K "_law_taken" "_law_taken" s_law_taken a_law_taken fd_law_taken
  b_law_taken : Binds K fd_law_taken ["_law_row", "_law_many"] []
  k_law_taken : PySem.W.keepIn K (.ref a_law_taken) = true
  m_law_taken : mg "_law_taken" = some (.ref a_law_taken)
  a_law_call : Addr
  fd_law_call : FuncData
  F_law_call : Fun K "_law_call" "_law_call" s_law_call a_law_call fd_law_call
  b_law_call : Binds K fd_law_call ["_law_kind", "_law_low", "_law_high"] []
  k_law_call : PySem.W.keepIn K (.ref a_law_call) = true
  m_law_call : mg "_law_call" = some (.ref a_law_call)
  a_law_refused : Addr
  fd_law_refused : FuncData
  F_law_refused : Fun K "_law_refused" "_law_refused" s_law_refused a_law_refused fd_law_refused
  b_law_refused : Binds K fd_law_refused ["_law_kind", "_law_low", "_law_high"] []
  k_law_refused : PySem.W.keepIn K (.ref a_law_refused) = true
  m_law_refused : mg "_law_refused" = some (.ref a_law_refused)
  a_law : Addr
  fd_law : FuncData
  F_law : Fun K "law" "law" s_law a_law fd_law
  b_law : Binds K fd_law ["_law_script"] []
  k_law : PySem.W.keepIn K (.ref a_law) = true
  m_law : mg "law" = some (.ref a_law)
  c_Machine : Addr
  cl_Machine : Cls K c_Machine
  m_Machine : mg "Machine" = some (.ref c_Machine)
  mk_Machine : Mk K c_Machine a_Machine_init
  n__stands : NoAttr K c_Machine "_stands"
  n__steps : NoAttr K c_Machine "_steps"
  n__ends : NoAttr K c_Machine "_ends"
  q_stands : Addr
  p_stands : PropOf K c_Machine "stands" q_stands a_Machine_stands
  q_steps : Addr
  p_steps : PropOf K c_Machine "steps" q_steps a_Machine_steps
  q_ends : Addr
  p_ends : PropOf K c_Machine "ends" q_ends a_Machine_ends
  i1_Machine : PySem.W.findIn K (.ref c_Machine) "__class__" = some (some (.builtin "object.__class__"))
  i2_Machine : PySem.W.specialIn K (.builtin "object.__class__") "__get__" = some (some (.builtin "getset_descriptor.__get__"))
  i3_Machine : PySem.W.takesIn K (.builtin "object.__class__") = some true
  i4_Machine : PySem.W.mroIn K c_Machine (.type "object") = some true
  c_BadBounds : Addr
  m_BadBounds : mg "BadBounds" = some (.ref c_BadBounds)
  x_BadBounds : PySem.W.excIn K c_BadBounds [.type "ValueError", .type "Exception", .type "BaseException", .type "object"] "ValueError.__new__" = true
  k_BadBounds : PySem.W.keepIn K (.ref c_BadBounds) = true
  b_BadBounds : PySem.W.subIn K (.ref c_BadBounds) (.type "BaseException") = some true
  t_BadBounds : PySem.W.typeIn K (.ref c_BadBounds) = some (.type "type")
  e_BadBounds : PySem.W.exmOne K (.ref c_BadBounds) (.ref c_BadBounds) = some true
  c_BadNumber : Addr
  m_BadNumber : mg "BadNumber" = some (.ref c_BadNumber)
  o_BadNumber : OexC K c_BadNumber
  xf_BadNumber : XfC K c_BadNumber
  ie_BadNumber : PySem.W.findIn K (.ref c_BadNumber) "__init__" = some (some (.ref a_BadNumber_init))
  ti_BadNumber : PySem.W.typeIn K (.ref a_BadNumber_init) = some (.type "function")
  e_BadNumber : PySem.W.exmOne K (.ref c_BadNumber) (.ref c_BadNumber) = some true
  no_BadNumber_n : PySem.W.findIn K (.ref c_BadNumber) "n" = some none
  c_TallyError : Addr
  m_TallyError : mg "TallyError" = some (.ref c_TallyError)
  rd_TallyError : PySem.W.readsIn K c_TallyError (.type "type") = true
  fv_TallyError : PySem.W.findCls K (.ref c_TallyError) (.type "type") "__init__" = some (.val (.builtin "ValueError.__init__"))
  sg_TallyError : PySem.W.specialIn K (.ref c_TallyError) "__getattribute__" = some (some (.builtin "type.__getattribute__"))
  u_MOST_STANDS : Value
  m_MOST_STANDS : mg "MOST_STANDS" = some u_MOST_STANDS
  r_MOST_STANDS : RelV (V.int 8) u_MOST_STANDS
  u_MOST_GAIN : Value
  m_MOST_GAIN : mg "MOST_GAIN" = some u_MOST_GAIN
  r_MOST_GAIN : RelV (V.int 1000000000000000000000000000000) u_MOST_GAIN
  a_LETTERS : Addr
  m_LETTERS : mg "LETTERS" = some (.ref a_LETTERS)
  r_LETTERS : RelV (V.ref a_LETTERS) (.ref a_LETTERS)
  s_LETTERS : ∀ H : Hp, SqT K H a_LETTERS [V.str "a", V.str "b", V.str "c", V.str "d"]
  u_ENDLESS : Value
  m_ENDLESS : mg "ENDLESS" = some u_ENDLESS
  r_ENDLESS : RelV (V.str "endless") u_ENDLESS
  u_MOST_NUMBER : Value
  m_MOST_NUMBER : mg "MOST_NUMBER" = some u_MOST_NUMBER
  r_MOST_NUMBER : RelV (V.int 10000000000000000000000000000000000000000) u_MOST_NUMBER
  u_MOST_LENGTH : Value
  m_MOST_LENGTH : mg "MOST_LENGTH" = some u_MOST_LENGTH
  r_MOST_LENGTH : RelV (V.int 12) u_MOST_LENGTH
  u_MOST_SMALL_BOUND : Value
  m_MOST_SMALL_BOUND : mg "MOST_SMALL_BOUND" = some u_MOST_SMALL_BOUND
  r_MOST_SMALL_BOUND : RelV (V.int 20) u_MOST_SMALL_BOUND
  z_all : mg "all" = none
  z_bool : mg "bool" = none
  z_enumerate : mg "enumerate" = none
  z_int : mg "int" = none
  z_isinstance : mg "isinstance" = none
  z_len : mg "len" = none
  z_list : mg "list" = none
  z_max : mg "max" = none
  z_min : mg "min" = none
  z_range : mg "range" = none
  z_sorted : mg "sorted" = none
  z_str : mg "str" = none
  z_sum : mg "sum" = none
  z_tuple : mg "tuple" = none
  bs_law : ∀ (s : Shared) (v : Value), BindsTo s fd_law ⟨[v], []⟩ [("_law_script", v)]
/-! ### heaps -/
/-- all but a stands as it was -/
def Keep (a : Addr) (H H' : Hp) : Prop := ∀ b o, b ≠ a → H b = some o → H' b = some o
theorem Keep.refl (a : Addr) (H : Hp) : Keep a H H := fun _ _ _ h => h
theorem Keep.trans {a : Addr} {H H1 H2 : Hp} (x : Keep a H H1) (y : Keep a H1 H2) : Keep a H H2 := fun b o n h => y b o n (x b o n h)
theorem Keep.at_ {a : Addr} {H : Hp} {o : HO} : Keep a H (upd H a o) := fun b u n h => by rw [upd_ne n]; exact h
theorem Keep.new {a p : Addr} {H : Hp} {o : HO} (hp : H p = none) : Keep a H (upd H p o) := fun b u _ h => by rw [upd_ne (ne_of_none h hp)]; exact h
theorem Keep.of_same {a : Addr} {H H' : Hp} (x : Same H H') : Keep a H H' := fun b o _ h => x b o h
theorem Same.new {p : Addr} {H : Hp} {o : HO} (hp : H p = none) : Same H (upd H p o) := fun b u h => by rw [upd_ne (ne_of_none h hp)]; exact h
theorem Keep.free {a p : Addr} {H H' : Hp} (x : Keep a H H') (n : p ≠ a) (h : H' p = none) : H p = none := by
  cases q : H p with
  | none => rfl
  | some o => rw [x p o n q] at h; cases h
/-- what H does not know may change -/
theorem Keep.mut {a p : Addr} {H H' : Hp} {o : HO} (x : Keep a H H') (hp : H p = none) : Keep a H (upd H' p o) := fun b u n h => by rw [upd_ne (ne_of_none h hp)]; exact x b u n h
theorem Keep.tup {K : PySem.W.Frag} {a b : Addr} {H H' : Hp} {xs : List V} (x : Keep a H H') (ha : ∃ l, H a = some (.lst l)) (h : SqT K H b xs) : SqT K H' b xs := by
  obtain ⟨l, ha⟩ := ha
  rcases h with (h | ⟨o, h⟩) | h
  · exact .inl (.inl (x _ _ (fun e => by rw [e, ha] at h; cases h) h))
  · exact .inl (.inr ⟨o, x _ _ (fun e => by rw [e, ha] at h; cases h) h⟩)
  · exact .inr h
theorem Keep.lst {K : PySem.W.Frag} {a b : Addr} {H H' : Hp} {xs : List V} (x : Keep a H H') (n : b ≠ a) (h : SqL K H b xs) : SqL K H' b xs := by
  rcases h with (h | ⟨o, h⟩) | h
  · exact .inl (.inl (x _ _ n h))
  · exact .inl (.inr ⟨o, x _ _ n h⟩)
  · exact .inr h
/-- the script: known to the object, or of the written part -/
def ScAt (K : PySem.W.Frag) (H : Hp) (b : Addr) (xs : List V) : Prop := (∃ o, H b = some (.frz o (.lst xs))) ∨ ∀ H', SqL K H' b xs
theorem ScAt.sq {K : PySem.W.Frag} {H : Hp} {b : Addr} {xs : List V} (h : ScAt K H b xs) : SqL K H b xs := by
  rcases h with ⟨o, h⟩ | h
  · exact .inl (.inr ⟨o, h⟩)
  · exact h H
theorem ScAt.keep {K : PySem.W.Frag} {a b : Addr} {H H' : Hp} {xs l : List V} (h : ScAt K H b xs) (k : Keep a H H') (ha : H a = some (.lst l)) : ScAt K H' b xs := by
  rcases h with ⟨o, h⟩ | h
  · exact .inl ⟨o, k _ _ (fun z => by rw [z, ha] at h; cases h) h⟩
  · exact .inr h
theorem ScAt.same {K : PySem.W.Frag} {b : Addr} {H H' : Hp} {xs : List V} (h : ScAt K H b xs) (k : Same H H') : ScAt K H' b xs := by
  rcases h with ⟨o, h⟩ | h
  · exact .inl ⟨o, k _ _ h⟩
  · exact .inr h
/-- the draws' row at a: the script, how many were read, the mixed number, the rest -/
def RowOk (K : PySem.W.Frag) (H : Hp) (a : Addr) : Prop := ∃ (sc : Addr) (ns : List Int) (i z r : Int), H a = some (.lst [.ref sc, .int i, .int z, .int r]) ∧ ScAt K H sc (ns.map V.int) ∧ ns.length ≤ 63 ∧ 0 ≤ i ∧ 0 ≤ z ∧ z < 2147483647
theorem RowOk.lst {K : PySem.W.Frag} {H : Hp} {a : Addr} (h : RowOk K H a) : ∃ l, H a = some (.lst l) := by
  obtain ⟨_, _, _, _, _, e, _⟩ := h; exact ⟨_, e⟩
/-- behind a step that leaves the row and the script as they were -/
theorem RowOk.same {K : PySem.W.Frag} {H H' : Hp} {a : Addr} (h : RowOk K H a) (s : Same H H') : RowOk K H' a := by
  obtain ⟨sc, ns, i, z, r, e, q, rest⟩ := h
  exact ⟨sc, ns, i, z, r, s _ _ e, q.same s, rest⟩
theorem RowOk.keep {K : PySem.W.Frag} {H H' : Hp} {a l : Addr} {xs : List V} (h : RowOk K H a) (n : a ≠ l) (e : H l = some (.lst xs)) (k : Keep l H H') : RowOk K H' a := by
  obtain ⟨sc, is, i, z, r, ea, q, rest⟩ := h
  exact ⟨sc, is, i, z, r, k _ _ n ea, q.keep k e, rest⟩
theorem RowOk.ne {K : PySem.W.Frag} {H : Hp} {a p : Addr} (h : RowOk K H a) (e : H p = none) : a ≠ p := by
  obtain ⟨l, q⟩ := h.lst
  exact ne_of_none q e
theorem free_of {H H' : Hp} {q : Addr} (z : Same H H') (hq : H' q = none) : H q = none := by
  cases e : H q with
  | none => rfl
  | some ob => rw [z _ _ e] at hq; cases hq
theorem unlock_same {H2 H' : Hp} {e : Addr} {od : _} {kvs : List (Key × V)} (he : H2 e = some (.dK kvs)) (z : Same (upd H2 e (.frz od (.dK kvs))) H') : Same H2 (upd H' e (.dK kvs)) := fun b o eb => by
  by_cases c : b = e
  · rw [c, he] at eb
    rw [c, upd_same]
    exact eb
  · rw [upd_ne c]
    exact z _ _ (by rw [upd_ne c]; exact eb)
/-! ### steps: one a combinator -/
section
variable {K : PySem.W.Frag} {σ : L2.St} {H : Hp} {D : Ends} {Q : VK}
theorem k_seq {t u : TS} (h : t { D with nx := u D } σ H) : tSeq t u D σ H := h
theorem k_ifS {c : TT} {t u : TS} (h : c σ H fun b H1 => if b = true then t D σ H1 else u D σ H1) : tIfS c t u D σ H := h
theorem k_asg {te : TE} {g : TG} (h : te σ H fun x H1 => g x σ H1 D.nx) : tAsg te g D σ H := h
theorem k_ret {te : TE} (h : te σ H D.rt) : tRet te D σ H := h
theorem k_retN (h : D.rt .non H) : tRetN D σ H := h
theorem k_next (h : D.nx σ H) : tNext D σ H := h
theorem k_cont (h : D.ct σ H) : tCont D σ H := h
theorem k_break (h : D.bk σ H) : tBreak D σ H := h
theorem k_drop {te : TE} (h : te σ H fun _ H1 => D.nx σ H1) : tDrop te D σ H := h
theorem k_par {i j : Nat} {ta : TA} (h : ta σ H fun vs H1 => ∃ v w, vs = [v, w] ∧ D.nx ((σ.set i (some v)).set j (some w)) H1) : tPar i j ta D σ H := h
theorem k_two {p : V → V → Prop} {a b : V} (h : p a b) : ∃ v w, [a, b] = [v, w] ∧ p v w := ⟨a, b, rfl, h⟩
theorem k_var {i : Nat} {v : V} (e : σ[i]? = some (some v)) (h : Q v H) : tVar i σ H Q := ⟨v, e, h⟩
theorem k_c {v : V} (h : Q v H) : tC v σ H Q := h
theorem k_op {r : R2} {ta tb : TE} (h : ta σ H fun x H1 => tb σ H1 fun y H2 => r x y H2 Q) : tOp r ta tb σ H Q := h
theorem k_un {r : V → Hp → VK → Prop} {ta : TE} (h : ta σ H fun x H1 => r x H1 Q) : tUn r ta σ H Q := h
theorem k_cb {r : List V → Hp → VK → Prop} {t : TA} (h : t σ H fun vs H1 => r vs H1 Q) : tCB r t σ H Q := h
theorem k_cons {ta : TE} {tr : TA} {R : List V → Hp → Prop} (h : ta σ H fun x H1 => tr σ H1 fun xs H2 => R (x :: xs) H2) : tCons ta tr σ H R := h
theorem k_nil {R : List V → Hp → Prop} (h : R [] H) : tNil σ H R := h
theorem k_call {sp : Sp} {dvs : List V} {E : XK} {t : TA} (h : t σ H fun vs H1 => sp (vs ++ dvs) H1 Q E) : tCall sp dvs E t σ H Q := h
theorem k_make {C : Addr} {sp : Sp} {dvs : List V} {E : XK} {t : TA} (h : t σ H fun vs H1 => ∀ x dx, H1 x = none → H1 dx = none → dx ≠ x →
  sp (.ref x :: (vs ++ dvs)) (upd (upd H1 dx (.own x)) x (.ins C dx [])) (fun v H2 => v = .non ∧ Q (.ref x) H2) E) : tMake C sp dvs E t σ H Q := h
theorem k_test {t : TE} {R : Bool → Hp → Prop} (h : t σ H fun x H' => ∃ k, x = .bl k ∧ R k H') : tTest t σ H R := h
theorem k_tB {t : TE} {R : Bool → Hp → Prop} (h : t σ H fun x H' => ∃ k, x = .bl k ∧ R k H') : tB t σ H R := h
theorem k_bl {b : Bool} {R : Bool → Prop} (h : R b) : ∃ k, V.bl b = .bl k ∧ R k := ⟨b, rfl, h⟩
theorem k_and {t u : TT} {R : Bool → Hp → Prop} (h : t σ H fun c H1 => if c = true then u σ H1 R else R false H1) : tAnd t u σ H R := h
theorem k_or {t u : TT} {R : Bool → Hp → Prop} (h : t σ H fun c H1 => if c = true then R true H1 else u σ H1 R) : tOr t u σ H R := h
theorem k_not {t : TT} {R : Bool → Hp → Prop} (h : t σ H fun c H1 => R (!c) H1) : tNot t σ H R := h
theorem k_andV {ta tb : TE} (h : ta σ H fun x H1 => ∃ c, x = .bl c ∧ if c = true then tb σ H1 Q else Q (.bl false) H1) : tAndV ta tb σ H Q := h
theorem k_orV {ta tb : TE} (h : ta σ H fun x H1 => ∃ c, x = .bl c ∧ if c = true then Q (.bl true) H1 else tb σ H1 Q) : tOrV ta tb σ H Q := h
theorem k_notV {ta : TE} (h : ta σ H fun x H1 => ∃ c, x = .bl c ∧ Q (.bl (!c)) H1) : tNotV ta σ H Q := h
theorem k_ifE {t : TT} {ta tb : TE} (h : t σ H fun c H1 => if c = true then ta σ H1 Q else tb σ H1 Q) : tIf t ta tb σ H Q := h
theorem k_isN {ta : TE} (h : ta σ H fun x H1 => Q (.bl (decide (x = .non))) H1) : tIsN ta σ H Q := h
theorem k_notN {ta : TE} (h : ta σ H fun x H1 => Q (.bl (!decide (x = .non))) H1) : tNotN ta σ H Q := h
theorem k_name {i : Nat} {v : V} {R : L2.St → Hp → Prop} (h : R (σ.set i (some v)) H) : gName i v σ H R := h
theorem k_sub {to ti : TE} {t : TSet} {v : V} {R : L2.St → Hp → Prop} (h : to σ H fun o H1 => ti σ H1 fun i H2 => t o i v H2 fun H3 => R σ H3) : gSub to ti t v σ H R := h
theorem k_gt {n : Nat} {t : TGs} {R : L2.St → Hp → Prop} {a : Addr} {xs : List V} (h : SqT K H a xs) (e : xs.length = n) (q : t xs σ H R) : gTup K n t (.ref a) σ H R := ⟨a, xs, rfl, h, e, q⟩
theorem k_gn {R : L2.St → Hp → Prop} (h : R σ H) : gNil [] σ H R := ⟨rfl, h⟩
theorem k_gc {t : TG} {u : TGs} {v : V} {vs : List V} {R : L2.St → Hp → Prop} (h : t v σ H fun σ' H' => u vs σ' H' R) : gCons t u (v :: vs) σ H R := ⟨v, vs, rfl, h⟩
theorem k_I0 {g : Int → Int → V} {i j : Int} (h : Q (g i j) H) : rI0 g (.int i) (.int j) H Q := ⟨i, j, rfl, rfl, h⟩
theorem k_I {C : Int → Int → Prop} {g : Int → Int → V} {i j : Int} (c : C i j) (h : Q (g i j) H) : rI C g (.int i) (.int j) H Q := ⟨i, j, rfl, rfl, c, h⟩
theorem k_U {g : Int → V} {i : Int} (h : Q (g i) H) : rU g (.int i) H Q := ⟨i, rfl, h⟩
theorem k_eq {x y : V} (e : scal x y = true) (h : Q (.bl (decide (x = y))) H) : rEq x y H Q := ⟨e, h⟩
theorem k_ne {x y : V} (e : scal x y = true) (h : Q (.bl (!decide (x = y))) H) : rNe x y H Q := ⟨e, h⟩
theorem k_ixL {p : Addr} {xs : List V} {i : Int} {v : V} (h : SqL K H p xs) (e : atI xs i = some v) (q : Q v H) : rIxL K (.ref p) (.int i) H Q := ⟨p, xs, i, v, rfl, rfl, h, e, q⟩
theorem k_ixT {p : Addr} {xs : List V} {i : Int} {v : V} (h : SqT K H p xs) (e : atI xs i = some v) (q : Q v H) : rIxT K (.ref p) (.int i) H Q := ⟨p, xs, i, v, rfl, rfl, h, e, q⟩
theorem k_setL {p : Addr} {xs : List V} {k : Int} {j : Nat} {v : V} {R : Hp → Prop} (h : H p = some (.lst xs)) (e : ixN xs.length k = some j) (q : R (upd H p (.lst (xs.set j v)))) : rSetL (.ref p) (.int k) v H R := ⟨p, xs, k, j, rfl, rfl, h, e, q⟩
theorem k_tup {t : TA} (h : t σ H fun xs H1 => xs.length ≤ sizeLine ∧ ∀ p, H1 p = none → Q (.ref p) (upd H1 p (.tup xs))) : tTup t σ H Q := h
theorem k_lst {t : TA} (h : t σ H fun xs H1 => xs.length ≤ sizeLine ∧ ∀ p, H1 p = none → Q (.ref p) (upd H1 p (.lst xs))) : tLst t σ H Q := h
theorem k_bm {T : String} {r : V → List V → Hp → VK → Prop} {to : TE} {t : TA} (h : to σ H fun x H1 => tyV K T x H1 ∧ t σ H1 fun xs H2 => r x xs H2 Q) : tBM K T r to t σ H Q := h
theorem k_append {l : Addr} {xs : List V} {y : V} (h : H l = some (.lst xs)) (e : xs.length < sizeLine) (q : Q .non (upd H l (.lst (xs ++ [y])))) : rAppend (.ref l) [y] H Q := ⟨l, xs, y, rfl, rfl, h, e, q⟩
theorem k_dget {td ty : TE} (h : td σ H fun x H1 => ty σ H1 fun y H2 => ∃ a v, x = .ref a ∧ DGet H2 a y (some v) ∧ Q v H2) : tDGet td ty σ H Q := h
theorem k_dg {a : Addr} {y v : V} (h : DGet H a y (some v)) (q : Q v H) : ∃ b u, V.ref a = .ref b ∧ DGet H b y (some u) ∧ Q u H := ⟨a, v, rfl, h, q⟩
theorem k_fld {ta : TE} {f : Str} (h : ta σ H fun x H1 => ∃ a C dx fs v, x = .ref a ∧ H1 a = some (.ins C dx fs) ∧ Cls K C ∧ NoAttr K C f ∧ fs.lookup f = some v ∧ Q v H1) : tFld K ta f σ H Q := h
theorem k_sl {r : V → Option Int → Option Int → Hp → VK → Prop} {te : TE} {tl th : TO} (h : te σ H fun x H1 => tl σ H1 fun l H2 => th σ H2 fun u H3 => r x l u H3 Q) : L2.tSl r te tl th σ H Q := h
theorem k_noPart {R : Option Int → Hp → Prop} (h : R none H) : tNoPart σ H R := h
theorem k_part {t : TE} {R : Option Int → Hp → Prop} (h : t σ H fun x H1 => ∃ i, x = .int i ∧ R (some i) H1) : tPart t σ H R := h
theorem k_int {i : Int} {R : Int → Prop} (h : R i) : ∃ k, V.int i = .int k ∧ R k := ⟨i, rfl, h⟩
theorem k_int1 {i : Int} {R : Int → Prop} {R' : Bool → Prop} (h : R i) : (∃ j, [V.int i] = [V.int j] ∧ R j) ∨ (∃ k, [V.int i] = [V.bl k] ∧ R' k) := .inl ⟨i, rfl, h⟩
theorem k_len {a : Addr} {ys : List V} {R : List V → Prop} (h : SqL K H a ys ∨ SqT K H a ys) (q : R ys) : ∃ p xs, [V.ref a] = [V.ref p] ∧ (SqL K H p xs ∨ SqT K H p xs) ∧ R xs := ⟨a, ys, rfl, h, q⟩
theorem k_disp {trs : List (TE × TE)} (h : ∀ p, H p = none → tPairs trs σ (upd H p (.dK [])) fun ps H2 => H2 p = some (.dK []) ∧ ∃ kvs : List (Key × V), ps = kvs.map (fun kv => (kV kv.1, kv.2)) ∧ kvs.length ≤ 15 ∧ Q (.ref p) (upd H2 p (.dK (mergeK [] kvs)))) : tDisp trs σ H Q := h
theorem k_cut {t u : TS} (M : L2.St → Hp → Prop) (h : t { D with nx := M } σ H) (k : ∀ σ' H', M σ' H' → u D σ' H') : C8.tCut t u D σ H := ⟨M, h, k⟩
theorem k_rng1 {ta : TA} {R : It → Hp → Prop} (h : ta σ H fun vs H1 => ∃ j : Int, vs = [.int j] ∧ -(2 ^ 62) ≤ j ∧ j < 2 ^ 62 ∧ R (Itr 0 j.toNat) H1) : iRng1 ta σ H R := h
theorem k_rg {j : Int} {R : Int → Prop} (h1 : 0 ≤ j) (h2 : j < 2 ^ 62) (q : R j) : ∃ i : Int, [V.int j] = [V.int i] ∧ -(2 ^ 62) ≤ i ∧ i < 2 ^ 62 ∧ R i := ⟨j, rfl, by omega, h2, q⟩
theorem k_for {wi : TI} {g : TG} {tb : TS} (h : wi σ H fun J H1 => ∃ W : Nat → Nat → L2.St → Hp → Prop, (∃ m, W 0 m σ H1) ∧ ∀ i m σ H, W i m σ H →
  (J.stop i H ∧ D.nx σ H) ∨ (J.go i H ∧ ∃ N : L2.St → Hp → Prop, (∀ σ' H', N σ' H' → ∃ m', m' < m ∧ W (i + 1) m' σ' H') ∧ ∀ x H', J.yld i H x H' → g x σ H' fun σ2 H2 => tb { D with nx := N, ct := N, bk := D.nx } σ2 H2)) : tFor wi g tb D σ H := h
theorem k_lc {wi : TI} {g : TG} {tt : TT} {te : TE} {vs : List Nat} (h : wi σ H fun J H1 => ∀ D, H1 D = none → ∃ W : Nat → Nat → Hp → Prop, (∃ m, W 0 m (upd H1 D (.lst []))) ∧ ∀ i m H, W i m H →
  (J.stop i H ∧ Q (.ref D) H) ∨ (J.go i H ∧ ∃ Nx : Hp → Prop, (∀ H', Nx H' → ∃ m', m' < m ∧ W (i + 1) m' H') ∧ ∀ x H', J.yld i H x H' → g x (wipe σ vs) H' fun σ2 H2 => wipe σ2 vs = wipe σ vs ∧ tt σ2 H2 fun b H3 =>
    if b = true then te σ2 H3 fun y H4 => ∃ acc, H4 D = some (.lst acc) ∧ acc.length < sizeLine ∧ Nx (upd H4 D (.lst (acc ++ [y]))) else Nx H3)) : tLc wi g tt te vs σ H Q := h
theorem k_yesT {R : Bool → Hp → Prop} (h : R true H) : tYes σ H R := h
theorem k_str {te : TE} {R : It → Hp → Prop} (h : te σ H fun v H1 => ∃ x, v = .str x ∧ R (Its x) H1) : iStr te σ H R := h
theorem k_slS {z : Str} {lo hi : Option Int} (e : z.length ≤ sizeLine) (q : Q (.str (cutS z lo hi)) H) : rSlS (.str z) lo hi H Q := ⟨z, rfl, e, q⟩
theorem k_prs {tk tv : TE} {r : List (TE × TE)} {R : List (V × V) → Hp → Prop} (h : tk σ H fun x H1 => tv σ H1 fun y H2 => tPairs r σ H2 fun ps H3 => R ((x, y) :: ps) H3) : tPairs ((tk, tv) :: r) σ H R := h
theorem k_prn {R : List (V × V) → Hp → Prop} (h : R [] H) : tPairs [] σ H R := h
theorem k_aug {i : Nat} {te : TE} {ti : TIp} {x : V} (e : σ[i]? = some (some x)) (h : te σ H fun y H1 => ti x y H1 fun z H2 => D.nx (σ.set i (some z)) H2) : tAug i te ti D σ H := ⟨x, e, h⟩
theorem k_ipI {f : Int → Int → Int} {i j : Int} (h : Q (.int (f i j)) H) : ipI f (.int i) (.int j) H Q := ⟨i, j, rfl, rfl, h⟩
theorem k_din {ty td : TE} (h : ty σ H fun y H1 => td σ H1 fun x H2 => ∃ a o, x = .ref a ∧ DGet H2 a y o ∧ Q (.bl o.isSome) H2) : tDIn ty td σ H Q := h
theorem k_dnotin {ty td : TE} (h : ty σ H fun y H1 => td σ H1 fun x H2 => ∃ a o, x = .ref a ∧ DGet H2 a y o ∧ Q (.bl (!o.isSome)) H2) : tDNotIn ty td σ H Q := h
theorem k_dput {td ty tv : TE} (h : tv σ H fun v H1 => td σ H1 fun x H2 => ty σ H2 fun y H3 => ∃ a H4, x = .ref a ∧ DPut H3 a y v H4 ∧ D.nx σ H4) : sDPut td ty tv D σ H := h
theorem k_prop {C : Addr} {sp : Sp} {dvs : List V} {E : XK} {ta : TE} (h : ta σ H fun x H1 => ∃ a dx fs, x = .ref a ∧ H1 a = some (.ins C dx fs) ∧ sp (.ref a :: dvs) H1 Q E) : tProp C sp dvs E ta σ H Q := h
theorem k_itup {tl : TE} {R : It → Hp → Prop} (h : tl σ H fun x H1 => ∃ a, x = .ref a ∧ (∃ xs, SqT K H1 a xs) ∧ R (Itt K a) H1) : iTup K tl σ H R := h
theorem k_ilst {tl : TE} {R : It → Hp → Prop} (h : tl σ H fun x H1 => ∃ a, x = .ref a ∧ (∃ xs, SqL K H1 a xs) ∧ R (Itl K a) H1) : iList K tl σ H R := h
theorem k_bm0 {T : String} {r : V → List V → Hp → VK → Prop} {to : TE} (h : to σ H fun x H1 => tyV K T x H1 ∧ r x [] H1 Q) : tBM0 K T r to σ H Q := h
theorem k_dc {wi : TI} {g : TG} {tt : TT} {tk tv : TE} {vs : List Nat} (h : wi σ H fun J H1 => ∀ D, H1 D = none → ∃ W : Nat → Nat → Hp → Prop, (∃ m, W 0 m (upd H1 D (.dK []))) ∧ ∀ i m H, W i m H →
  (J.stop i H ∧ Q (.ref D) H) ∨ (J.go i H ∧ ∃ Nx : Hp → Prop, (∀ H', Nx H' → ∃ m', m' < m ∧ W (i + 1) m' H') ∧ ∀ x H', J.yld i H x H' → g x (wipe σ vs) H' fun σ2 H2 => wipe σ2 vs = wipe σ vs ∧ tt σ2 H2 fun b H3 =>
    if b = true then tk σ2 H3 fun y H4 => tv σ2 H4 fun z H5 => ∃ kvs k, y = kV k ∧ H5 D = some (.dK kvs) ∧ kvs.length < sizeLine ∧ Nx (upd H5 D (.dK (putK kvs k z))) else Nx H3)) : tDc wi g tt tk tv vs σ H Q := h
theorem k_whl {c : TT} {tb : TS} (W : Nat → L2.St → Hp → Prop) (h0 : ∃ m, W m σ H) (h : ∀ m σ H, W m σ H → c σ H fun b H1 => if b = true then tb { D with nx := fun σ' H' => ∃ m', m' < m ∧ W m' σ' H', ct := fun σ' H' => ∃ m', m' < m ∧ W m' σ' H', bk := D.nx } σ H1 else D.nx σ H1)
    (mono : ∀ σ H (R R' : Bool → Hp → Prop), (∀ b H1, R b H1 → R' b H1) → c σ H R → c σ H R') : tWhile c tb D σ H := by
  refine ⟨W, h0, fun m σ H w => mono _ _ _ _ (fun b H1 q => ?_) (h m σ H w)⟩
  cases b with
  | false => exact q
  | true => exact ⟨_, fun _ _ z => z, q⟩
theorem k_ite {p A B : Prop} [Decidable p] (h1 : p → A) (h2 : ¬ p → B) : if decide p = true then A else B := by
  by_cases h : p
  · rw [decide_eq_true h]; exact iteT (h1 h)
  · rw [decide_eq_false h]; exact iteF (h2 h)
theorem k_iteN {p A B : Prop} [Decidable p] (h1 : p → B) (h2 : ¬ p → A) : if (!decide p) = true then A else B := by
  by_cases h : p
  · rw [decide_eq_true h]; exact iteF (h1 h)
  · rw [decide_eq_false h]; exact iteT (h2 h)
theorem k_yes {c : Bool} {A B : Prop} (e : c = true) (h : A) : if c = true then A else B := by rw [e]; exact iteT h
theorem k_no {c : Bool} {A B : Prop} (e : c = false) (h : B) : if c = true then A else B := by rw [e]; exact iteF h
theorem k_bool {c : Bool} {A B : Prop} (h1 : c = true → A) (h2 : c = false → B) : if c = true then A else B := by cases c; exact iteF (h2 rfl); exact iteT (h1 rfl)
end
section
variable {K : PySem.W.Frag} {σ : L2.St} {H : Hp} {D : Ends} {Q : VK}
theorem k_par3 {i j l : Nat} {ta : TA} (h : ta σ H fun vs H1 => ∃ u v w, vs = [u, v, w] ∧ D.nx (((σ.set i (some u)).set j (some v)).set l (some w)) H1) : tPar3 i j l ta D σ H := h
theorem k_three {p : V → V → V → Prop} {a b c : V} (h : p a b c) : ∃ u v w, [a, b, c] = [u, v, w] ∧ p u v w := ⟨a, b, c, rfl, h⟩
theorem k_neD {x y : V} {d e : PyData} (h1 : Dp K H x d) (h2 : Dp K H y e) (s1 : SeqAt.shaped d = true) (s2 : SeqAt.shaped e = true) (q : Q (.bl (!PyData.eqv d e)) H) : rNeD K x y H Q := ⟨d, e, h1, h2, s1, s2, q⟩
theorem k_eqD {x y : V} {d e : PyData} (h1 : Dp K H x d) (h2 : Dp K H y e) (s1 : SeqAt.shaped d = true) (s2 : SeqAt.shaped e = true) (q : Q (.bl (PyData.eqv d e)) H) : rEqD K x y H Q := ⟨d, e, h1, h2, s1, s2, q⟩
theorem k_lenS {z : Str} {R : Int → Prop} (h : z.length ≤ sizeLine) (q : R z.length) : ∃ y : Str, [V.str z] = [V.str y] ∧ y.length ≤ sizeLine ∧ R y.length := ⟨z, rfl, h, q⟩
end
local macro_rules | `(tactic| walk_at "st") => `(tactic| first
  | ((with_reducible show tVar _ _ _ _); refine k_var rfl ?_)
  | (with_reducible first
    | refine k_c ?_ | refine k_op ?_ | refine k_I0 ?_ | refine k_seq ?_ | refine k_asg ?_ | refine k_name ?_ | refine k_cons ?_ | refine k_nil ?_ | refine k_cb ?_
    | refine k_ret ?_ | refine k_ifS ?_ | refine k_test ?_ | refine k_tB ?_ | refine k_bl ?_ | refine k_call ?_ | refine k_make ?_ | refine k_par3 ?_ | refine k_three ?_ | refine k_ipI ?_ | refine k_din ?_ | refine k_dnotin ?_ | refine k_dput ?_ | refine k_prop ?_ | refine k_itup ?_ | refine k_ilst ?_ | refine k_bm0 ?_ | refine k_dc ?_ | refine k_prs ?_ | refine k_prn ?_ | refine k_lc ?_ | refine k_yesT ?_ | refine k_str ?_ | refine k_disp ?_ | refine k_for ?_ | refine k_rng1 ?_ | refine k_drop ?_ | refine k_next ?_ | refine k_sub ?_ | refine k_un ?_ | refine k_U ?_
    | refine k_par ?_ | refine k_two ?_ | refine k_and ?_ | refine k_or ?_ | refine k_not ?_ | refine k_andV ?_ | refine k_orV ?_ | refine k_notV ?_ | refine k_ifE ?_ | refine k_isN ?_ | refine k_notN ?_
    | refine k_gn ?_ | refine k_gc ?_ | refine k_tup ?_ | refine k_lst ?_ | refine k_bm ?_ | refine k_dget ?_ | refine k_fld ?_ | refine k_sl ?_ | refine k_noPart ?_ | refine k_part ?_ | refine k_int ?_
    | refine k_int1 ?_ | refine k_retN ?_ | refine k_cont ?_ | refine k_break ?_)
  | ((with_reducible show rIxL _ _ _ _ _); refine k_ixL (SqL.of (by first | assumption | exact upd_same)) rfl ?_)
  | ((with_reducible show rSetL _ _ _ _ _); refine k_setL (by first | assumption | exact upd_same) rfl ?_)
  | ((with_reducible show tAug _ _ _ _ _ _); refine k_aug rfl ?_)
  | ((with_reducible show rEq _ _ _ _); refine k_eq rfl ?_)
  | ((with_reducible show rNe _ _ _ _); refine k_ne rfl ?_))
local macro_rules | `(tactic| walk_at "go") => `(tactic| repeat (walk_at "st"))
local macro_rules | `(tactic| walk_at "begin") => `(tactic| ((try dsimp only [cxOf]); simp only [L2.start, List.map_cons, List.map_nil, List.length_cons, List.length_nil, Nat.reduceAdd, Nat.reduceSub, List.replicate_succ, List.replicate_zero, List.cons_append, List.nil_append]))
/-! ### a draw: any number below the most -/
def sp_taken (K : PySem.W.Frag) : Sp := fun vs H Q _ => ∃ (a : Addr) (m : Int), vs = [.ref a, .int m] ∧ 0 < m ∧ m.natAbs < 2 ^ 8000 ∧ RowOk K H a ∧
  ∀ (x : Int) (H' : Hp), 0 ≤ x → x < m → RowOk K H' a → Keep a H H' → Q (.int x) H'
section
variable {P : Program} {w : World} {K : PySem.W.Frag} {mg : Str → Option Value} {base : Heap}
theorem ok_law_taken (T : Txt K mg) : FnOk P w K mg base (L2.CX P w) 1 T.a_law_taken T.fd_law_taken ["_law_row", "_law_many"] (sp_taken K) := by
  refine T.F_law_taken.okX sc_law_taken (fun vs H Q E h => ?_) (fun cdv A outer s H vs Q E hr h => ?_)
  · obtain ⟨a, m, rfl, _⟩ := h
    rfl
  · obtain ⟨a, m, rfl, m0, mb, ⟨sc, ns, i, z, r, ea, hs, hn, i0, z0, z1⟩, k⟩ := h
    refine ⟨_, (PSs.nox (pss_cons (ps_if (pt_cmpR op_gt (pe_ix ix_list (pv 0) pe_int (fun _ _ => rfl)) pe_int (nomark _))
  (pss_cons (ps_set (i := 2) sc_law_taken.nd rfl (Or.inl rfl) (pe_op op_mod (pe_callTy call_int1 (by rfl) T.z_int PySem.Pv.boot_int (pa_cons (pe_ix ix_list (pv 0) pe_int (fun _ _ => rfl)) pa_nil)) (pv 1)))
  (pss_cons (ps_asg (pe_op op_fdivW (pe_ix ix_list (pv 0) pe_int (fun _ _ => rfl)) (pv 1)) (pg_sub (pv 0) pe_int set_list))
  (pss_one (ps_ret (pv 2)))))
  pss_nil)
  (pss_cons (ps_asg (pe_op op_add (pe_ix ix_list (pv 0) pe_int (fun _ _ => rfl)) pe_int) (pg_sub (pv 0) pe_int set_list))
  (pss_cons (ps_if (pt_cmpR op_gt (pe_ix ix_list (pv 0) pe_int (fun _ _ => rfl)) (pe_callB call_len_seq (by rfl) T.z_len PySem.boot_len (pa_cons (pe_ix ix_list (pv 0) pe_int (fun _ _ => rfl)) pa_nil)) (nomark _))
  (pss_cons (ps_asg (pe_op op_mod (pe_callTy call_int1 (by rfl) T.z_int PySem.Pv.boot_int (pa_cons (pe_op op_add (pe_op op_mulW (pe_ix ix_list (pv 0) pe_int (fun _ _ => rfl)) pe_int) pe_int) pa_nil)) pe_int) (pg_sub (pv 0) pe_int set_list))
  (pss_one (ps_ret (pe_op op_mod (pe_callTy call_int1 (by rfl) T.z_int PySem.Pv.boot_int (pa_cons (pe_op op_fdivW (pe_ix ix_list (pv 0) pe_int (fun _ _ => rfl)) pe_int) pa_nil)) (pv 1)))))
  pss_nil)
  (pss_cons (ps_set (i := 3) sc_law_taken.nd rfl (Or.inl rfl) (pe_ix ix_list (pe_ix ix_list (pv 0) pe_int (fun _ _ => rfl)) (pe_op op_sub (pe_ix ix_list (pv 0) pe_int (fun _ _ => rfl)) pe_int) (fun _ _ => rfl)))
  (pss_cons (ps_asg (pe_op op_mod (pe_callTy call_int1 (by rfl) T.z_int PySem.Pv.boot_int (pa_cons (pe_op op_add (pe_op op_add (pe_op op_mulW (pe_ix ix_list (pv 0) pe_int (fun _ _ => rfl)) pe_int) (pv 3)) pe_int) pa_nil)) pe_int) (pg_sub (pv 0) pe_int set_list))
  (pss_cons (ps_if (pt_cmpR op_ge (pv 3) (pe_op op_pow pe_int pe_int) (nomark _))
  (pss_one (ps_asg (pe_op op_fdivW (pv 3) (pv 1)) (pg_sub (pv 0) pe_int set_list)))
  pss_nil)
  (pss_one (ps_ret (pe_op op_mod (pe_callTy call_int1 (by rfl) T.z_int PySem.Pv.boot_int (pa_cons (pv 3) pa_nil)) (pv 1))))))))))), ?_⟩
    walk_at "begin"
    walk_at "go"
    have CD : CDivW r m := wide_div m0 mb (by decide) (by decide)
    have CZ : CMulW z 48271 := wide_mul (a := 31) (b := 16) (by omega) (by decide) (by decide) (by decide) (by decide)
    refine k_ite (fun c => ?_) (fun c => ?_)
    · walk_at "go"
      refine k_I m0 ?_
      walk_at "go"
      refine k_I CD ?_
      walk_at "go"
      exact k _ _ (Int.emod_nonneg _ (by omega)) (Int.emod_lt_of_pos _ m0) ⟨sc, ns, i, z, r / m, upd_same, hs.keep Keep.at_ ea, hn, i0, z0, z1⟩ Keep.at_
    · walk_at "go"
      have K1 : Keep a H (upd H a (HO.lst ([V.ref sc, V.int i, V.int z, V.int r].set (Int.toNat 1) (V.int (i + 1))))) := Keep.at_
      refine k_len (.inl (hs.keep K1 ea).sq) ?_
      walk_at "go"
      have zn : ∀ q : Int, 0 ≤ q % 2147483647 ∧ q % 2147483647 < 2147483647 := fun q => ⟨Int.emod_nonneg _ (by decide), Int.emod_lt_of_pos _ (by decide)⟩
      have mn : ∀ q : Int, 0 ≤ q % m ∧ q % m < m := fun q => ⟨Int.emod_nonneg _ (by omega), Int.emod_lt_of_pos _ m0⟩
      refine k_ite (fun c1 => ?_) (fun c1 => ?_)
      · walk_at "go"
        refine k_I CZ ?_
        walk_at "go"
        refine k_I (by decide) ?_
        walk_at "go"
        refine k_I (wide_div (b := 3) (by decide) (by decide) (by decide) (by decide)) ?_
        walk_at "go"
        refine k_I m0 ?_
        exact k _ _ (mn _).1 (mn _).2 ⟨sc, ns, i + 1, _, r, upd_same, (hs.keep K1 ea).keep Keep.at_ upd_same, hn, by omega, (zn _).1, (zn _).2⟩ (K1.trans Keep.at_)
      · walk_at "go"
        rw [List.length_map] at c1
        have hl : (i + 1 - 1).toNat < ns.length := by omega
        refine k_ixL (hs.keep K1 ea).sq (v := V.int (ns[(i + 1 - 1).toNat]'hl)) (at_of (j := (i + 1 - 1).toNat) (by omega) (by rw [List.getElem?_map, List.getElem?_eq_getElem hl]; rfl)) ?_
        generalize ns[(i + 1 - 1).toNat]'hl = cell
        walk_at "go"
        refine k_I CZ ?_
        walk_at "go"
        refine k_I (by decide) ?_
        walk_at "go"
        refine k_I (by exact ⟨by decide, by decide, by decide⟩) ?_
        walk_at "go"
        refine k_ite (fun c2 => ?_) (fun c2 => ?_)
        · walk_at "go"
          refine k_I (wide_div m0 mb (by decide) (by decide)) ?_
          walk_at "go"
          refine k_I m0 ?_
          exact k _ _ (mn _).1 (mn _).2 ⟨sc, ns, i + 1, _, _, upd_same, ((hs.keep K1 ea).keep Keep.at_ upd_same).keep Keep.at_ upd_same, hn, by omega, (zn _).1, (zn _).2⟩ ((K1.trans Keep.at_).trans Keep.at_)
        · walk_at "go"
          refine k_I m0 ?_
          exact k _ _ (mn _).1 (mn _).2 ⟨sc, ns, i + 1, _, _, upd_same, (hs.keep K1 ea).keep Keep.at_ upd_same, hn, by omega, (zn _).1, (zn _).2⟩ (K1.trans Keep.at_)
end
/-! ### enumerate over a tuple -/
section
open Builtin
theorem meets_enumT (t : Addr) (its : Array Value) : Meets (Builtin.«enumerate.__new__» ⟨[.type "enumerate", .ref t], []⟩) (fun _ R st => st.heap.IsTuple t its ∧
    R (.ok (.ret (.ref (st.heap.objs.size + 1)))) { st with heap := (st.heap.push { cls := .type "tuple_iterator", data := .fields #[.ref t, .int 0 0] }).push { cls := .type "enumerate", data := .fields #[.none, .bool false, .ref st.heap.objs.size, rawInt 0, .none, .none] } }) := by
  refine Meets.of_wp fun prog w A R st hh => ?_
  rcases st with ⟨h0, g0, d0, t0, o0⟩
  obtain ⟨isT, q⟩ := hh
  have sub := sub_enumerate
  have L : Heap.IsTuple (Shared.heap ⟨h0, g0, d0, t0, o0⟩) t its := isT
  obtain ⟨ob, e0, c0, n0, dt0⟩ := L
  have z : (Heap.push h0 { cls := .type "tuple_iterator", data := .fields #[.ref t, .int 0 0] }).objs.size = h0.objs.size + 1 := Heap.size_push ..
  have q' := q
  rw [← z] at q'
  wp_walk using PySem.wpAny_pyIter_tuple isT
  refine wpAny_stack_any fun fr => wpAny_pure ?_
  split
  · rename_i cc _ _ _ _ _
    cases (cc == Value.type "enumerate")
    · wp_walk using PySem.wpAny_pyIter_tuple isT
      exact ⟨_, rfl, q'⟩
    · wp_walk using PySem.wpAny_pyIter_tuple isT
      exact ⟨_, rfl, q'⟩
  · wp_walk using PySem.wpAny_pyIter_tuple isT
    exact ⟨_, rfl, q'⟩
end
section
variable {prog : Program} {w : World} {A : Around} {E : Value → Shared → Prop} {s : Shared}
theorem call_enumT {t : Addr} {its : Array Value} {Q : Value → Shared → Prop} (isT : s.heap.IsTuple t its)
    (k : ∀ h', IsEnum h' (s.heap.objs.size + 1) s.heap.objs.size 0 .none → h'.IsTupleIter s.heap.objs.size t 0 → (∀ b o, s.heap.get? b = some o → h'.get? b = some o) →
      Q (.ref (s.heap.objs.size + 1)) { s with heap := h' }) : wpAny (model prog w) A (call (.type "enumerate") [.ref t]) Q E s := by
  have m := meets_enumT t its
  refine callType_new F.called_enumerate (by decide) (F.typeCall_enumerate_1 _) (F.newCall_enumerate_1 _) (fun o => F.args_object_init_2 o _) F.entry_enumerate_new m ⟨isT, ?_⟩
  have z : (Heap.push s.heap { cls := .type "tuple_iterator", data := .fields #[.ref t, .int 0 0] }).objs.size = s.heap.objs.size + 1 := Heap.size_push ..
  have g := Heap.get?_push_size (Heap.push s.heap { cls := .type "tuple_iterator", data := .fields #[.ref t, .int 0 0] })
    (o := { cls := .type "enumerate", data := .fields #[.none, .bool false, .ref s.heap.objs.size, rawInt 0, .none, .none] }) rfl
  rw [z] at g
  exact ⟨⟨_, g, rfl⟩, k _ g ⟨_, Heap.get?_push_of_some _ (Heap.get?_push_size _ rfl), rfl, rfl⟩ fun b o x => Heap.get?_push_of_some _ (Heap.get?_push_of_some _ x)⟩
end
/-- the i-th pair is new: its place and the tuple's item -/
def Iet (K : PySem.W.Frag) (a : Addr) : It :=
  ⟨fun i H => ∃ (xs : List V) (x : V), SqT K H a xs ∧ xs[i]? = some x,
   fun i H v H' => ∃ p x, v = .ref p ∧ H p = none ∧ H' = upd H p (.tup [.int (i : Nat), x]) ∧ ∀ xs, SqT K H a xs → xs[i]? = some x,
   fun i H => ∃ xs : List V, SqT K H a xs ∧ xs.length ≤ i⟩
theorem turn_enumT {P : Program} {w : World} {K : PySem.W.Frag} {es : List Expr} {c : Nat} {tp : Pos} (a e it : Addr) :
    Turn P w K (.Tuple es c tp) (Iet K a) [e, it] e (fun i h => (∃ old, IsEnum h e it ((i : Nat) : Int) old) ∧ h.IsTupleIter it a i ∧ e ≠ it) := by
  have two : ∀ b, b ∈ [e, it] → b = e ∨ b = it := fun b hb => by simpa using hb
  constructor
  case mem => simp
  case obj =>
    rintro i h ⟨⟨old, he⟩, ⟨o, ho, hc, hd⟩, _⟩ b hb
    rcases two b hb with rfl | rfl
    · exact ⟨_, he, fun v q => nomatch q⟩
    · exact ⟨o, ho, fun v q => by rw [hd] at q; cases q⟩
  case keep =>
    rintro i h h' ⟨⟨old, he⟩, hi, ne⟩ k
    exact ⟨⟨old, k e (by simp) _ he⟩, hi.at fun o q => k it (by simp) o q, ne⟩
  case item =>
    rintro X rfl rfl rfl hC i pins s σ H E I hf ⟨⟨old, he⟩, hit, ne⟩ ⟨xs, x, hq, hx⟩
    obtain ⟨its, rv, p, hz⟩ := I.tuple hq
    obtain ⟨u, hu, ru⟩ := rv.get hx
    have le : e < s.heap.objs.size := Heap.lt_size he
    have li : it < s.heap.objs.size := by obtain ⟨_, q, _⟩ := hit; exact Heap.lt_size q
    have pt : s.heap.IsTuple a its.toArray := p
    have na : a ≠ it := fun z => by
      obtain ⟨o1, q1, c1, _⟩ := hit
      obtain ⟨o2, q2, c2, _⟩ := pt
      rw [z, q1] at q2
      cases q2
      rw [c1] at c2
      exact absurd c2 (by simp)
    have nb : e ≠ a := fun z => by
      obtain ⟨o2, q2, c2, _⟩ := pt
      have q3 : s.heap.get? e = _ := he
      rw [z, q2] at q3
      cases q3
      exact absurd c2 (by simp)
    have Dr := Draws.tuple (prog := X.prog) (w := X.w) (A := X.A.in1) (I.ok.hd hC) it a na its.toArray
    refine wpAny_pyNext_enum_itemD (i := i) Dr he ⟨hit, pt⟩ (by simpa using (List.getElem?_eq_some_iff.mp hu).1) ne (by simp [ne, nb]) fun x' h' tk px ho st hT hsz hk => ?_
    have ex : x' = u := by
      have q : its.toArray[i]? = some x' := px
      rw [List.getElem?_toArray, hu] at q
      exact (Option.some.inj q).symm
    subst ex
    refine ⟨_, rfl, wpAny_letOwnedTupleGo_enum (s := { s with heap := h', toks := tk + 1 }) ho fun h2 he2 sb => ?_⟩
    have hT2 : h2.get? s.heap.objs.size = some { cls := .type "tuple", data := .seq #[.int i tk, x'] } := (sb.2 _ (Nat.ne_of_gt le)).trans hT
    have new : ObjOk X.prog X.w (upd H s.heap.objs.size (.tup [.int (i : Nat), x])) h2 s.heap.objs.size (.tup [.int (i : Nat), x]) :=
      ⟨(by decide : 2 ≤ sizeLine), [.int i tk, x'], .cons ⟨_, rfl⟩ (.cons ru .nil), ⟨_, hT2, rfl, _, rfl⟩⟩
    have I1 : Inv X pins σ (upd H s.heap.objs.size (.tup [.int (i : Nat), x])) { s with heap := h2, toks := tk + 1 } :=
      I.turnedNew (ch := [e, it]) (fun b ob hb q => (sb.2 b (fun z => hb (by simp [z]))).trans (hk b ob (fun z => hb (by simp [z])) (fun z => hb (by simp [z])) q)) hf (Nat.le_refl _) new
    refine ⟨.ref s.heap.objs.size, _, I1, rfl, ⟨_, x, rfl, I.hok.fresh (Nat.le_refl _), rfl, fun ys hy => ?_⟩, ⟨⟨x', ?_⟩, ?_, ne⟩, fun b hb => ?_⟩
    · rw [I.tuple_inj hy hq]; exact hx
    · have e1 : ((i + 1 : Nat) : Int) = (i : Int) + 1 := by omega
      rw [e1]; exact he2
    · exact st.1.at fun o q => (sb.2 it (Ne.symm ne)).trans q
    · have lb : b < s.heap.objs.size := by rcases two b hb with rfl | rfl <;> assumption
      rw [upd_ne (Nat.ne_of_lt lb)]
      exact (hf b hb).1
  case done =>
    rintro X rfl rfl rfl hC i pins s σ H E I hf ⟨⟨old, he⟩, hit, ne⟩ ⟨xs, hq, hx⟩
    obtain ⟨its, rv, p, hz⟩ := I.tuple hq
    have pt : s.heap.IsTuple a its.toArray := p
    have na : a ≠ it := fun z => by
      obtain ⟨o1, q1, c1, _⟩ := hit
      obtain ⟨o2, q2, c2, _⟩ := pt
      rw [z, q1] at q2
      cases q2
      rw [c1] at c2
      exact absurd c2 (by simp)
    have out : its.toArray[i]? = none := by
      have hl := rv.length
      rw [List.getElem?_toArray]
      exact List.getElem?_eq_none (by omega)
    have Dr : Draws X.prog X.w X.A.in1 it [it, a] i (fun _ _ => True) (fun j h => j = i ∧ h.IsTupleIter it a j ∧ h.IsTuple a its.toArray) :=
      { live := fun j h st => by obtain ⟨_, ⟨o, ho, _⟩, _⟩ := st; exact ⟨o, ho⟩
        frame := fun j h h' st hk => ⟨st.1, st.2.1.at fun o e => hk it (by simp) o e, st.2.2.at fun o e => hk a (by simp) o e⟩
        item := fun j s Q E hj st hQ => absurd st.1 (Nat.ne_of_lt hj)
        done := fun s Q E st hE => wpAny_nextOf_tuple_end (A := X.A.in1) (I.ok.hd hC) st.2.1 st.2.2 out hE }
    obtain ⟨f0, f1, f2, f3, f4, f5⟩ := hf it (by simp)
    exact wpAny_pyNext_enum_endD Dr he ⟨rfl, hit, pt⟩ fun h' eb => ⟨rfl, I.turned (t' := s.toks) (fun b o hb q => eb b o hb q) f0 f1 f3 f4 f5⟩
  case self =>
    rintro A i s Q E ⟨⟨_, he⟩, _⟩ h
    exact wpAny_pyIter_enum he h
def iEnumT (K : PySem.W.Frag) (ta : TA) : TI := fun σ H R => ta σ H fun vs H1 => ∃ a xs, vs = [.ref a] ∧ SqT K H1 a xs ∧ R (Iet K a) H1
theorem pi_enumT {X : Cx} {e : Expr} {ta : TA} {p pos tpos : Pos} {es : List Expr} {c : Nat} (hg : Gl X "enumerate") (hm : X.mg "enumerate" = none) (ha : PA X [e] ta)
    (hs : starEach [e] X.env = [(false, eval e X.env)] := by rfl) : PI X (.Tuple es c tpos) (.Call (.Name "enumerate" p) [e] [] pos) (iEnumT X.K ta) := by
  constructor
  intro pins s σ H R I h
  refine PyProof.Rows.Call_ (ld_blt I hg hm (show bootBuiltins "enumerate" = some (.type "enumerate") by decide +kernel) (PyProof.Rows.callWith_type1 (thn (ha.run pos pins s σ H _ I h) ?_) hs rfl))
  rintro us s1 ⟨vs, H1, I1, r1, a, xs, rfl, hq, q⟩
  obtain ⟨u, rfl, ru⟩ := vals1 r1
  cases ru
  obtain ⟨its, rv, p', hz⟩ := I1.tuple hq
  have pt : s1.heap.IsTuple a its.toArray := p'
  refine call_enumT pt fun h' he hit hk => wpAny_pyIter_enum he ?_
  have I2 : Inv X pins σ H1 { s1 with heap := h' } := I1.kept (t' := s1.toks) hk
  refine ⟨s1.heap.objs.size + 1, [s1.heap.objs.size + 1, s1.heap.objs.size], _, _, H1, rfl, I2, turn_enumT a (s1.heap.objs.size + 1) s1.heap.objs.size, ⟨⟨.none, he⟩, hit, Nat.succ_ne_self _⟩, fun b hb => ?_, q⟩
  have lb : s1.heap.objs.size ≤ b := by
    have two : b = s1.heap.objs.size + 1 ∨ b = s1.heap.objs.size := by simpa using hb
    rcases two with rfl | rfl
    · exact Nat.le_succ _
    · exact Nat.le_refl _
  exact I1.fpOk lb (I1.hok.fresh lb)
/-- over a tuple that stands still, the place and the item in a new pair -/
theorem for_enumT {K : PySem.W.Frag} {a : Addr} {xs : List V} {g : TG} {tb : TS} {D : Ends} {σ : L2.St} {H : Hp} (Pv : Nat → L2.St → Hp → Prop) (h0 : Pv 0 σ H) (hl : ∀ i σ H, i ≤ xs.length → Pv i σ H → SqT K H a xs)
    (hs : ∀ i x p σ H, xs[i]? = some x → Pv i σ H → H p = none → g (.ref p) σ (upd H p (.tup [.int (i : Nat), x])) fun σ2 H2 => tb { D with nx := Pv (i + 1), ct := Pv (i + 1), bk := D.nx } σ2 H2) (hd : ∀ σ H, Pv xs.length σ H → D.nx σ H) :
    ∃ W : Nat → Nat → L2.St → Hp → Prop, (∃ m, W 0 m σ H) ∧ ∀ i m σ H, W i m σ H → ((Iet K a).stop i H ∧ D.nx σ H) ∨
      ((Iet K a).go i H ∧ ∃ N : L2.St → Hp → Prop, (∀ σ' H', N σ' H' → ∃ m', m' < m ∧ W (i + 1) m' σ' H') ∧ ∀ x H', (Iet K a).yld i H x H' → g x σ H' fun σ2 H2 => tb { D with nx := N, ct := N, bk := D.nx } σ2 H2) := by
  refine ⟨fun i m σ H => m + i = xs.length ∧ Pv i σ H, ⟨xs.length, by simp, h0⟩, fun i m σ H ⟨em, hP⟩ => ?_⟩
  have sq := hl i σ H (by omega) hP
  by_cases c : i < xs.length
  · refine .inr ⟨⟨xs, xs[i], sq, List.getElem?_eq_getElem c⟩, Pv (i + 1), fun σ' H' z => ⟨m - 1, by omega, by omega, z⟩, ?_⟩
    rintro v H' ⟨p, x, rfl, hp, rfl, hx⟩
    exact hs i x p σ H (hx xs sq) hP hp
  · have e : i = xs.length := by omega
    exact .inl ⟨⟨xs, sq, by omega⟩, hd σ H (e ▸ hP)⟩
/-! ### machines as data -/
structure Stp where
  b : Nat
  c : Nat
  e : Nat
  g : Int
structure MD where
  n : Nat
  ss : List Stp
  es : List Nat
def stpV (s : Stp) : List V := [.int (s.b : Nat), .str ⟨#[s.c]⟩, .int (s.e : Nat), .int s.g]
structure Stp.Ok (n : Nat) (s : Stp) : Prop where
  b : s.b < n
  c : 97 ≤ s.c
  c' : s.c ≤ 100
  e : s.e < n
  g : -(10 ^ 30) ≤ s.g
  g' : s.g ≤ 10 ^ 30
def Stp.lt (s t : Stp) : Prop := s.b < t.b ∨ (s.b = t.b ∧ s.c < t.c)
structure MD.Ok (m : MD) : Prop where
  n1 : 1 ≤ m.n
  n8 : m.n ≤ 8
  ok : ∀ s ∈ m.ss, s.Ok m.n
  up : m.ss.Pairwise Stp.lt
  len : m.ss.length ≤ 32
  eb : ∀ e ∈ m.es, e < m.n
  eu : m.es.Pairwise (· < ·)
  el : m.es.length ≤ 8
/-- steps alone, whatever the number of stands -/
structure StOk (N : Nat) (s : Stp) : Prop where
  b : s.b < N
  c : 97 ≤ s.c
  c' : s.c ≤ 100
  e : s.e < N
  g : -(10 ^ 32) ≤ s.g
  g' : s.g ≤ 10 ^ 32
structure SsOk (N : Nat) (ss : List Stp) : Prop where
  n1 : 1 ≤ N
  n64 : N ≤ 63
  ok : ∀ s ∈ ss, StOk N s
  len : ss.length ≤ 300
theorem MD.Ok.sok {m : MD} (o : m.Ok) : SsOk m.n m.ss := ⟨o.n1, by have := o.n8; omega, fun s h => let k := o.ok s h; ⟨k.b, k.c, k.c', k.e, by have := k.g; omega, by have := k.g'; omega⟩, by have := o.len; omega⟩
/-- the steps' tuples -/
def StpsAt (K : PySem.W.Frag) (H : Hp) (vs : List V) (ss : List Stp) : Prop := vs.length = ss.length ∧ ∀ (i : Nat) (s : Stp), ss[i]? = some s → ∃ p, vs[i]? = some (V.ref p) ∧ SqT K H p (stpV s)
def nats (es : List Nat) : List V := es.map fun e => V.int (e : Nat)
def StAt (K : PySem.W.Frag) (H : Hp) (t : Addr) (ss : List Stp) : Prop := ∃ us, SqT K H t us ∧ StpsAt K H us ss
/-- steps and ends as they stand -/
def PartsAt (K : PySem.W.Frag) (H : Hp) (t u : Addr) (m : MD) : Prop := (∃ vs, SqT K H t vs ∧ StpsAt K H vs m.ss) ∧ SqT K H u (nats m.es)
def DAt (K : PySem.W.Frag) (H : Hp) (d : Addr) (m : MD) : Prop := ∃ t u, H d = some (.dK [(.inr "stands", .int (m.n : Nat)), (.inr "steps", .ref t), (.inr "ends", .ref u)]) ∧ PartsAt K H t u m
def mfs (n : Nat) (t u : Addr) : List (Str × V) := [("_stands", .int (n : Nat)), ("_steps", .ref t), ("_ends", .ref u)]
def MAt (K : PySem.W.Frag) (C : Addr) (H : Hp) (x : Addr) (m : MD) : Prop := ∃ dx t u, H x = some (.ins C dx (mfs m.n t u)) ∧ PartsAt K H t u m
section
variable {K : PySem.W.Frag} {a : Addr} {H H' : Hp}
/-- tuples stay -/
def Tups (H H' : Hp) : Prop := (∀ b xs, H b = some (.tup xs) → H' b = some (.tup xs)) ∧ ∀ b o xs, H b = some (.frz o (.tup xs)) → H' b = some (.frz o (.tup xs))
theorem Tups.trans {H H1 H2 : Hp} (a : Tups H H1) (b : Tups H1 H2) : Tups H H2 := ⟨fun c xs e => b.1 c xs (a.1 c xs e), fun c o xs e => b.2 c o xs (a.2 c o xs e)⟩
theorem Tups.sq {p : Addr} {xs : List V} (k : Tups H H') (h : SqT K H p xs) : SqT K H' p xs := by
  rcases h with (h | ⟨o, h⟩) | h
  · exact .inl (.inl (k.1 _ _ h))
  · exact .inl (.inr ⟨o, k.2 _ _ _ h⟩)
  · exact .inr h
theorem Tups.steps {vs : List V} {ss : List Stp} (k : Tups H H') (h : StpsAt K H vs ss) : StpsAt K H' vs ss := ⟨h.1, fun i s e => let ⟨p, e1, q⟩ := h.2 i s e; ⟨p, e1, k.sq q⟩⟩
theorem Tups.stAt {t : Addr} {ss : List Stp} (k : Tups H H') (h : StAt K H t ss) : StAt K H' t ss := let ⟨us, q, z⟩ := h; ⟨us, k.sq q, k.steps z⟩
theorem Tups.parts {t u : Addr} {m : MD} (k : Tups H H') (h : PartsAt K H t u m) : PartsAt K H' t u m := let ⟨⟨vs, q, z⟩, r⟩ := h; ⟨⟨vs, k.sq q, k.steps z⟩, k.sq r⟩
theorem same_tups (k : Same H H') : Tups H H' := ⟨fun _ _ e => k _ _ e, fun _ _ _ e => k _ _ e⟩
theorem Keep.tups {l : List V} (k : Keep a H H') (ha : H a = some (.lst l)) : Tups H H' := ⟨fun b _ e => k _ _ (fun z => by rw [z, ha] at e; cases e) e, fun b _ _ e => k _ _ (fun z => by rw [z, ha] at e; cases e) e⟩
theorem Tups.new {p : Addr} {o : HO} (h : H p = none) : Tups H (upd H p o) := same_tups (Same.new h)
theorem Tups.lst {p : Addr} {xs : List V} {o : HO} (h : H p = some (.lst xs)) : Tups H (upd H p o) := Keep.tups (Keep.at_) h
theorem DAt.keep {d : Addr} {m : MD} {l : List V} (h : DAt K H d m) (k : Keep a H H') (ha : H a = some (.lst l)) : DAt K H' d m :=
  let ⟨t, u, e, q⟩ := h; ⟨t, u, k _ _ (fun z => by rw [z, ha] at e; cases e) e, (k.tups ha).parts q⟩
theorem MAt.keep {C x : Addr} {m : MD} {l : List V} (h : MAt K C H x m) (k : Keep a H H') (ha : H a = some (.lst l)) : MAt K C H' x m :=
  let ⟨dx, t, u, e, q⟩ := h; ⟨dx, t, u, k _ _ (fun z => by rw [z, ha] at e; cases e) e, (k.tups ha).parts q⟩
theorem DAt.same {d : Addr} {m : MD} (h : DAt K H d m) (k : Same H H') : DAt K H' d m := let ⟨t, u, e, q⟩ := h; ⟨t, u, k _ _ e, (same_tups k).parts q⟩
theorem MAt.same {C x : Addr} {m : MD} (h : MAt K C H x m) (k : Same H H') : MAt K C H' x m := let ⟨dx, t, u, e, q⟩ := h; ⟨dx, t, u, k _ _ e, (same_tups k).parts q⟩
theorem StpsAt.snoc {vs : List V} {ss : List Stp} {p : Addr} {s : Stp} (h : StpsAt K H vs ss) (q : SqT K H p (stpV s)) : StpsAt K H (vs ++ [V.ref p]) (ss ++ [s]) := by
  refine ⟨by rw [List.length_append, List.length_append, h.1]; rfl, fun i t e => ?_⟩
  by_cases c : i < ss.length
  · rw [List.getElem?_append_left c] at e
    obtain ⟨r, e1, q1⟩ := h.2 i t e
    exact ⟨r, by rw [List.getElem?_append_left (by rw [h.1]; exact c)]; exact e1, q1⟩
  · rw [List.getElem?_append_right (by omega)] at e
    have z : i - ss.length = 0 := by
      have := (List.getElem?_eq_some_iff.mp e).1
      simp at this
      omega
    rw [z] at e
    cases e
    exact ⟨p, by rw [List.getElem?_append_right (by rw [h.1]; omega), h.1, z]; rfl, q⟩
end
/-! ### what a machine checks -/
def NotInt (K : PySem.W.Frag) (H : Hp) (v : V) : Prop := (∃ b, v = .bl b) ∨ ∃ t, TyX K H v t ∧ PySem.W.kitOne K t (.type "int") = some false
theorem k_isi {K : PySem.W.Frag} {H : Hp} {Q : VK} {x c : V} {t u : Value} {b : Bool} (hc : ClsV c u) (ht : TyX K H x t) (hk : PySem.W.kitOne K t u = some b) (h : Q (.bl b) H) : rIsi K [x, c] H Q := ⟨x, c, t, u, b, rfl, hc, ht, hk, h⟩
theorem k_chain {r r' : R2} {ta tb tc : TE} {σ : L2.St} {H : Hp} {Q : VK} (h : ta σ H fun x H1 => tb σ H1 fun y H2 => r x y H2 fun z H3 => ∃ k, z = .bl k ∧
  (if k = true then tc σ H3 fun w' H4 => r' y w' H4 Q else Q (.bl false) H3)) : tChain r r' ta tb tc σ H Q := h
def sp_whole (K : PySem.W.Frag) : Sp := fun vs H Q _ => ∃ v : V, vs = [v] ∧ ((∃ i, v = .int i ∧ Q (.bl true) H) ∨ (NotInt K H v ∧ Q (.bl false) H))
def sp_between (K : PySem.W.Frag) : Sp := fun vs H Q _ => ∃ (v : V) (lo hi : Int), vs = [v, .int lo, .int hi] ∧ ((∃ i, v = .int i ∧ Q (.bl (decide (lo ≤ i ∧ i ≤ hi))) H) ∨ (NotInt K H v ∧ Q (.bl false) H))
def sp_is_stand (K : PySem.W.Frag) : Sp := fun vs H Q _ => ∃ (v : V) (n : Int), vs = [.int n, v] ∧ ((∃ i, v = .int i ∧ Q (.bl (decide (0 ≤ i ∧ i < n))) H) ∨ (NotInt K H v ∧ Q (.bl false) H))
def sp_check_stands (K : PySem.W.Frag) : Sp := fun vs H Q _ => ∃ n : Int, vs = [.int n] ∧ 1 ≤ n ∧ n ≤ 8 ∧ Q .non H
section
variable {P : Program} {w : World} {K : PySem.W.Frag} {mg : Str → Option Value} {base : Heap}
theorem ok_is_whole_number (T : Txt K mg) : FnOk P w K mg base (L2.CX P w) 1 T.a_is_whole_number T.fd_is_whole_number ["value"] (sp_whole K) := by
  refine T.F_is_whole_number.okX sc_is_whole_number (fun vs H Q E h => ?_) (fun cdv A outer s H vs Q E hr h => ?_)
  · obtain ⟨v, rfl, _⟩ := h
    rfl
  · obtain ⟨v, rfl, k⟩ := h
    refine ⟨_, (PSs.nox (pss_one (ps_ret (pe_and (pe_callB call_isi (by rfl) T.z_isinstance (by decide +kernel) (pa_cons (pv 0) (pa_cons (pe_bltn (v := .ty "int") (by rfl) T.z_int (by decide +kernel) rfl) pa_nil))) (pe_one (pe_not (pe_callB call_isi (by rfl) T.z_isinstance (by decide +kernel) (pa_cons (pv 0) (pa_cons (pe_bltn (v := .ty "bool") (by rfl) T.z_bool (by decide +kernel) rfl) pa_nil))))))))), ?_⟩
    walk_at "begin"
    walk_at "go"
    rcases k with ⟨i, rfl, k⟩ | ⟨⟨b, rfl⟩ | ⟨t, ht, hk⟩, k⟩
    · refine k_isi (.ty _) (.base (.int i)) (kit_ty (b := "int") (r := true) (by decide +kernel)) ?_
      walk_at "go"
      refine iteT ?_
      walk_at "go"
      refine k_isi (.ty _) (.base (.int i)) (kit_ty (b := "bool") (r := false) (by decide +kernel)) ?_
      walk_at "go"
      exact k
    · refine k_isi (.ty _) (.base (.bl b)) (kit_ty (b := "int") (r := true) (by decide +kernel)) ?_
      walk_at "go"
      refine iteT ?_
      walk_at "go"
      refine k_isi (.ty _) (.base (.bl b)) (kit_ty (b := "bool") (r := true) (by decide +kernel)) ?_
      walk_at "go"
      exact k
    · refine k_isi (.ty _) ht hk ?_
      walk_at "go"
      exact iteF k
theorem ok_is_integer_between (T : Txt K mg) : FnOk P w K mg base (L2.CX P w) 2 T.a_is_integer_between T.fd_is_integer_between ["value", "least", "most"] (sp_between K) := by
  refine T.F_is_integer_between.okX sc_is_integer_between (fun vs H Q E h => ?_) (fun cdv A outer s H vs Q E hr h => ?_)
  · obtain ⟨v, lo, hi, rfl, _⟩ := h
    rfl
  · obtain ⟨v, lo, hi, rfl, k⟩ := h
    refine ⟨_, (PSs.nox (pss_one (ps_ret (pe_and (pe_call (ok_is_whole_number T) (hr.mono (by decide)) (by rfl) T.m_is_whole_number T.k_is_whole_number T.b_is_whole_number .nil passL (pa_cons (pv 0) pa_nil)) (pe_one (pe_chain op_le op_le (pv 1) (pv 0) (pv 2))))))), ?_⟩
    walk_at "begin"
    walk_at "go"
    rcases k with ⟨i, rfl, k⟩ | ⟨ni, k⟩
    · refine ⟨_, rfl, .inl ⟨i, rfl, ?_⟩⟩
      walk_at "go"
      refine iteT (k_chain ?_)
      walk_at "go"
      refine k_ite (fun c => ?_) (fun c => ?_)
      · walk_at "go"
        rw [decide_eq_decide.mpr (show lo ≤ i ∧ i ≤ hi ↔ i ≤ hi from ⟨fun z => z.2, fun z => ⟨c, z⟩⟩)] at k
        exact k
      · walk_at "go"
        rw [decide_eq_false (show ¬ (lo ≤ i ∧ i ≤ hi) from fun z => c z.1)] at k
        exact k
    · refine ⟨_, rfl, .inr ⟨ni, ?_⟩⟩
      walk_at "go"
      exact iteF k
theorem ok_is_stand (T : Txt K mg) : FnOk P w K mg base (L2.CX P w) 3 T.a_is_stand T.fd_is_stand ["stands", "value"] (sp_is_stand K) := by
  refine T.F_is_stand.okX sc_is_stand (fun vs H Q E h => ?_) (fun cdv A outer s H vs Q E hr h => ?_)
  · obtain ⟨v, n, rfl, _⟩ := h
    rfl
  · obtain ⟨v, n, rfl, k⟩ := h
    refine ⟨_, (PSs.nox (pss_one (ps_ret (pe_call (ok_is_integer_between T) (hr.mono (by decide)) (by rfl) T.m_is_integer_between T.k_is_integer_between T.b_is_integer_between .nil passL (pa_cons (pv 1) (pa_cons pe_int (pa_cons (pe_op op_sub (pv 0) pe_int) pa_nil))))))), ?_⟩
    walk_at "begin"
    walk_at "go"
    refine ⟨v, 0, n - 1, rfl, ?_⟩
    rcases k with ⟨i, rfl, k⟩ | ⟨ht, k⟩
    · refine .inl ⟨i, rfl, ?_⟩
      rw [decide_eq_decide.mpr (show (0 ≤ i ∧ i < n) ↔ (0 ≤ i ∧ i ≤ n - 1) by omega)] at k
      exact k
    · exact .inr ⟨ht, k⟩
theorem ok_check_stands (T : Txt K mg) : FnOk P w K mg base (L2.CX P w) 3 T.a_check_stands T.fd_check_stands ["stands"] (sp_check_stands K) := by
  refine T.F_check_stands.okX sc_check_stands (fun vs H Q E h => ?_) (fun cdv A outer s H vs Q E hr h => ?_)
  · obtain ⟨n, rfl, _⟩ := h
    rfl
  · obtain ⟨n, rfl, n1, n8, k⟩ := h
    refine ⟨_, (PSs.nox (pss_one (ps_if (pt_not (pt_val (pe_call (ok_is_integer_between T) (hr.mono (by decide)) (by rfl) T.m_is_integer_between T.k_is_integer_between T.b_is_integer_between .nil passL (pa_cons (pv 0) (pa_cons pe_int (pa_cons (pe_glob (by rfl) T.m_MOST_STANDS T.r_MOST_STANDS) pa_nil))))))
  (pss_one ps_never)
  pss_nil))), ?_⟩
    walk_at "begin"
    walk_at "go"
    refine ⟨_, 1, 8, rfl, .inl ⟨n, rfl, ?_⟩⟩
    rw [decide_eq_true (show 1 ≤ n ∧ n ≤ 8 from ⟨n1, n8⟩)]
    walk_at "go"
    refine iteF ?_
    walk_at "go"
    exact k
end
/-! ### (int, text) <= (int, text) -/
def le2 (i : Int) (s : Str) (j : Int) (t : Str) : Bool := if i = j then (if s = t then true else !decide (t.cps.toList < s.cps.toList)) else decide (i ≤ j)
def rLe2 (K : PySem.W.Frag) : R2 := fun x y H Q => ∃ (a b : Addr) (i j : Int) (s t : Str), x = .ref a ∧ y = .ref b ∧ SqT K H a [.int i, .str s] ∧ SqT K H b [.int j, .str t] ∧ Q (.bl (le2 i s j t)) H
theorem op_le2 {X : Cx} (hu : X.A.units < cLine) : OpR X (compareOp .LtE) (rLe2 X.K) := by
  rintro pins st σ H x y v u Q I rx ry ⟨a, b, i, j, s, t, rfl, rfl, ha, hb, q⟩
  cases rx
  cases ry
  obtain ⟨us, r1, p1, _⟩ := I.tuple ha
  obtain ⟨ws, r2, p2, _⟩ := I.tuple hb
  obtain ⟨u1, u2, rfl, ⟨k1, rfl⟩, ⟨k2, rfl⟩⟩ := vals2 r1
  obtain ⟨w1, w2, rfl, ⟨l1, rfl⟩, ⟨l2, rfl⟩⟩ := vals2 r2
  have R := Ob.RcOp.tuples_le (A := X.A) (s := st) (e := fun n => if n = 0 then (i == j) else decide (s = t)) (r := fun n => if n = 0 then decide (i ≤ j) else !decide (t.cps.toList < s.cps.toList)) p1 p2 hu
    (fun n h1 h2 => by
      have n2 : n < 2 := h1
      match n, n2 with
      | 0, _ => exact SeqAt.EqAt.int_int _ _ _ _
      | 1, _ => exact SeqAt.EqAt.str_str _ _ _ _)
    (fun n h1 h2 _ => by
      have n2 : n < 2 := h1
      match n, n2 with
      | 0, _ => exact Ob.RcOp.le_int _ _ _ _
      | 1, _ => exact fun prog w E Q hQ => PySem.P.le_str hQ)
  have z : Ob.lexAt (fun n => if n = 0 then (i == j) else decide (s = t)) (fun n => if n = 0 then decide (i ≤ j) else !decide (t.cps.toList < s.cps.toList)) (decide ((2 : Nat) ≤ 2)) 0 (min 2 2) = le2 i s j t := by
    show Ob.lexAt _ _ _ 0 2 = _
    rw [Ob.lexAt_succ]
    unfold le2
    by_cases c : i = j
    · have c' : (i == j) = true := beq_iff_eq.mpr c
      simp only [if_pos, c', if_pos c]
      rw [Ob.lexAt_succ]
      by_cases d : s = t
      · simp [d, Ob.lexAt_zero]
      · simp [d]
    · have c' : (i == j) = false := beq_eq_false_iff_ne.mpr c
      simp [c']
      exact fun z => absurd z c
  have R' := R X.prog X.w X.xe (EP X pins σ Q) ⟨.bl _, H, I, rfl, (by rw [← z] at q; exact q)⟩
  exact R'
/-! ### steps, ends, machines -/
theorem ty_tup {K : PySem.W.Frag} {H : Hp} {p : Addr} {xs : List V} (h : SqT K H p xs) : TyX K H (.ref p) (.type "tuple") := by
  rcases h with (h | ⟨o, h⟩) | ⟨o, its, n, h, hc, _⟩
  · exact .base (.tup h)
  · exact .fTuple h
  · exact .kTuple h hc
theorem k_in {K : PySem.W.Frag} {neg : Bool} {H : Hp} {Q : VK} {p : Addr} {x : V} {xs : List V} (h : SqL K H p xs ∨ SqT K H p xs) (fx : flatV x = true) (fa : xs.all flatV = true) (q : Q (.bl (if neg then !inV x xs else inV x xs)) H) : rIn K neg x (.ref p) H Q := ⟨p, xs, rfl, h, fx, fa, q⟩
theorem letter_in {c : Nat} (h : 97 ≤ c) (h' : c ≤ 100) : inV (.str ⟨#[c]⟩) [V.str "a", V.str "b", V.str "c", V.str "d"] = true := by
  have z : c = 97 ∨ c = 98 ∨ c = 99 ∨ c = 100 := by omega
  rcases z with rfl | rfl | rfl | rfl <;> decide
theorem k_slA2 {K : PySem.W.Frag} {H : Hp} {Q : VK} {a : Addr} {x y z u : V} (h : SqT K H a [x, y, z, u]) (q : ∀ p, H p = none → Q (.ref p) (upd H p (.tup [x, y]))) : rSlA K (.ref a) none (some 2) H Q :=
  ⟨a, _, rfl, h, fun e => absurd e (by show ¬ ((0 : Nat) = 0 ∧ (2 : Nat) = 4); decide), fun _ p hp => q p hp⟩
theorem le2_no {s t : Stp} (h : s.lt t) : le2 (t.b : Nat) ⟨#[t.c]⟩ (s.b : Nat) ⟨#[s.c]⟩ = false := by
  unfold le2
  rcases h with h | ⟨h1, h2⟩
  · rw [if_neg (by omega), decide_eq_false (by omega)]
  · rw [if_pos (by omega), if_neg (by intro z; injection z with z; simp at z; omega)]
    simp
    exact List.Lex.rel h2
theorem few {n : Nat} (k : Nat) (h : k < 1000) (q : n ≤ k) : n < 1000 := Nat.lt_of_le_of_lt q h
def sp_is_step (K : PySem.W.Frag) : Sp := fun vs H Q _ => ∃ (n : Nat) (p : Addr) (s : Stp), vs = [.int (n : Nat), .ref p] ∧ SqT K H p (stpV s) ∧ s.Ok n ∧ Q (.bl true) H
def sp_check_steps (K : PySem.W.Frag) : Sp := fun vs H Q _ => ∃ (t : Addr) (us : List V) (m : MD), vs = [.int (m.n : Nat), .ref t] ∧ SqT K H t us ∧ StpsAt K H us m.ss ∧ m.Ok ∧ ∀ H', Same H H' → Q .non H'
def sp_check_ends (K : PySem.W.Frag) : Sp := fun vs H Q _ => ∃ (t : Addr) (m : MD), vs = [.int (m.n : Nat), .ref t] ∧ SqT K H t (nats m.es) ∧ m.Ok ∧ ∀ H', Same H H' → Q .non H'
/-- whether values are ascending integers from l to below n -/
def ascV (n : Int) : Int → List V → Bool
  | _, [] => true
  | l, .int j :: r => decide (l ≤ j ∧ j ≤ n - 1) && ascV n (j + 1) r
  | _, _ => false
theorem ascV_odd {n l : Int} {x : V} {r : List V} (h : ∀ j, x ≠ .int j) : ascV n l (x :: r) = false := by
  cases x with
  | int j => exact (h j rfl).elim
  | _ => rfl
theorem ascV_nats {n : Nat} : ∀ {es : List Nat} {l : Nat}, (∀ e ∈ es, e < n) → es.Pairwise (· < ·) → (∀ e ∈ es, l ≤ e) → ascV (n : Nat) (l : Nat) (nats es) = true
  | [], _, _, _, _ => rfl
  | e :: es, l, h1, h2, h3 => by
    show (decide (((l : Nat) : Int) ≤ (e : Nat) ∧ ((e : Nat) : Int) ≤ (n : Nat) - 1) && ascV (n : Nat) (((e + 1 : Nat)) : Int) (nats es)) = true
    have a := h1 e (List.mem_cons_self ..)
    have b := h3 e (List.mem_cons_self ..)
    have c := List.pairwise_cons.mp h2
    rw [decide_eq_true (by omega), ascV_nats (fun x hx => h1 x (List.mem_cons_of_mem _ hx)) c.2 (fun x hx => c.1 x hx)]
    rfl
def sp_asc (K : PySem.W.Frag) : Sp := fun vs H Q _ => ∃ (v : V) (n : Int), vs = [v, .int n] ∧ ((∃ ty, TyX K H v ty ∧ PySem.W.kitOne K ty (.type "tuple") = some false ∧ Q (.bl false) H) ∨
  ∃ t xs, v = .ref t ∧ SqT K H t xs ∧ (∀ x ∈ xs, (∃ j, x = .int j) ∨ (NotInt K H x ∧ ∀ j, x ≠ .int j)) ∧ Q (.bl (ascV n 0 xs)) H)
def sp_init (K : PySem.W.Frag) (C : Addr) : Sp := fun vs H Q _ => ∃ (x dx t u : Addr) (m : MD), vs = [.ref x, .int (m.n : Nat), .ref t, .ref u] ∧ H x = some (.ins C dx []) ∧ PartsAt K H t u m ∧ m.Ok ∧
  ∀ H', Keep x H H' → H' x = some (.ins C dx (mfs m.n t u)) → Q .non H'
def sp_machine (K : PySem.W.Frag) (C : Addr) : Sp := fun vs H Q _ => ∃ (d : Addr) (m : MD), vs = [.ref d] ∧ DAt K H d m ∧ m.Ok ∧ ∀ x H', Same H H' → H x = none → MAt K C H' x m → Q (.ref x) H'
section
variable {P : Program} {w : World} {K : PySem.W.Frag} {mg : Str → Option Value} {base : Heap}
theorem ok_is_step (T : Txt K mg) : FnOk P w K mg base (L2.CX P w) 4 T.a_is_step T.fd_is_step ["stands", "value"] (sp_is_step K) := by
  refine T.F_is_step.okX sc_is_step (fun vs H Q E h => ?_) (fun cdv A outer s H vs Q E hr h => ?_)
  · obtain ⟨n, p, s, rfl, _⟩ := h
    rfl
  · obtain ⟨n, p, t, rfl, hp, o, k⟩ := h
    refine ⟨_, (PSs.nox (pss_cons (ps_if (PW.pt (pw_or (pt_not (pt_val (pe_callB call_isi (by rfl) T.z_isinstance (by decide +kernel) (pa_cons (pv 1) (pa_cons (pe_bltn (v := .ty "tuple") (by rfl) T.z_tuple (by decide +kernel) rfl) pa_nil))))) (pw_or1 (pt_cmpR op_ne (pe_callB call_len_seq (by rfl) T.z_len PySem.boot_len (pa_cons (pv 1) pa_nil)) pe_int (nomark _)))))
  (pss_one (ps_ret pe_bl))
  pss_nil)
  (pss_cons (ps_asg (pv 1) (pg_tup rfl (pgs_cons (pg_name (i := 2) sc_is_step.nd rfl (Or.inl rfl)) (pgs_cons (pg_name (i := 3) sc_is_step.nd rfl (Or.inl rfl)) (pgs_cons (pg_name (i := 4) sc_is_step.nd rfl (Or.inl rfl)) (pgs_cons (pg_name (i := 5) sc_is_step.nd rfl (Or.inl rfl)) pgs_nil))))))
  (pss_one (ps_ret (pe_and (pe_call (ok_is_stand T) (hr.mono (by decide)) (by rfl) T.m_is_stand T.k_is_stand T.b_is_stand .nil passL (pa_cons (pv 0) (pa_cons (pv 2) pa_nil))) (pe_and (pe_cmpR op_in_seq (pv 3) (pe_glob (by rfl) T.m_LETTERS T.r_LETTERS) (by rfl)) (pe_and (pe_call (ok_is_stand T) (hr.mono (by decide)) (by rfl) T.m_is_stand T.k_is_stand T.b_is_stand .nil passL (pa_cons (pv 0) (pa_cons (pv 4) pa_nil))) (pe_one (pe_call (ok_is_integer_between T) (hr.mono (by decide)) (by rfl) T.m_is_integer_between T.k_is_integer_between T.b_is_integer_between .nil passL (pa_cons (pv 5) (pa_cons (pe_un un_neg (pe_glob (by rfl) T.m_MOST_GAIN T.r_MOST_GAIN)) (pa_cons (pe_glob (by rfl) T.m_MOST_GAIN T.r_MOST_GAIN) pa_nil))))))))))))), ?_⟩
    walk_at "begin"
    walk_at "go"
    refine k_isi (.ty _) (ty_tup hp) (kit_ty (b := "tuple") (r := true) (by decide +kernel)) ?_
    walk_at "go"
    refine iteF ?_
    walk_at "go"
    refine k_len (.inr hp) ?_
    walk_at "go"
    refine iteF ?_
    walk_at "go"
    refine k_gt hp rfl ?_
    unfold stpV
    walk_at "go"
    refine ⟨_, _, rfl, .inl ⟨_, rfl, ?_⟩⟩
    rw [decide_eq_true (show 0 ≤ ((t.b : Nat) : Int) ∧ ((t.b : Nat) : Int) < (n : Nat) from ⟨Int.natCast_nonneg _, by have := o.b; omega⟩)]
    walk_at "go"
    refine iteT ?_
    walk_at "go"
    refine k_in (.inr (T.s_LETTERS _)) rfl (by decide) ?_
    rw [letter_in o.c o.c']
    walk_at "go"
    refine iteT ?_
    walk_at "go"
    refine ⟨_, _, rfl, .inl ⟨_, rfl, ?_⟩⟩
    rw [decide_eq_true (show 0 ≤ ((t.e : Nat) : Int) ∧ ((t.e : Nat) : Int) < (n : Nat) from ⟨Int.natCast_nonneg _, by have := o.e; omega⟩)]
    walk_at "go"
    refine iteT ?_
    walk_at "go"
    refine ⟨_, _, _, rfl, .inl ⟨_, rfl, ?_⟩⟩
    rw [decide_eq_true (show -1000000000000000000000000000000 ≤ t.g ∧ t.g ≤ 1000000000000000000000000000000 from ⟨by have := o.g; omega, by have := o.g'; omega⟩)]
    exact k
theorem ok_check_steps (T : Txt K mg) : FnOk P w K mg base (L2.CX P w) 5 T.a_check_steps T.fd_check_steps ["stands", "steps"] (sp_check_steps K) := by
  refine T.F_check_steps.okX sc_check_steps (fun vs H Q E h => ?_) (fun cdv A outer s H vs Q E hr h => ?_)
  · obtain ⟨t, us, m, rfl, _⟩ := h
    rfl
  · obtain ⟨t, us, m, rfl, ht, hs, o, k⟩ := h
    refine ⟨_, (PSs.nox (pss_cons (ps_if (pt_not (pt_val (pe_callB call_isi (by rfl) T.z_isinstance (by decide +kernel) (pa_cons (pv 1) (pa_cons (pe_bltn (v := .ty "tuple") (by rfl) T.z_tuple (by decide +kernel) rfl) pa_nil)))))
  (pss_one ps_never)
  pss_nil)
  (pss_one (ps_for PassesOwn.never rfl (pi_enumT (by rfl) T.z_enumerate (pa_cons (pv 1) pa_nil)) (pg_tup rfl (pgs_cons (pg_name (i := 2) sc_check_steps.nd rfl (Or.inl rfl)) (pgs_cons (pg_name (i := 3) sc_check_steps.nd rfl (Or.inl rfl)) pgs_nil)))
  (pss_cons (ps_if (pt_not (pt_val (pe_call (ok_is_step T) (hr.mono (by decide)) (by rfl) T.m_is_step T.k_is_step T.b_is_step .nil passL (pa_cons (pv 0) (pa_cons (pv 3) pa_nil)))))
  (pss_one ps_never)
  pss_nil)
  (pss_one (ps_if (PW.pt (pw_and (pt_cmpR op_gt (pv 2) pe_int (nomark _)) (pw_and1 (pt_cmpR (op_le2 hr.units0) (pe_slice sl_tupA (pv 3) po_none (po_some pe_int)) (pe_slice sl_tupA (pe_ix ix_tup (pv 1) (pe_op op_sub (pv 2) pe_int) (fun _ _ => rfl)) po_none (po_some pe_int)) (nomark _)))))
  (pss_one ps_never)
  pss_nil))))))), ?_⟩
    walk_at "begin"
    walk_at "go"
    refine k_isi (.ty _) (ty_tup ht) (kit_ty (b := "tuple") (r := true) (by decide +kernel)) ?_
    walk_at "go"
    refine iteF ?_
    walk_at "go"
    refine ⟨_, rfl, t, us, rfl, ht, for_enumT (xs := us) (fun i σ H' => Same H H' ∧ ∃ a b, σ = [some (.int (m.n : Nat)), some (.ref t), a, b]) ⟨Same.refl _, _, _, rfl⟩ (fun i σ H' _ ⟨z, _⟩ => (same_tups z).sq ht) ?_ ?_⟩
    · rintro i x p σ H1 hx ⟨z, a, b, rfl⟩ hp
      have il : i < m.ss.length := by rw [← hs.1]; exact (List.getElem?_eq_some_iff.mp hx).1
      obtain ⟨q, eq, hq⟩ := hs.2 i _ (List.getElem?_eq_getElem il)
      rw [hx] at eq
      cases eq
      have z1 : Same H (upd H1 p (.tup [.int (i : Nat), .ref q])) := z.trans (Same.new hp)
      have hq1 := (same_tups z1).sq hq
      have ok1 := o.ok _ (List.getElem_mem il)
      refine k_gt (SqT.of upd_same) rfl ?_
      walk_at "go"
      refine ⟨m.n, q, _, rfl, hq1, ok1, ?_⟩
      walk_at "go"
      refine iteF ?_
      walk_at "go"
      refine k_ite (fun c => ?_) (fun c => iteF ?_)
      · walk_at "go"
        have jl : i - 1 < m.ss.length := by omega
        obtain ⟨q2, eq2, hq2⟩ := hs.2 (i - 1) _ (List.getElem?_eq_getElem jl)
        refine k_slA2 hq1 fun p1 n1 => ?_
        have z2 := z1.trans (Same.new (o := .tup [.int ((m.ss[i]'il).b : Nat), .str ⟨#[(m.ss[i]'il).c]⟩]) n1)
        walk_at "go"
        refine k_ixT ((same_tups z2).sq ht) (v := .ref q2) (at_of (j := i - 1) (by omega) eq2) ?_
        walk_at "go"
        refine k_slA2 ((same_tups z2).sq hq2) fun p2 n2 => ?_
        have z3 := z2.trans (Same.new (o := .tup [.int ((m.ss[i - 1]'jl).b : Nat), .str ⟨#[(m.ss[i - 1]'jl).c]⟩]) n2)
        refine ⟨p1, p2, _, _, _, _, rfl, rfl, SqT.of (Same.new n2 _ _ upd_same), SqT.of upd_same, ?_⟩
        · have up := List.pairwise_iff_getElem.mp o.up (i - 1) i jl il (by omega)
          rw [le2_no up]
          walk_at "go"
          refine iteF ?_
          walk_at "go"
          exact ⟨z3, _, _, rfl⟩
      · walk_at "go"
        exact ⟨z1, _, _, rfl⟩
    · rintro σ H1 ⟨z, _⟩
      exact k H1 z
theorem ok_is_ascending (T : Txt K mg) : FnOk P w K mg base (L2.CX P w) 3 T.a_is_ascending T.fd_is_ascending ["value", "many"] (sp_asc K) := by
  refine T.F_is_ascending.okX sc_is_ascending (fun vs H Q E h => ?_) (fun cdv A outer s H vs Q E hr h => ?_)
  · obtain ⟨v, n, rfl, _⟩ := h
    rfl
  · obtain ⟨v, n, rfl, h⟩ := h
    refine ⟨_, (PSs.nox (pss_cons (ps_if (pt_not (pt_val (pe_callB call_isi (by rfl) T.z_isinstance (by decide +kernel) (pa_cons (pv 0) (pa_cons (pe_bltn (v := .ty "tuple") (by rfl) T.z_tuple (by decide +kernel) rfl) pa_nil)))))
  (pss_one (ps_ret pe_bl))
  pss_nil)
  (pss_cons (ps_set (i := 2) sc_is_ascending.nd rfl (Or.inl rfl) pe_int)
  (pss_cons (ps_for PassesOwn.never rfl (pi_tup (pv 0)) (pg_name (i := 3) sc_is_ascending.nd rfl (Or.inl rfl))
  (pss_cons (ps_if (pt_not (pt_val (pe_call (ok_is_integer_between T) (hr.mono (by decide)) (by rfl) T.m_is_integer_between T.k_is_integer_between T.b_is_integer_between .nil passL (pa_cons (pv 3) (pa_cons (pv 2) (pa_cons (pe_op op_sub (pv 1) pe_int) pa_nil))))))
  (pss_one (ps_ret pe_bl))
  pss_nil)
  (pss_one (ps_set (i := 2) sc_is_ascending.nd rfl (Or.inl rfl) (pe_op op_add (pv 3) pe_int)))))
  (pss_one (ps_ret pe_bl)))))), ?_⟩
    walk_at "begin"
    walk_at "go"
    rcases h with ⟨ty, h1, h2, k⟩ | ⟨t, xs, rfl, ht, hx, k⟩
    · refine k_isi (.ty _) h1 h2 ?_
      walk_at "go"
      refine iteT ?_
      walk_at "go"
      exact k
    · refine k_isi (.ty _) (ty_tup ht) (kit_ty (b := "tuple") (r := true) (by decide +kernel)) ?_
      walk_at "go"
      refine iteF ?_
      walk_at "go"
      refine ⟨t, rfl, ⟨_, ht⟩, ?_⟩
      refine for_tup (xs := xs) (fun i σ H' => H' = H ∧ ∃ (l : Int) (a : Option V), σ = [some (.ref t), some (.int n), some (.int l), a] ∧ ascV n 0 xs = ascV n l (xs.drop i)) ⟨rfl, 0, _, rfl, rfl⟩ (fun i σ H' _ ⟨e, _⟩ => by rw [e]; exact ht) ?_ ?_
      · rintro i x σ H1 hx1 ⟨rfl, l, a, rfl, eq⟩
        have il : i < xs.length := (List.getElem?_eq_some_iff.mp hx1).1
        have dr : xs.drop i = x :: xs.drop (i + 1) := by rw [List.drop_eq_getElem_cons il, (List.getElem?_eq_some_iff.mp hx1).2]
        rw [dr] at eq
        walk_at "go"
        rcases hx x (List.mem_of_getElem? hx1) with ⟨j, rfl⟩ | ⟨ni, nj⟩
        · refine ⟨_, _, _, rfl, .inl ⟨j, rfl, ?_⟩⟩
          by_cases c : l ≤ j ∧ j ≤ n - 1
          · rw [decide_eq_true c]
            walk_at "go"
            refine iteF ?_
            walk_at "go"
            refine ⟨rfl, _, _, rfl, ?_⟩
            rw [eq]
            show (decide (l ≤ j ∧ j ≤ n - 1) && ascV n (j + 1) (xs.drop (i + 1))) = _
            rw [decide_eq_true c]
            rfl
          · rw [decide_eq_false c]
            walk_at "go"
            refine iteT ?_
            walk_at "go"
            have e2 : ascV n 0 xs = false := by
              rw [eq]
              show (decide (l ≤ j ∧ j ≤ n - 1) && ascV n (j + 1) (xs.drop (i + 1))) = _
              rw [decide_eq_false c]
              rfl
            rw [e2] at k
            exact k
        · refine ⟨_, _, _, rfl, .inr ⟨ni, ?_⟩⟩
          walk_at "go"
          refine iteT ?_
          walk_at "go"
          have e2 : ascV n 0 xs = false := by
            rw [eq]
            exact ascV_odd nj
          rw [e2] at k
          exact k
      · rintro σ H1 ⟨rfl, l, a, rfl, eq⟩
        rw [List.drop_length] at eq
        rw [eq] at k
        walk_at "go"
        exact k
theorem ok_check_ends (T : Txt K mg) : FnOk P w K mg base (L2.CX P w) 4 T.a_check_ends T.fd_check_ends ["stands", "ends"] (sp_check_ends K) := by
  refine T.F_check_ends.okX sc_check_ends (fun vs H Q E h => ?_) (fun cdv A outer s H vs Q E hr h => ?_)
  · obtain ⟨t, m, rfl, _⟩ := h
    rfl
  · obtain ⟨t, m, rfl, ht, o, k⟩ := h
    refine ⟨_, (PSs.nox (pss_one (ps_if (pt_not (pt_val (pe_call (ok_is_ascending T) (hr.mono (by decide)) (by rfl) T.m_is_ascending T.k_is_ascending T.b_is_ascending .nil passL (pa_cons (pv 1) (pa_cons (pv 0) pa_nil)))))
  (pss_one ps_never)
  pss_nil))), ?_⟩
    walk_at "begin"
    walk_at "go"
    refine ⟨_, _, rfl, .inr ⟨t, _, rfl, ht, fun x h => ?_, ?_⟩⟩
    · obtain ⟨e, _, rfl⟩ := List.mem_map.mp h
      exact .inl ⟨_, rfl⟩
    rw [show ascV (m.n : Nat) 0 (nats m.es) = true from ascV_nats (l := 0) (fun e h => o.eb e h) o.eu (fun _ _ => Nat.zero_le _)]
    walk_at "go"
    refine iteF ?_
    walk_at "go"
    exact k H (Same.refl _)
theorem ok_Machine_init (T : Txt K mg) : FnOk P w K mg base (L2.CX P w) 6 T.a_Machine_init T.fd_Machine_init ["self", "stands", "steps", "ends"] (sp_init K T.c_Machine) := by
  refine T.F_Machine_init.okX sc_Machine_init (fun vs H Q E h => ?_) (fun cdv A outer s H vs Q E hr h => ?_)
  · obtain ⟨x, dx, t, u, m, rfl, _⟩ := h
    rfl
  · obtain ⟨x, dx, t, u, m, rfl, hx, ⟨⟨us, ht, hs⟩, hu⟩, o, k⟩ := h
    refine ⟨_, (PSs.nox (pss_cons (ps_expr (pe_call (ok_check_stands T) (hr.mono (by decide)) (by rfl) T.m_check_stands T.k_check_stands T.b_check_stands .nil passL (pa_cons (pv 1) pa_nil)))
  (pss_cons (ps_expr (pe_call (ok_check_steps T) (hr.mono (by decide)) (by rfl) T.m_check_steps T.k_check_steps T.b_check_steps .nil passL (pa_cons (pv 1) (pa_cons (pv 2) pa_nil))))
  (pss_cons (ps_expr (pe_call (ok_check_ends T) (hr.mono (by decide)) (by rfl) T.m_check_ends T.k_check_ends T.b_check_ends .nil passL (pa_cons (pv 1) (pa_cons (pv 3) pa_nil))))
  (pss_cons (ps_fld (pv 0) (pv 1) rfl)
  (pss_cons (ps_fld (pv 0) (pv 2) rfl)
  (pss_one (ps_fld (pv 0) (pv 3) rfl)))))))), ?_⟩
    walk_at "begin"
    walk_at "go"
    refine ⟨_, rfl, by have := o.n1; omega, by have := o.n8; omega, ?_⟩
    walk_at "go"
    refine ⟨t, us, m, rfl, ht, hs, o, fun H1 z1 => ?_⟩
    walk_at "go"
    refine ⟨u, m, rfl, (same_tups z1).sq hu, o, fun H2 z2 => ?_⟩
    walk_at "go"
    have e2 : H2 x = some (.ins T.c_Machine dx []) := z2 _ _ (z1 _ _ hx)
    refine ⟨_, rfl, _, rfl, x, _, dx, _, rfl, e2, T.cl_Machine, T.n__stands, (by decide : 0 < 1000), ?_⟩
    refine ⟨_, rfl, _, rfl, x, _, dx, _, rfl, upd_same, T.cl_Machine, T.n__steps, few 1 (by decide) (length_putF _ _ _), ?_⟩
    refine ⟨_, rfl, _, rfl, x, _, dx, _, rfl, upd_same, T.cl_Machine, T.n__ends, few 2 (by decide) (Nat.le_trans (length_putF _ _ _) (Nat.succ_le_succ (length_putF _ _ _))), ?_⟩
    refine k _ (((Keep.of_same (z1.trans z2)).trans Keep.at_).trans (Keep.at_.trans Keep.at_)) ?_
    rw [upd_same]
    rfl
end
/-! ### steps in a tuple or in a list -/
def SqS (K : PySem.W.Frag) (H : Hp) (a : Addr) (xs : List V) : Prop := SqT K H a xs ∨ SqL K H a xs
theorem SqS.same {K : PySem.W.Frag} {H H' : Hp} {a : Addr} {xs : List V} (h : SqS K H a xs) (z : Same H H') : SqS K H' a xs := h.imp (fun h => (same_tups z).sq h) fun h => z.seq h
def StSq (K : PySem.W.Frag) (H : Hp) (t : Addr) (ss : List Stp) : Prop := ∃ us, SqS K H t us ∧ StpsAt K H us ss
theorem StSq.of {K : PySem.W.Frag} {H : Hp} {t : Addr} {ss : List Stp} (h : StAt K H t ss) : StSq K H t ss := let ⟨us, a, b⟩ := h; ⟨us, .inl a, b⟩
theorem StSq.same {K : PySem.W.Frag} {H H' : Hp} {t : Addr} {ss : List Stp} (h : StSq K H t ss) (z : Same H H') : StSq K H' t ss := let ⟨us, a, b⟩ := h; ⟨us, a.same z, (same_tups z).steps b⟩
def iSq (K : PySem.W.Frag) (tl : TE) : TI := fun σ H R => iTup K tl σ H R ∨ iList K tl σ H R
theorem pi_sq {X : L2.Cx} {tg l : Expr} {tl : TE} (hl : PE X l tl) : PI X tg l (iSq X.K tl) := ⟨fun pins s σ H R I h => h.elim ((pi_tup hl).run pins s σ H R I) ((pi_list hl).run pins s σ H R I)⟩
theorem for_sq {K : PySem.W.Frag} {t : Addr} {xs : List V} {j : Nat} {g : TG} {tb : TS} {D : Ends} {σ : L2.St} {H Hb : Hp} (e : σ[j]? = some (some (.ref t))) (hx : SqS K Hb t xs) (Pv : Nat → L2.St → Hp → Prop) (h0 : Pv 0 σ H) (hl : ∀ i σ H, Pv i σ H → Same Hb H)
    (hs : ∀ i x σ H, xs[i]? = some x → Pv i σ H → g x σ H fun σ2 H2 => tb { D with nx := Pv (i + 1), ct := Pv (i + 1), bk := D.nx } σ2 H2) (hd : ∀ σ H, Pv xs.length σ H → D.nx σ H) :
    iSq K (tVar j) σ H fun J H1 => ∃ W : Nat → Nat → L2.St → Hp → Prop, (∃ m, W 0 m σ H1) ∧ ∀ i m σ H, W i m σ H →
      (J.stop i H ∧ D.nx σ H) ∨ (J.go i H ∧ ∃ N : L2.St → Hp → Prop, (∀ σ' H', N σ' H' → ∃ m', m' < m ∧ W (i + 1) m' σ' H') ∧ ∀ x H', J.yld i H x H' → g x σ H' fun σ2 H2 => tb { D with nx := N, ct := N, bk := D.nx } σ2 H2) := by
  have z0 := hl _ _ _ h0
  rcases hx with hx | hx
  · exact .inl (k_var e ⟨t, rfl, ⟨xs, (same_tups z0).sq hx⟩, for_tup Pv h0 (fun i σ H _ p => (same_tups (hl _ _ _ p)).sq hx) hs hd⟩)
  · exact .inr (k_var e ⟨t, rfl, ⟨xs, z0.seq hx⟩, for_list Pv h0 (fun i σ H _ p => (hl _ _ _ p).seq hx) hs hd⟩)
/-! ### what is never reached needs no reading -/
theorem ps_any {X : Cx} {st : Stmt} : PS X st (fun _ _ _ => False) := ⟨fun _ _ _ _ _ _ h => h.elim⟩
theorem pss_any {X : Cx} {l : List Stmt} : PSs X l (fun _ _ _ => False) := ⟨fun _ _ _ _ _ _ h => h.elim⟩
theorem pe_any {X : Cx} {e : Expr} : PE X e (fun _ _ _ => False) := ⟨fun _ _ _ _ _ _ h => h.elim⟩
/-! ### an own object whose __init__ may be left by an error -/
def tMakeS (C : Addr) (sp : Sp) (E : L2.St → XK) (t : TA) : TE := fun σ H Q => t σ H fun vs H1 => ∀ x dx, H1 x = none → H1 dx = none → dx ≠ x → sp (.ref x :: vs) (upd (upd H1 dx (.own x)) x (.ins C dx [])) (fun v H2 => v = .non ∧ Q (.ref x) H2) (E σ)
theorem k_makeS {C : Addr} {sp : Sp} {E : L2.St → XK} {t : TA} {σ : L2.St} {H : Hp} {Q : VK} (h : t σ H fun vs H1 => ∀ x dx, H1 x = none → H1 dx = none → dx ≠ x → sp (.ref x :: vs) (upd (upd H1 dx (.own x)) x (.ins C dx [])) (fun v H2 => v = .non ∧ Q (.ref x) H2) (E σ)) : tMakeS C sp E t σ H Q := h
section
variable {X : Cx} {k : Nat} {f C : Addr} {fd : FuncData} {ps : List Str} {sp : Sp} {E : L2.St → XK} {x : Str} {p pos : Pos} {e : Expr} {es : List Expr} {t : TA}
theorem run_makeS {pins : List (Addr × Obj)} {σ : L2.St} {H : Hp} {s : Shared} {Q : VK} {us : List Value} {vs : List V} (M : Mk X.K C f) (F : FnOk X.prog X.w X.K X.mg X.base (L2.CX X.prog X.w) k f fd ps sp) (hr : Room (k + 1) X.A) (hb : Binds X.K fd ps [])
    (hx : PassesAt (L2.CX X.prog X.w) X σ (E σ)) (I : Inv X pins σ H s) (r : Vals vs us)
    (h : ∀ x dx, H x = none → H dx = none → dx ≠ x → sp (.ref x :: vs) (upd (upd H dx (.own x)) x (.ins C dx [])) (fun v H2 => v = .non ∧ Q (.ref x) H2) (E σ)) :
    wpAny (model X.prog X.w) X.A (call (.ref C) us) (EP X pins σ Q) X.xe s := by
  have hq := h (s.heap.objs.size + 1) s.heap.objs.size (I.hok.fresh (Nat.le_succ _)) (I.hok.fresh (Nat.le_refl _)) (Nat.ne_of_lt (Nat.lt_succ_self _))
  have I2 := Inv.made (C := C) I
  have r2 : Vals (V.ref (s.heap.objs.size + 1) :: vs) (Value.ref (s.heap.objs.size + 1) :: us) := .cons rfl r
  have hl : (Value.ref (s.heap.objs.size + 1) :: us ++ []).length = ps.length := by
    have e := r2.length
    rw [F.len _ _ _ _ hq] at e
    rw [List.append_nil]
    exact e.symm
  have b := hb _ (Value.ref (s.heap.objs.size + 1) :: us) I2.kIn hl
  rw [List.append_nil] at b
  refine wpAny_call (make_map (f := f) I.kIn M.makes M.init (beq_iff_eq.mp M.fn) (codeAny_mono (F.run _ X.stack _ _ ⟨Value.ref (s.heap.objs.size + 1) :: us, []⟩ (Value.ref (s.heap.objs.size + 1) :: us) _ _ (E σ) (hr.make C us [])
    (I2.env0.make C us []) b r2 hq) fun r s' hq' => ?_))
  cases r with
  | error e => exact hx pins _ _ e s' I2 hq'
  | ok fl =>
    cases fl with
    | ret u =>
      obtain ⟨v, H', I3, rv, ev, q3⟩ := I2.after hq'
      subst ev
      exact ⟨rv, ⟨V.ref (s.heap.objs.size + 1), H', I3, rfl, q3⟩⟩
    | next => exact False.elim hq'
    | brk => exact False.elim hq'
    | cont => exact False.elim hq'
theorem pe_makeS (M : Mk X.K C f) (F : FnOk X.prog X.w X.K X.mg X.base (L2.CX X.prog X.w) k f fd ps sp) (hr : Room (k + 1) X.A) (hg : Gl X x) (hm : X.mg x = some (.ref C)) (hb : Binds X.K fd ps []) (hx : ∀ σ, PassesAt (L2.CX X.prog X.w) X σ (E σ))
    (ha : PA X (e :: es) t) (hdb : (x == ("__debug__" : Str)) = false := by decide) (he : starEach (e :: es) X.env = (false, eval e X.env) :: starEach es X.env := by rfl) (hpl : (backTo pos (starEach es X.env)).any (·.1) = false := by rfl) :
    PE X (.Call (.Name x p) (e :: es) [] pos) (tMakeS C sp E t) := by
  refine ⟨fun pins s σ H Q I h => ?_⟩
  refine wpAny_Call_Name_kw (ld_glob I hg hm ?_ hdb)
  refine PySem.W.callWith_K (h₀ := X.base) I.ok.mod.kin M.kp (thn (ha.run pos pins s σ H _ I h) fun us s1 ⟨vs, H1, I1, r, q⟩ => ⟨I1.kIn, ?_⟩) he hpl
  exact run_makeS M F hr hb (hx σ) I1 r q
end
theorem exc_rel {K : PySem.W.Frag} {S C : Addr} {b : Bool} (hb : PySem.W.subIn K (.ref C) (.type "BaseException") = some true) (hc : PySem.W.isClsIn K C = true) (ht : PySem.W.typeIn K (.ref C) = some (.type "type")) (hs : PySem.W.subIn K (.ref S) (.ref C) = some b) : PySem.W.exmOne K (.ref S) (.ref C) = some b := by
  have hc' : (PySem.W.clsIn K C).isSome = true := hc
  unfold PySem.W.exmOne PySem.W.kitCls
  simp only [hb, ht, hc', hs, beq_self_eq_true, Bool.and_self, if_true]
theorem FnOk.or {P : Program} {w : World} {K : PySem.W.Frag} {mg : Str → Option Value} {base : Heap} {CX : CXT} {k : Nat} {f : Addr} {fd : FuncData} {ps : List Str} {sp sp' : Sp} (F : FnOk P w K mg base CX k f fd ps sp) (G : FnOk P w K mg base CX k f fd ps sp') :
    FnOk P w K mg base CX k f fd ps (fun vs H Q E => sp vs H Q E ∨ sp' vs H Q E) :=
  ⟨fun vs H Q E q => q.elim (F.len vs H Q E) (G.len vs H Q E), fun A outer s H args us vs Q E hr he hb hv hs => hs.elim (F.run A outer s H args us vs Q E hr he hb hv) (G.run A outer s H args us vs Q E hr he hb hv)⟩
/-! ### several except clauses, some of them with a name -/
/-- what the clauses wish of an exception of the body, one after the other; some i: the slot of the clause's name -/
def wManyA (K : PySem.W.Frag) (Wout : WX) (D : Ends) : List (Value × Option Nat × (Addr → Value → Option Addr → TS)) → WX
  | [] => Wout
  | (c, none, ts) :: r => fun cls d σ H => ∃ b, PySem.W.exmOne K cls c = some b ∧ (b = true → ∀ a, H a = none → ts a cls d D σ H) ∧ (b = false → wManyA K Wout D r cls d σ H)
  | (c, some i, ts) :: r => fun cls d σ H => ∃ b, PySem.W.exmOne K cls c = some b ∧ (b = true → ∀ a, H a = none → ts a cls d { nx := fun σ' H' => D.nx (σ'.set i none) H', rt := D.rt, bk := fun σ' H' => D.bk (σ'.set i none) H', ct := fun σ' H' => D.ct (σ'.set i none) H' } (σ.set i (some (.ref a))) H) ∧
      (b = false → wManyA K Wout D r cls d σ H)
inductive HdsOkA (X : Cx) : List ExceptHandler → List (Value × Option Nat × (Addr → Value → Option Addr → TS)) → Prop
  | nil : HdsOkA X [] []
  | cons {x : Str} {c : Value} {ts : Addr → Value → Option Addr → TS} {b₀ : Stmt} {suite : List Stmt} {np pos' : Pos} {hds : List ExceptHandler} {l : List (Value × Option Nat × (Addr → Value → Option Addr → TS))} (hc : Names X x c)
      (hsu : ∀ (a : Addr) (oe : Obj) (cls : Value) (d : Option Addr) (pn : List (Addr × Obj)), Zc cls d oe → (∃ vs, oe.data = .fields vs) → PSs (X.suite a ((a, oe) :: pn)) (b₀ :: suite) (ts a cls d)) (r : HdsOkA X hds l) :
      HdsOkA X (.ExceptHandler (some (.Name x np)) none (b₀ :: suite) pos' :: hds) ((c, none, ts) :: l)
  | consA {x n : Str} {i : Nat} {c : Value} {ts : Addr → Value → Option Addr → TS} {b₀ : Stmt} {suite : List Stmt} {np pos' : Pos} {hds : List ExceptHandler} {l : List (Value × Option Nat × (Addr → Value → Option Addr → TS))} (hN : X.N.Nodup) (hi : X.N[i]? = some n) (hln : X.env.kindOf n = some .local) (hc : Names X x c)
      (hsu : ∀ (a : Addr) (oe : Obj) (cls : Value) (d : Option Addr) (pn : List (Addr × Obj)), Zc cls d oe → (∃ vs, oe.data = .fields vs) → PSs (X.suite a ((a, oe) :: pn)) (b₀ :: suite) (ts a cls d)) (r : HdsOkA X hds l) :
      HdsOkA X (.ExceptHandler (some (.Name x np)) (some n) (b₀ :: suite) pos' :: hds) ((c, some i, ts) :: l)
section
variable {X : Cx} {body : List Stmt} {h₀ : ExceptHandler} {hds : List ExceptHandler} {l : List (Value × Option Nat × (Addr → Value → Option Addr → TS))} {pos : Pos} {tb : WX → TS} {Wout : WX}
theorem ps_try_manyA (hs : X.stack = X.env :: X.outer) (hf : X.env.frame = some X.env.locals) (tk : Takes X Wout)
    (hb : ∀ (W : WX) (pn : List (Addr × Obj)) (xe : Value → Shared → Prop), Takes (X.tr pn xe) W → PassesOwn (model X.prog X.w) X.A X.env xe → PSs (X.tr pn xe) body (tb W))
    (hh : HdsOkA X (h₀ :: hds) l) : PS X (.Try body (h₀ :: hds) [] [] pos) (fun D σ H => tb (wManyA X.K Wout D l) D σ H) := by
  refine ⟨fun pins s σ H D I h => ?_⟩
  have ok := I.ok
  have hfr : X.A.frames = some (X.env :: X.outer) := by rw [ok.frames, hs]
  refine PySem.wpAny_Try_except ?_
  refine wpAny_mono ((hb (wManyA X.K Wout D l) (X.pn ++ pins) (fun e s₁ => wpAny (model X.prog X.w) X.A (noteFrame e X.env) (fun _ s₂ => wpAny (model X.prog X.w) X.A (setFlight e none) (fun _ s₃ =>
    wpAny (model X.prog X.w) X.A (handleBy e X.env (h₀ :: hds)) (SP X pins D) X.xe s₃) X.xe s₂) X.xe s₁) (fun u s' xx => ?_) PassesOwn.looking).run [] s σ H D (I.toTry _) h) (fun f s1 hsp => ?_) (fun e s1 he => he)
  · -- the catch
    obtain ⟨a, B, sI, pins', σ', H', cls, d, rfl, J', nb, up, sky, na, os, ag, w⟩ := xx
    have J : Inv X pins σ' H' sI := J'.ofTry ok
    have sky' : Sky B (X.env :: X.outer) a (Zc cls d) X.env.locals s'.heap := by rw [← hs]; exact sky
    show wpAny (model X.prog X.w) X.A (noteFrame (.ref a) X.env) _ _ _
    refine Sky.land Zc.steady hfr hf sky' fun h3 fl3 up3 => ?_
    have J3 : Inv X pins σ' H' { s' with heap := h3 } := J.landed nb fl3.1 (up.trans up3) os ag
    obtain ⟨oe3, vs3, he3, hz3, hd3⟩ := fl3.there
    have notFr : ∀ {h : Heap} {o : Obj} {vs : Array Value}, h.FunFrames B (X.env :: X.outer) → h.get? a = some o → o.data = .fields vs → a ∉ frs (X.env :: X.outer) := fun {h o vs} ff e dd hm => by
      obtain ⟨_, o', e', hnf⟩ := ff.mem hm
      rw [e] at e'; cases e'
      exact hnf _ dd
    have nfr := notFr fl3.2.2.1 he3 hd3
    have nL : a ≠ X.env.locals := fun z => nfr (List.mem_filterMap.mpr ⟨X.env, List.mem_cons_self, by rw [hf, z]⟩)
    have nF : a ∉ X.fs := fun hm => by
      obtain ⟨e, he, q⟩ := List.mem_filterMap.mp hm
      exact nfr (List.mem_filterMap.mpr ⟨e, List.mem_cons_of_mem _ he, q⟩)
    have S3 := J3.suite he3 hd3 na nL nF
    have go : ∀ {hds' : List ExceptHandler} {l' : List (Value × Option Nat × (Addr → Value → Option Addr → TS))}, HdsOkA X hds' l' → wManyA X.K Wout D l' cls d σ' H' →
        wpAny (model X.prog X.w) X.A (handleBy (.ref a) X.env hds') (SP X pins D) X.xe { s' with heap := h3 } := by
      intro hds' l' hk
      induction hk with
      | nil =>
        intro w
        refine PySem.wpAny_handleBy_nil ?_
        obtain ⟨k1, k2, k3, oe, vs, T, oT, ts', he, hz, hd, h1, hr⟩ := id fl3
        unfold PySem.passOn
        refine wpAny_bind (wpAny_field he hd h1 ?_)
        rw [if_neg (show ¬ ((Value.ref T == Value.none) = true) from by simp)]
        have fin : wpAny (model X.prog X.w) X.A (setFlight (.ref a) X.env.frame) (fun _ s4 => wpAny (model X.prog X.w) X.A (throw (.ref a) : Sem Flow) (SP X pins D) X.xe s4) X.xe { s' with heap := h3 } := by
          rw [hf]
          refine HandSPX.setFlight_upZ fl3 fun h4 hh4 up4 => wpAny_throw (tk _ _ ?_)
          exact ⟨a, B, sI, pins, σ', H', cls, d, rfl, J, nb, (up.trans up3).trans up4, .inr (.inr (by rw [hs]; exact hh4)), na, os, ag, w⟩
        first
          | exact wpAny_bind (wpAny_pure (wpAny_bind fin))
          | exact wpAny_bind fin
      | @cons x c ts b₀ suite np pos' hds2 l2 hc hsu r ih =>
        intro w
        obtain ⟨b, hb1, hyes, hno⟩ := w
        refine wpAny_handleBy_cons (codeAny_handlers_test ?_) (by intro q; cases q)
        have LT : PySem.W.Looks (model X.prog X.w) h3 (typeOf (.ref a)) cls := fun A Q E s k q => wpAny_typeOf_ref (k _ _ he3) (by rw [hz3.1]; exact q)
        have LM := PySem.W.exm_one (M := model X.prog X.w) (J3.kIn) LT hb1
        have test : ∀ {Q : Value → Shared → Prop} {E : Value → Shared → Prop}, Q c { s' with heap := h3 } → wpAny (model X.prog X.w) (X.A.mark (some (.ref a))) (eval (.Name x np) X.env) Q E { s' with heap := h3 } := fun {Q E} q => by
          obtain ⟨hg, hdbg, hm | ⟨hm, hv, hnn⟩⟩ := hc
          · exact ld_glob (X := X.suite a ((a, oe3) :: (X.pn ++ pins))) S3 hg hm q hdbg
          · exact ld_blt (X := X.suite a ((a, oe3) :: (X.pn ++ pins))) S3 hg hm hv q hnn hdbg
        refine test (LM.here ?_)
        cases b with
        | true =>
          refine codeAny_handlers_suite ?_
          refine HandSPX.lands_againZ fl3 fun h4 fl4 up4 => ?_
          have J4 : Inv X pins σ' H' { s' with heap := h4 } := J.landed nb fl4.1 ((up.trans up3).trans up4) os ag
          obtain ⟨oe4, vs4, he4, hz4, hd4⟩ := fl4.there
          have S4 := J4.suite he4 hd4 na nL nF
          refine wpAny_mono ((hsu a oe4 cls d (X.pn ++ pins) hz4 ⟨_, hd4⟩).run [] _ _ H' _ S4 (hyes rfl a na)) (fun f s6 hsp => ?_) (fun _ _ z => False.elim z)
          cases f with
          | next =>
            obtain ⟨σ6, H6, S6, q6⟩ := hsp
            exact ⟨_, _, S6.unsuite ok, q6⟩
          | brk =>
            obtain ⟨σ6, H6, S6, q6⟩ := hsp
            exact ⟨_, _, S6.unsuite ok, q6⟩
          | cont =>
            obtain ⟨σ6, H6, S6, q6⟩ := hsp
            exact ⟨_, _, S6.unsuite ok, q6⟩
          | ret u =>
            obtain ⟨v6, σ6, H6, S6, r6, q6⟩ := hsp
            exact ⟨_, _, _, S6.unsuite ok, r6, q6⟩
        | false =>
          show wpAny _ X.A (handleBy (.ref a) X.env hds2) _ _ _
          exact ih (hno rfl)
      | @consA x n i c ts b₀ suite np pos' hds2 l2 hN hi hln hc hsu r ih =>
        intro w
        obtain ⟨b, hb1, hyes, hno⟩ := w
        have hloc : Loc X.env.scope n := .inl hln
        refine wpAny_handleBy_cons (codeAny_handlers_test ?_) (by intro q; cases q)
        have LT : PySem.W.Looks (model X.prog X.w) h3 (typeOf (.ref a)) cls := fun A Q E s k q => wpAny_typeOf_ref (k _ _ he3) (by rw [hz3.1]; exact q)
        have LM := PySem.W.exm_one (M := model X.prog X.w) (J3.kIn) LT hb1
        have test : ∀ {Q : Value → Shared → Prop} {E : Value → Shared → Prop}, Q c { s' with heap := h3 } → wpAny (model X.prog X.w) (X.A.mark (some (.ref a))) (eval (.Name x np) X.env) Q E { s' with heap := h3 } := fun {Q E} q => by
          obtain ⟨hg, hdbg, hm | ⟨hm, hv, hnn⟩⟩ := hc
          · exact ld_glob (X := X.suite a ((a, oe3) :: (X.pn ++ pins))) S3 hg hm q hdbg
          · exact ld_blt (X := X.suite a ((a, oe3) :: (X.pn ++ pins))) S3 hg hm hv q hnn hdbg
        refine test (LM.here ?_)
        cases b with
        | true =>
          refine codeAny_handlers_suite_as ?_
          refine HandSPX.lands_againZ fl3 fun h4 fl4 up4 => ?_
          have J4 : Inv X pins σ' H' { s' with heap := h4 } := J.landed nb fl4.1 ((up.trans up3).trans up4) os ag
          obtain ⟨oe4, vs4, he4, hz4, hd4⟩ := fl4.there
          have S4 := J4.suite he4 hd4 na nL nF
          refine store_ok (X := X.suite a ((a, oe4) :: (X.pn ++ pins))) (v := .ref a) S4 hN hi hloc rfl (fun s5 S5 => ?_) (.inr hln)
          refine wpAny_mono ((hsu a oe4 cls d (X.pn ++ pins) hz4 ⟨_, hd4⟩).run [] s5 _ H' _ S5 (hyes rfl a na)) (fun f s6 hsp => ?_) (fun _ _ z => False.elim z)
          have end_ : ∀ {σ6 : L2.St} {H6 : Hp} {Q : Shared → Prop}, Inv (X.suite a ((a, oe4) :: (X.pn ++ pins))) [] σ6 H6 s6 → (∀ s7, Inv X pins (σ6.set i none) H6 s7 → Q s7) →
              wpAny (model X.prog X.w) X.A (do bindName X.env n .none; unbindBehindTheSuite X.env n pos') (fun _ s7 => Q s7) X.xe s6 := fun {σ6 H6 Q} S6 hq => gone_ok (S6.unsuite ok) hN hi hln hq
          cases f with
          | next =>
            obtain ⟨σ6, H6, S6, q6⟩ := hsp
            exact end_ S6 fun s7 J7 => ⟨_, _, J7, q6⟩
          | brk =>
            obtain ⟨σ6, H6, S6, q6⟩ := hsp
            exact end_ S6 fun s7 J7 => ⟨_, _, J7, q6⟩
          | cont =>
            obtain ⟨σ6, H6, S6, q6⟩ := hsp
            exact end_ S6 fun s7 J7 => ⟨_, _, J7, q6⟩
          | ret u =>
            obtain ⟨v6, σ6, H6, S6, r6, q6⟩ := hsp
            exact end_ S6 fun s7 J7 => ⟨_, _, _, J7, r6, q6⟩
        | false =>
          show wpAny _ X.A (handleBy (.ref a) X.env hds2) _ _ _
          exact ih (hno rfl)
    exact go hh w
  · cases f with
    | next =>
      obtain ⟨σ', H', J', q⟩ := hsp
      exact PySem.wpAny_execs_nil ⟨σ', H', J'.ofTry ok, q⟩
    | brk =>
      obtain ⟨σ', H', J', q⟩ := hsp
      exact ⟨σ', H', J'.ofTry ok, q⟩
    | cont =>
      obtain ⟨σ', H', J', q⟩ := hsp
      exact ⟨σ', H', J'.ofTry ok, q⟩
    | ret u =>
      obtain ⟨v, σ', H', J', r, q⟩ := hsp
      exact ⟨v, σ', H', J'.ofTry ok, r, q⟩
end
/-! ### an own error whose __init__ calls its base's, and that is told by a field -/
theorem pe_tveinit {X : Cx} {e : Expr} {es : List Expr} {ta : TA} {p1 p2 pos : Pos} {x : Str} {CB : Addr} {pl : Sem Bool} (hg : Gl X x) (hm : X.mg x = some (.ref CB)) (hr : PySem.W.readsIn X.K CB (.type "type") = true)
    (vV : PySem.W.findCls X.K (.ref CB) (.type "type") "__init__" = some (.val (.builtin "ValueError.__init__"))) (sg : PySem.W.specialIn X.K (.ref CB) "__getattribute__" = some (some (.builtin "type.__getattribute__"))) (ha : PA X (e :: es) ta)
    (hdb : (x == ("__debug__" : Str)) = false := by decide)
    (hc : eval (.Call (.Attribute (.Name x p1) "__init__" p2) (e :: es) [] pos) X.env = (do
      let ov ← eval (.Name x p1) X.env
      standAt p2.atName
      let (f, first) ← holding [ov] (getMethod ov "__init__" pl)
      callWith pos f first (backTo pos (starEach (e :: es) X.env)) (backToKw pos (keywordEach [] X.env))) := by rfl)
    (he : starEach (e :: es) X.env = (false, eval e X.env) :: starEach es X.env := by rfl) (hpl : (backTo pos (starEach es X.env)).any (·.1) = false := by rfl) :
    PE X (.Call (.Attribute (.Name x p1) "__init__" p2) (e :: es) [] pos) (tVeI X.K ta) := by
  refine ⟨fun pins s σ H Q I h => ?_⟩
  refine PySem.W.methodCall_KW (ld_glob I hg hm ?_ hdb) hc
  refine PySem.W.method_cls I.kIn sg (PySem.W.cls_value I.kIn hr vV rfl ?_)
  show wpAny _ _ (callWith pos (Value.builtin "ValueError.__init__") [] (backTo pos (starEach (e :: es) X.env)) []) _ _ _
  refine PyProof.Rows.callWith_method1 (thn (ha.run pos pins _ σ H _ (I.tok _) h) fun us s1 ⟨vs, H1, I1, r1, a, C, ws, ev, hl, T, ea, q⟩ => ?_) he hpl
  subst ev
  cases r1 with
  | @cons _ u0 _ ur ra rw' =>
    obtain rfl : u0 = Value.ref a := ra
    have hlen : ur.length ≤ sizeLine := by
      rw [← Paired.length rw', sizeLine_eq]
      omega
    exact oinit_ok T I1 ea hlen fun s' J => ⟨.non, H1, J, rfl, q⟩
/-- what __init__ of such an error is called with, and leaves -/
def sp_einit (K : PySem.W.Frag) (C : Addr) (f : Str) : Sp := fun vs H Q _ => ∃ (a : Addr) (v : V), vs = [.ref a, v] ∧ H a = some (exo a C none) ∧ ∀ dx, H dx = none → dx ≠ a → Q .non (upd (upd H dx (exd dx [(f, v)])) a (exo a C (some dx)))
theorem k_vei {K : PySem.W.Frag} {ta : TA} {σ : L2.St} {H : Hp} {Q : VK} (h : ta σ H fun vs H1 => ∃ (a C : Addr) (ws : List V), vs = .ref a :: ws ∧ ws.length ≤ 1000 ∧ OexC K C ∧ H1 a = some (exo a C none) ∧ Q .non H1) : tVeI K ta σ H Q := h
theorem k_ost {K : PySem.W.Frag} {f : Str} {to te : TE} {D : Ends} {σ : L2.St} {H : Hp} (h : te σ H fun y H1 => to σ H1 fun x H2 => ∃ a C : Addr, x = .ref a ∧ OexC K C ∧ PySem.W.findIn K (.ref C) f = some none ∧
  ((H2 a = some (exo a C none) ∧ ∀ dx, H2 dx = none → dx ≠ a → D.nx σ (upd (upd H2 dx (exd dx [(f, y)])) a (exo a C (some dx)))) ∨
    ∃ (dx : Addr) (fs : List (Str × V)), H2 a = some (exo a C (some dx)) ∧ H2 dx = some (exd dx fs) ∧ fs.length ≤ 900 ∧ D.nx σ (upd H2 dx (exd dx ((f, y) :: fs))))) : tOst K f to te D σ H := h
theorem k_mkO {C : Addr} {sp : Sp} {dvs : List V} {ta : TA} {σ : L2.St} {H : Hp} {Q : XK} (h : ta σ H fun vs H1 => vs.length ≤ 1000 ∧ ∀ a, H1 a = none → sp (.ref a :: (vs ++ dvs)) (upd H1 a (exo a C none))
  (fun v H2 => v = .non ∧ ∃ (d : Addr) (fs : List (Str × V)), H2 a = some (exo a C (some d)) ∧ H2 d = some (exd d fs) ∧ H1 d = none ∧ Q (.ref C) (some d) (upd (del H2 a) d (.xd fs))) (fun _ _ _ => False)) : tMkO C sp dvs ta σ H Q := h
theorem k_xf {a : Addr} {cls : Value} {d : Option Addr} {C : Addr} {f : Str} {te : TE} {σ : L2.St} {H : Hp} {Q : VK} (h : te σ H fun x H1 => x = .ref a ∧ cls = .ref C ∧ ∃ (dd : Addr) (fs : List (Str × V)) (v : V), d = some dd ∧ H1 dd = some (.xd fs) ∧ fs.lookup f = some v ∧ Q v H1) : tXf a cls d C f te σ H Q := h
theorem exc_same {H : Hp} {a d C : Addr} {fs : List (Str × V)} {o : HO} (ha : H a = none) (hd : H d = none) : Same H (upd (del (upd (upd (upd H a (exo a C none)) d o) a (exo a C (some d))) a) d (.xd fs)) := fun b ob e => by
  rw [upd_ne (ne_of_none e hd), del_ne (ne_of_none e ha), upd_ne (ne_of_none e ha), upd_ne (ne_of_none e hd), upd_ne (ne_of_none e ha)]
  exact e
/-! ### a call that an error may leave -/
section
variable {K : PySem.W.Frag} {σ : L2.St} {H : Hp} {Q : VK}
theorem k_callS {sp : Sp} {E : L2.St → XK} {t : TA} (h : t σ H fun vs H1 => sp vs H1 Q (E σ)) : tCallS sp E t σ H Q := h
end
/-! ### name = {k: v for ..} -/
theorem sw_trueD {kx vx : Expr} {gs : List Comprehension} {scope : Scope} {pos py : Pos} {y : Str} {n : Nat} {env : Env} (hk : env.scope.kind = .function) (hy : env.scope.names.lookup y = some .local) (hl : (py.line == pos.line) = true)
    (ha : (scope.names.any fun (m, c) => m == y && (c == .local || c == .cell)) = false) : swapsWith (.DictComp kx vx gs scope pos) (some (.Name y py)) n env = pure true := by
  have k1 : env.kindOf y = some .local := hy
  have k2 : env.blockKind = .function := by
    unfold Env.blockKind
    rw [hk]
    rfl
  unfold swapsWith
  simp only [k1, k2, ha, Expr.pos, hl]
  rfl
section
variable {X : Cx}
theorem ps_setDc {i : Nat} {y : Str} {py : Pos} {kx vx tg it : Expr} {ifs : List Expr} {scope : Scope} {own : List (Str × Nat)} {pos sp : Pos} {wi : TI} {g : TG} {tt : TT} {tk tv : TE} (hc : X.calm = true) (hN : X.N.Nodup)
    (hy : X.N[i]? = some y) (hyl : X.env.scope.names.lookup y = some .local) (hsw : swapsWith (.DictComp kx vx [⟨tg, it, ifs, 0⟩] scope pos) (some (.Name y py)) sp.line X.env = pure true)
    (hi : PI X tg it wi) (ok : BlkOk X.N X.env.scope scope own)
    (hg : ∀ (s : Shared) (H : Hp) (C : Addr) (cl : List (Str × Addr)) (fp : List Addr), PG (X.blk s H scope (compEnvC scope cl C X.env) fp) tg g)
    (ht : ∀ (s : Shared) (H : Hp) (C : Addr) (cl : List (Str × Addr)) (fp : List Addr), PTs (X.blk s H scope (compEnvC scope cl C X.env) fp) ifs tt)
    (hk : ∀ (s : Shared) (H : Hp) (C : Addr) (cl : List (Str × Addr)) (fp : List Addr), PE (X.blk s H scope (compEnvC scope cl C X.env) fp) kx tk)
    (hv : ∀ (s : Shared) (H : Hp) (C : Addr) (cl : List (Str × Addr)) (fp : List Addr), PE (X.blk s H scope (compEnvC scope cl C X.env) fp) vx tv)
    (hs : ∀ x, foldedSetIterable it X.env x = pure x := by intro _; rfl) :
    PS X (.Assign [.Name y py] (.DictComp kx vx [⟨tg, it, ifs, 0⟩] scope pos) sp) (tAsg (tDc wi g tt tk tv (own.map (·.2))) (gName i)) := by
  constructor
  intro pins s σ H D I h
  rw [exec_Assign_Name_used _ _ _ _ hsw]
  refine wpAny_bind (wpAny_standAt (wpAny_bind ?_))
  show wpAny _ X.A (do let _ ← comprehension (.DictComp kx vx [⟨tg, it, ifs, 0⟩] scope pos) scope X.env (firstIterPos [⟨tg, it, ifs, 0⟩] pos) newDict false (eval it X.env) (some (assign (.Name y py) X.env))) _ _ s
  have h' : tDc wi g tt tk tv (own.map (·.2)) σ H (fun x H1 => gName i x σ H1 D.nx) := h
  refine wpAny_bind (thn (dc_core (Qf := fun _ s' => SP X pins D .next s') hc hN I hi ok hg ht hk hv hs h' ?_) fun _ s' hq => wpAny_pure (wpAny_pure hq))
  intro L C s' m H' I' q hn f
  show wpAny _ _ (assign (.Name y py) X.env (.ref L)) _ _ _
  refine wpAny_assign_Name (store_ok2 (v := V.ref L) I' hN hy (.inl hyl) rfl ?_ (.inr hyl))
  rintro s2 I2 ⟨a, sb, ha⟩
  obtain ⟨f0, f1, f2, f3, f4, f5⟩ := f
  have ne : C ≠ a := by
    rcases ha with z | z
    · rw [z]; exact f1
    · exact fun e => f4 y a z e.symm
  exact ⟨m, hn.sameBut sb ne, fun h3 sb3 => ⟨_, H', I2.turned (t' := s2.toks) (fun b o hb e => (sb3.2 b hb).trans e) f0 f1 f3 f4 f5, q⟩⟩
/-- over a list that stays -/
theorem dc_lst {K : PySem.W.Frag} {a : Addr} {xs : List V} {g : TG} {tt : TT} {tk tv : TE} {vs : List Nat} {σ : L2.St} {H1 : Hp} {D : Addr} {Qd : Hp → Prop} (Pv : Nat → Hp → Prop) (h0 : Pv 0 (upd H1 D (.dK [])))
    (hl : ∀ i H, i ≤ xs.length → Pv i H → SqL K H a xs)
    (hs : ∀ i x H, xs[i]? = some x → Pv i H → g x (wipe σ vs) H fun σ2 H2 => wipe σ2 vs = wipe σ vs ∧ tt σ2 H2 fun b H3 =>
      if b = true then tk σ2 H3 fun y H4 => tv σ2 H4 fun z H5 => ∃ kvs k, y = kV k ∧ H5 D = some (.dK kvs) ∧ kvs.length < sizeLine ∧ Pv (i + 1) (upd H5 D (.dK (putK kvs k z))) else Pv (i + 1) H3) (hd : ∀ H, Pv xs.length H → Qd H) :
    ∃ W : Nat → Nat → Hp → Prop, (∃ m, W 0 m (upd H1 D (.dK []))) ∧ ∀ i m H, W i m H → ((Itl K a).stop i H ∧ Qd H) ∨
      ((Itl K a).go i H ∧ ∃ Nx : Hp → Prop, (∀ H', Nx H' → ∃ m', m' < m ∧ W (i + 1) m' H') ∧ ∀ x H', (Itl K a).yld i H x H' → g x (wipe σ vs) H' fun σ2 H2 => wipe σ2 vs = wipe σ vs ∧ tt σ2 H2 fun b H3 =>
        if b = true then tk σ2 H3 fun y H4 => tv σ2 H4 fun z H5 => ∃ kvs k, y = kV k ∧ H5 D = some (.dK kvs) ∧ kvs.length < sizeLine ∧ Nx (upd H5 D (.dK (putK kvs k z))) else Nx H3) := by
  refine ⟨fun i m H => m + i = xs.length ∧ Pv i H, ⟨xs.length, by simp, h0⟩, fun i m H ⟨em, hP⟩ => ?_⟩
  have sq := hl i H (by omega) hP
  by_cases c : i < xs.length
  · refine .inr ⟨⟨xs, xs[i], sq, List.getElem?_eq_getElem c⟩, Pv (i + 1), fun H' z => ⟨m - 1, by omega, by omega, z⟩, ?_⟩
    rintro x H' ⟨rfl, hx⟩
    exact hs i x _ (hx xs sq) hP
  · have e : i = xs.length := by omega
    exact .inl ⟨⟨xs, sq, by omega⟩, hd H (e ▸ hP)⟩
end
/-! ### rows by their codes; what is best so far, by stand -/
abbrev Wd := List Nat
def sOf (w : Wd) : Str := ⟨w.toArray⟩
theorem sOf_snoc (w : Wd) (c : Nat) : sOf w ++ ⟨#[c]⟩ = sOf (w ++ [c]) := by
  show Str.mk (w.toArray ++ #[c]) = _
  rw [List.append_toArray]
  rfl
theorem sOf_len (w : Wd) : (sOf w).length = w.length := by
  show w.toArray.size = _
  simp
theorem sOf_cps (w : Wd) : (sOf w).cps.toList = w := rfl
theorem sOf_inj {v w : Wd} (h : sOf v = sOf w) : v = w := by
  have := congrArg (fun s => s.cps.toList) h
  exact this
abbrev RF := Nat → Option (Int × Wd)
def better (x : Int × Wd) : Option (Int × Wd) → Bool
  | none => true
  | some y => decide (y.1 < x.1) || (decide (x.1 = y.1) && decide (x.2 < y.2))
def RF.put (f : RF) (k : Nat) (x : Int × Wd) : RF := fun j => if j = k then some x else f j
def turnL (sg : Int) (f acc : RF) (s : Stp) : RF := match f s.b with
  | none => acc
  | some y => if better (y.1 + sg * s.g, y.2 ++ [s.c]) (acc s.e) = true then acc.put s.e (y.1 + sg * s.g, y.2 ++ [s.c]) else acc
def longer (sg : Int) (f : RF) (ss : List Stp) : RF := ss.foldl (turnL sg f) fun _ => none
/-! ### dicts from stands to tuples -/
def ent2 (x : Int × Wd) : List V := [.int x.1, .str (sOf x.2)]
def E2 (f : RF) : Nat → Option (List V) := fun n => (f n).map ent2
def KvOk (K : PySem.W.Frag) (H : Hp) (kvs : List (Key × V)) (e : Nat → Option (List V)) : Prop :=
  (∀ p ∈ kvs, ∃ n : Nat, p.1 = .inl (n : Int)) ∧ ∀ n : Nat, (e n = none → valV kvs (.inl (n : Int)) = none) ∧ ∀ l, e n = some l → ∃ p, valV kvs (.inl (n : Int)) = some (.ref p) ∧ SqT K H p l
section
variable {K : PySem.W.Frag} {H H' : Hp} {kvs : List (Key × V)} {e : Nat → Option (List V)}
theorem KvOk.tups (h : KvOk K H kvs e) (t : Tups H H') : KvOk K H' kvs e := ⟨h.1, fun n => ⟨(h.2 n).1, fun l el => let ⟨p, q, z⟩ := (h.2 n).2 l el; ⟨p, q, t.sq z⟩⟩⟩
theorem KvOk.nil : KvOk K H [] fun _ => none := ⟨fun _ h => absurd h (by simp), fun n => ⟨fun _ => rfl, fun l h => by cases h⟩⟩
theorem KvOk.put {n : Nat} {p : Addr} {l : List V} (h : KvOk K H kvs e) (hp : SqT K H p l) : KvOk K H (putK kvs (.inl (n : Int)) (.ref p)) fun j => if j = n then some l else e j := by
  refine ⟨fun q hq => ?_, fun j => ?_⟩
  · unfold putK at hq
    split at hq
    · obtain ⟨r, hr, rfl⟩ := List.mem_map.mp hq
      split
      · rename_i z; exact ⟨n, z⟩
      · exact h.1 r hr
    · rcases List.mem_append.mp hq with hq | hq
      · exact h.1 q hq
      · have : q = (.inl (n : Int), .ref p) := by simpa using hq
        exact ⟨n, by rw [this]⟩
  · rw [valV_put]
    by_cases c : j = n
    · have c' : (Sum.inl (j : Int) : Key) = .inl (n : Int) := by rw [c]
      simp only [if_pos c, if_pos c']
      refine ⟨fun z => (by cases z), fun l' el => ?_⟩
      cases el
      exact ⟨p, rfl, hp⟩
    · have c' : ¬ (Sum.inl (j : Int) : Key) = .inl (n : Int) := fun z => c (by injection z with z; omega)
      simp only [if_neg c, if_neg c']
      exact h.2 j
theorem KvOk.congr {e' : Nat → Option (List V)} (h : KvOk K H kvs e) (q : ∀ n, e n = e' n) : KvOk K H kvs e' := (funext q : e = e') ▸ h
end
theorem E2_put (f : RF) (k : Nat) (x : Int × Wd) (n : Nat) : (if n = k then some (ent2 x) else E2 f n) = E2 (f.put k x) n := by
  unfold E2 RF.put
  by_cases c : n = k
  · rw [if_pos c, if_pos c]; rfl
  · rw [if_neg c, if_neg c]
theorem Same.mut {p : Addr} {H H' : Hp} {o : HO} (x : Same H H') (hp : H p = none) : Same H (upd H' p o) := fun b u h => by rw [upd_ne (ne_of_none h hp)]; exact x b u h
theorem Tups.dk {p : Addr} {H : Hp} {kvs : List (Key × V)} {o : HO} (h : H p = some (.dK kvs)) : Tups H (upd H p o) :=
  ⟨fun b xs e => by rw [upd_ne (fun z => by rw [z, h] at e; cases e)]; exact e, fun b _ xs e => by rw [upd_ne (fun z => by rw [z, h] at e; cases e)]; exact e⟩
theorem take_fold {α β : Type} (f : β → α → β) (z : β) {l : List α} {i : Nat} {x : α} (h : l[i]? = some x) : (l.take (i + 1)).foldl f z = f ((l.take i).foldl f z) x := by
  rw [List.take_add_one, h, List.foldl_append]
  rfl
/-! ### the parts read off a machine -/
section
variable {P : Program} {w : World} {K : PySem.W.Frag} {mg : Str → Option Value} {base : Heap}
theorem ok_Machine_stands (T : Txt K mg) : FnOk P w K mg base (L2.CX P w) 1 T.a_Machine_stands T.fd_Machine_stands ["self"] (getSp T.c_Machine "_stands") := by
  refine T.F_Machine_stands.okX sc_Machine_stands (fun vs H Q E h => ?_) (fun cdv A outer s H vs Q E hr h => ?_)
  · obtain ⟨a, dx, fs, v, rfl, _⟩ := h
    rfl
  · obtain ⟨a, dx, fs, v, rfl, ha, hl, k⟩ := h
    refine ⟨_, (PSs.nox (pss_one (ps_ret (pe_fld (pv 0) rfl)))), ?_⟩
    exact ⟨_, rfl, a, _, dx, fs, v, rfl, ha, T.cl_Machine, T.n__stands, hl, k⟩
theorem ok_Machine_steps (T : Txt K mg) : FnOk P w K mg base (L2.CX P w) 1 T.a_Machine_steps T.fd_Machine_steps ["self"] (getSp T.c_Machine "_steps") := by
  refine T.F_Machine_steps.okX sc_Machine_steps (fun vs H Q E h => ?_) (fun cdv A outer s H vs Q E hr h => ?_)
  · obtain ⟨a, dx, fs, v, rfl, _⟩ := h
    rfl
  · obtain ⟨a, dx, fs, v, rfl, ha, hl, k⟩ := h
    refine ⟨_, (PSs.nox (pss_one (ps_ret (pe_fld (pv 0) rfl)))), ?_⟩
    exact ⟨_, rfl, a, _, dx, fs, v, rfl, ha, T.cl_Machine, T.n__steps, hl, k⟩
end
/-! ### the ends read off a machine -/
section
variable {P : Program} {w : World} {K : PySem.W.Frag} {mg : Str → Option Value} {base : Heap}
theorem ok_Machine_ends (T : Txt K mg) : FnOk P w K mg base (L2.CX P w) 1 T.a_Machine_ends T.fd_Machine_ends ["self"] (getSp T.c_Machine "_ends") := by
  refine T.F_Machine_ends.okX sc_Machine_ends (fun vs H Q E h => ?_) (fun cdv A outer s H vs Q E hr h => ?_)
  · obtain ⟨a, dx, fs, v, rfl, _⟩ := h
    rfl
  · obtain ⟨a, dx, fs, v, rfl, ha, hl, k⟩ := h
    refine ⟨_, (PSs.nox (pss_one (ps_ret (pe_fld (pv 0) rfl)))), ?_⟩
    exact ⟨_, rfl, a, _, dx, fs, v, rfl, ha, T.cl_Machine, T.n__ends, hl, k⟩
end
/-! ### the parts read off a machine; the next length's best rows -/
def rLtS : R2 := fun x y H Q => ∃ i j, x = .str i ∧ y = .str j ∧ Q (.bl (decide (i.cps.toList < j.cps.toList))) H
theorem test_better {K : PySem.W.Frag} {σ : L2.St} {H : Hp} {R : Bool → Hp → Prop} {D : Addr} {kvs : List (Key × V)} {acc : RF} {e : Nat} {x : Int × Wd} (hD : H D = some (.dK kvs)) (ok : KvOk K H kvs (E2 acc))
    (h3 : σ[3]? = some (some (.ref D))) (h6 : σ[6]? = some (some (.int (e : Nat)))) (h8 : σ[8]? = some (some (.int x.1))) (h9 : σ[9]? = some (some (.str (sOf x.2)))) (h : R (better x (acc e)) H) :
    tOr (tB (tDNotIn (tVar 6) (tVar 3))) (tOr (tTest (tOp (rI0 fun i j => V.bl (decide (j < i))) (tVar 8) (tOp (rIxT K) (tDGet (tVar 3) (tVar 6)) (tC (.int 0)))))
      (tAnd (tTest (tOp rEq (tVar 8) (tOp (rIxT K) (tDGet (tVar 3) (tVar 6)) (tC (.int 0))))) (tTest (tOp rLtS (tVar 9) (tOp (rIxT K) (tDGet (tVar 3) (tVar 6)) (tC (.int 1))))))) σ H R := by
  have dg : DGet H D (.int (e : Nat)) (valV kvs (.inl (e : Int))) := DGet.k (k := .inl (e : Int)) hD
  refine k_or (k_tB (k_dnotin (k_var h6 (k_var h3 ⟨D, _, rfl, dg, k_bl ?_⟩))))
  cases ea : acc e with
  | none =>
    have z := (ok.2 e).1 (by unfold E2; rw [ea]; rfl)
    rw [z]
    refine iteT ?_
    rw [ea] at h
    exact h
  | some y =>
    obtain ⟨p, z, sq⟩ := (ok.2 e).2 (ent2 y) (by unfold E2; rw [ea]; rfl)
    rw [ea] at h
    rw [z] at dg ⊢
    have at0 : ∀ {Q : VK}, Q (.int y.1) H → tOp (rIxT K) (tDGet (tVar 3) (tVar 6)) (tC (.int 0)) σ H Q := fun q => k_op (k_dget (k_var h3 (k_var h6 ⟨D, _, rfl, dg, k_c (k_ixT sq (v := .int y.1) rfl q)⟩)))
    have at1 : ∀ {Q : VK}, Q (.str (sOf y.2)) H → tOp (rIxT K) (tDGet (tVar 3) (tVar 6)) (tC (.int 1)) σ H Q := fun q => k_op (k_dget (k_var h3 (k_var h6 ⟨D, _, rfl, dg, k_c (k_ixT sq (v := .str (sOf y.2)) rfl q)⟩)))
    refine iteF (k_or (k_test (k_op (k_var h8 (at0 (k_I0 (k_bl ?_)))))))
    have hb : better x (some y) = (decide (y.1 < x.1) || (decide (x.1 = y.1) && decide (x.2 < y.2))) := rfl
    rw [hb] at h
    refine k_ite (fun c => ?_) (fun c => ?_)
    · rw [decide_eq_true c, Bool.true_or] at h
      exact h
    · rw [decide_eq_false c, Bool.false_or] at h
      refine k_and (k_test (k_op (k_var h8 (at0 (k_eq rfl (k_bl ?_))))))
      refine k_ite (fun d => ?_) (fun d => ?_)
      · have d' : x.1 = y.1 := by injection d
        rw [decide_eq_true d', Bool.true_and] at h
        refine k_test (k_op (k_var h9 (at1 ⟨_, _, rfl, rfl, k_bl ?_⟩)))
        exact h
      · have d' : ¬ x.1 = y.1 := fun z => d (by rw [z])
        rw [decide_eq_false d', Bool.false_and] at h
        exact h
def Sgn (sg : Int) : Prop := sg = 1 ∨ sg = -1 ∨ sg = 0
theorem Sgn.of {sg : Int} (h : sg = 1 ∨ sg = -1) : Sgn sg := by rcases h with h | h; exact .inl h; exact .inr (.inl h)
def sp_longer (K : PySem.W.Frag) : Sp := fun vs H Q _ => ∃ (t r : Addr) (sg : Int) (N : Nat) (ss : List Stp) (f : RF) (kvs : List (Key × V)), vs = [.ref t, .int sg, .ref r] ∧ StSq K H t ss ∧ SsOk N ss ∧ H r = some (.dK kvs) ∧ KvOk K H kvs (E2 f) ∧
  Sgn sg ∧ (∀ n y, f n = some y → y.2.length ≤ 64) ∧ ∀ p kvs' H', Same H H' → H p = none → H' p = some (.dK kvs') → KvOk K H' kvs' (E2 (longer sg f ss)) → kvs'.length ≤ 300 → Q (.ref p) H'
section
variable {P : Program} {w : World} {K : PySem.W.Frag} {mg : Str → Option Value} {base : Heap}
theorem ok_longer_rows (T : Txt K mg) : FnOk P w K mg base (L2.CX P w) 3 T.a_longer_rows T.fd_longer_rows ["steps", "sign", "rows"] (sp_longer K) := by
  refine T.F_longer_rows.okX sc_longer_rows (fun vs H Q E h => ?_) (fun cdv A outer s H vs Q E hr h => ?_)
  · obtain ⟨t, r, sg, N, ss, f, kvs, rfl, _⟩ := h
    rfl
  · obtain ⟨t, r, sg, N, ss, f, kvs, rfl, ⟨us, ht, hs⟩, o, hr0, hf, hsg, hw, k⟩ := h
    refine ⟨_, (PSs.nox (pss_cons (ps_set (i := 3) sc_longer_rows.nd rfl (Or.inl rfl) pe_dnewK)
  (pss_cons (ps_for PassesOwn.never rfl (pi_sq (pv 0)) (pg_tup rfl (pgs_cons (pg_name (i := 4) sc_longer_rows.nd rfl (Or.inl rfl)) (pgs_cons (pg_name (i := 5) sc_longer_rows.nd rfl (Or.inl rfl)) (pgs_cons (pg_name (i := 6) sc_longer_rows.nd rfl (Or.inl rfl)) (pgs_cons (pg_name (i := 7) sc_longer_rows.nd rfl (Or.inl rfl)) pgs_nil)))))
  (pss_one (ps_if (pt_cmp (pc_din (hu_of hr) (pv 4) (pv 2)) (by rfl))
  (pss_cons (ps_asg (pe_dget (hu_of hr) (pv 2) (pv 4) (fun _ _ => rfl)) (pg_tup rfl (pgs_cons (pg_name (i := 8) sc_longer_rows.nd rfl (Or.inl rfl)) (pgs_cons (pg_name (i := 9) sc_longer_rows.nd rfl (Or.inl rfl)) pgs_nil))))
  (pss_cons (ps_aug (i := 8) sc_longer_rows.nd rfl (Or.inl rfl) (pe_op op_mulW (pv 1) (pv 7)) ip_add)
  (pss_cons (ps_aug (i := 9) sc_longer_rows.nd rfl (Or.inl rfl) (pv 5) iop_add_str)
  (pss_one (ps_if (PW.pt (pw_or (pt_cmp (pc_dnotin (hu_of hr) (pv 6) (pv 3)) (by rfl)) (pw_or (pt_cmpR op_gt (pv 8) (pe_ix ix_tup (pe_dget (hu_of hr) (pv 3) (pv 6) (fun _ _ => rfl)) pe_int (fun _ _ => rfl)) (nomark _)) (pw_or1 (PW.pt (pw_and (pt_cmpR op_eq (pv 8) (pe_ix ix_tup (pe_dget (hu_of hr) (pv 3) (pv 6) (fun _ _ => rfl)) pe_int (fun _ _ => rfl)) (nomark _)) (pw_and1 (pt_cmpR op_lt_str (pv 9) (pe_ix ix_tup (pe_dget (hu_of hr) (pv 3) (pv 6) (fun _ _ => rfl)) pe_int (fun _ _ => rfl)) (nomark _)))))))))
  (pss_one (ps_dput (hu_of hr) (pv 3) (pv 6) (pe_tup (pa_cons (pv 8) (pa_cons (pv 9) pa_nil))) rfl))
  pss_nil)))))
  pss_nil)))
  (pss_one (ps_ret (pv 3)))))), ?_⟩
    walk_at "begin"
    walk_at "go"
    intro D hD
    walk_at "go"
    refine for_sq (xs := us) rfl ht (fun i σ H' => ∃ kvs' a4 a5 a6 a7 a8 a9, Same H H' ∧ H' D = some (.dK kvs') ∧ KvOk K H' kvs' (E2 ((ss.take i).foldl (turnL sg f) fun _ => none)) ∧ kvs'.length ≤ i ∧
      σ = [some (.ref t), some (.int sg), some (.ref r), some (.ref D), a4, a5, a6, a7, a8, a9]) ⟨[], none, none, none, none, none, none, Same.new hD, upd_same, KvOk.nil, Nat.le_refl _, rfl⟩
      (fun i σ H' ⟨_, _, _, _, _, _, _, z, _⟩ => z) ?_ ?_
    · rintro i y σ H1 hy ⟨kvs', a4, a5, a6, a7, a8, a9, z, eD, ok, len, rfl⟩
      have il : i < ss.length := by rw [← hs.1]; exact (List.getElem?_eq_some_iff.mp hy).1
      have ei : ss[i]? = some (ss[i]'il) := List.getElem?_eq_getElem il
      obtain ⟨q, eq, hq⟩ := hs.2 i _ ei
      rw [hy] at eq
      cases eq
      have ok1 := o.ok _ (List.getElem_mem il)
      have len32 := o.len
      rw [take_fold _ _ ei]
      generalize ss[i]'il = st at hq ok1 ⊢
      generalize (ss.take i).foldl (turnL sg f) (fun _ => none) = acc at ok ⊢
      have dg := DGet.k (k := .inl (st.b : Int)) (z _ _ hr0)
      refine k_gt ((same_tups z).sq hq) rfl ?_
      unfold stpV
      walk_at "go"
      refine ⟨r, _, rfl, dg, ?_⟩
      walk_at "go"
      cases fb : f st.b with
      | none =>
        rw [(hf.2 st.b).1 (by unfold E2; rw [fb]; rfl)]
        refine iteF ?_
        walk_at "go"
        have et : turnL sg f acc st = acc := by unfold turnL; rw [fb]
        rw [et]
        exact ⟨kvs', _, _, _, _, _, _, z, eD, ok, by omega, rfl⟩
      | some v =>
        obtain ⟨p, ep, sp⟩ := (hf.2 st.b).2 (ent2 v) (by unfold E2; rw [fb]; rfl)
        have lw := hw _ _ fb
        rw [ep] at dg ⊢
        refine iteT ?_
        walk_at "go"
        refine ⟨r, _, rfl, dg, ?_⟩
        refine k_gt ((same_tups z).sq sp) rfl ?_
        unfold ent2
        walk_at "go"
        refine k_I (wide_mul (a := 1) (b := 108) (by rcases hsg with rfl | rfl | rfl <;> decide) (by have := ok1.g; have := ok1.g'; omega) (by decide) (by decide) (by decide)) ?_
        walk_at "go"
        refine ⟨_, _, rfl, rfl, by rw [sOf_len]; show v.2.length + 1 ≤ sizeLine; exact Nat.le_trans (show v.2.length + 1 ≤ 65 by omega) (by decide), ?_⟩
        rw [sOf_snoc]
        dsimp only
        refine k_ifS ?_
        refine test_better (x := (v.1 + sg * st.g, v.2 ++ [st.c])) (acc := acc) (e := st.e) eD ok ?_ ?_ ?_ ?_ ?_
        iterate 4 rfl
        have et : turnL sg f acc st = if better (v.1 + sg * st.g, v.2 ++ [st.c]) (acc st.e) = true then acc.put st.e (v.1 + sg * st.g, v.2 ++ [st.c]) else acc := by unfold turnL; rw [fb]
        rw [et]
        refine k_bool (fun c => ?_) (fun c => ?_)
        · rw [if_pos c]
          walk_at "go"
          refine ⟨(by decide : 2 ≤ sizeLine), fun pn hpn => ?_⟩
          walk_at "go"
          have eD2 : (upd H1 pn (.tup [.int (v.1 + sg * st.g), .str (sOf (v.2 ++ [st.c]))])) D = some (.dK kvs') := by rw [upd_ne (ne_of_none eD hpn)]; exact eD
          refine ⟨D, _, rfl, DPut.k (k := .inl (st.e : Int)) eD2 (Nat.lt_of_le_of_lt len (Nat.lt_trans (show i < 1000 by omega) (by decide))), ?_⟩
          refine ⟨_, _, _, _, _, _, _, Same.mut (z.trans (Same.new hpn)) hD, upd_same, ?_, by have := length_putK kvs' (.inl (st.e : Int)) (V.ref pn); omega, rfl⟩
          refine ((KvOk.put (n := st.e) (ok.tups (Tups.new hpn)) (l := ent2 (v.1 + sg * st.g, v.2 ++ [st.c])) (SqT.of upd_same)).tups (Tups.dk eD2)).congr fun n => ?_
          exact E2_put acc st.e _ n
        · rw [if_neg (by rw [c]; exact Bool.false_ne_true)]
          walk_at "go"
          exact ⟨kvs', _, _, _, _, _, _, z, eD, ok, by omega, rfl⟩
    · rintro σ H1 ⟨kvs', a4, a5, a6, a7, a8, a9, z, eD, ok, len, rfl⟩
      walk_at "go"
      rw [hs.1, List.take_length] at ok
      have := o.len
      exact k D kvs' H1 z hD eD ok (by rw [hs.1] at len; omega)
end
/-! ### which stands have a better row; which stands letters lead to -/
inductive Reach (ss : List Stp) (l : List Nat) : Nat → Prop
  | base {n : Nat} : n ∈ l → Reach ss l n
  | step {s : Stp} : s ∈ ss → Reach ss l s.b → Reach ss l s.e
def fkv (F : List Nat) : List (Key × V) := F.map fun (n : Nat) => ((.inl (n : Int) : Key), V.bl true)
theorem key_eq (a b : Nat) : ((Sum.inl (a : Int) : Key) = .inl (b : Int)) ↔ a = b := ⟨fun z => by injection z with z; omega, fun z => by rw [z]⟩
theorem valV_fkv (n : Nat) : ∀ F : List Nat, valV (fkv F) (.inl (n : Int)) = if n ∈ F then some (.bl true) else none
  | [] => rfl
  | a :: F => by
    have ih := valV_fkv n F
    by_cases c : a = n
    · rw [if_pos (by rw [c]; exact List.mem_cons_self)]
      exact valV_pos (p := ((.inl (a : Int) : Key), V.bl true)) ((key_eq a n).mpr c)
    · have e : valV (fkv (a :: F)) (.inl (n : Int)) = valV (fkv F) (.inl (n : Int)) := valV_neg (p := ((.inl (a : Int) : Key), V.bl true)) fun z => c ((key_eq a n).mp z)
      rw [e, ih]
      by_cases d : n ∈ F
      · rw [if_pos d, if_pos (List.mem_cons_of_mem _ d)]
      · rw [if_neg d, if_neg (fun z => by rcases List.mem_cons.mp z with z | z; exact c z.symm; exact d z)]
def addN (F : List Nat) (n : Nat) : List Nat := if n ∈ F then F else F ++ [n]
theorem addN_mem {F : List Nat} {n k : Nat} : k ∈ addN F n ↔ k ∈ F ∨ k = n := by
  unfold addN
  by_cases c : n ∈ F
  · rw [if_pos c]
    exact ⟨.inl, fun z => by rcases z with z | rfl <;> assumption⟩
  · rw [if_neg c, List.mem_append, List.mem_singleton]
theorem addN_nodup {F : List Nat} {n : Nat} (h : F.Nodup) : (addN F n).Nodup := by
  unfold addN
  by_cases c : n ∈ F
  · rw [if_pos c]; exact h
  · rw [if_neg c]
    exact List.nodup_append.mpr ⟨h, by simp, fun a ha b hb e => by rw [List.mem_singleton] at hb; rw [e, hb] at ha; exact c ha⟩
theorem putK_fkv (F : List Nat) (n : Nat) : putK (fkv F) (.inl (n : Int)) (.bl true) = fkv (addN F n) := by
  by_cases c : n ∈ F
  · unfold addN putK
    have h := valV_any (.inl (n : Int) : Key) (fkv F)
    rw [valV_fkv, if_pos c] at h
    rw [h, if_pos c, if_pos (show (some (V.bl true)).isSome = true from rfl)]
    unfold fkv
    rw [List.map_map]
    refine List.map_congr_left fun a _ => ?_
    show (if (Sum.inl (a : Int) : Key) = .inl (n : Int) then ((Sum.inl (a : Int) : Key), V.bl true) else ((Sum.inl (a : Int) : Key), V.bl true)) = _
    split <;> rfl
  · rw [putK_new _ (by rw [valV_fkv, if_neg c])]
    unfold addN fkv
    rw [if_neg c, List.map_append]
    rfl
theorem nats_snoc (l : List Nat) (n : Nat) : nats (l ++ [n]) = nats l ++ [.int (n : Nat)] := by unfold nats; rw [List.map_append]; rfl
theorem nats_at {l : List Nat} {i : Nat} {x : V} (h : (nats l)[i]? = some x) : ∃ n, l[i]? = some n ∧ x = .int (n : Nat) := by
  unfold nats at h
  rw [List.getElem?_map] at h
  cases e : l[i]? with
  | none => rw [e] at h; cases h
  | some n => rw [e] at h; exact ⟨n, rfl, (Option.some.inj h).symm⟩
theorem nodup_small {F : List Nat} {n : Nat} (h : F.Nodup) (b : ∀ k ∈ F, k < n) : F.length ≤ n := by
  induction n generalizing F with
  | zero =>
    cases F with
    | nil => exact Nat.le_refl _
    | cons a F => exact absurd (b a List.mem_cons_self) (Nat.not_lt_zero _)
  | succ n ih =>
    by_cases c : n ∈ F
    · have e1 := ih (F := F.erase n) (h.erase n) fun k hk => by
        have hk' := (List.Nodup.mem_erase_iff h).mp hk
        have := b k hk'.2
        have := hk'.1
        omega
      rw [List.length_erase_of_mem c] at e1
      omega
    · have := ih h fun k hk => by
        have := b k hk
        have : k ≠ n := fun z => c (z ▸ hk)
        omega
      omega
def sp_led (K : PySem.W.Frag) : Sp := fun vs H Q _ => ∃ (t p : Addr) (N : Nat) (ss : List Stp) (l : List Nat), vs = [.ref t, .ref p] ∧ StSq K H t ss ∧ SsOk N ss ∧ H p = some (.lst (nats l)) ∧ (∀ n ∈ l, n < N) ∧ l.length ≤ 300 ∧
  ∀ q (l' : List Nat) H', Same H H' → H q = none → H' q = some (.lst (nats l')) → (∀ n, n ∈ l' ↔ Reach ss l n) → l'.Pairwise (· < ·) → Q (.ref q) H'
theorem nodup_sub {α : Type} [DecidableEq α] : ∀ {l T : List α}, l.Nodup → (∀ x ∈ l, x ∈ T) → l.length ≤ T.length
  | [], _, _, _ => Nat.zero_le _
  | a :: l, T, h, s => by
    have q := List.nodup_cons.mp h
    have i := nodup_sub (T := T.erase a) q.2 fun x hx => (List.mem_erase_of_ne (fun e => q.1 (by rw [← e]; exact hx))).mpr (s x (List.mem_cons_of_mem _ hx))
    have m := s a List.mem_cons_self
    have := List.length_erase_of_mem m
    have := List.length_pos_of_mem m
    rw [List.length_cons]
    omega
theorem inV_nats (n : Nat) : ∀ l : List Nat, inV (.int (n : Nat)) (nats l) = decide (n ∈ l)
  | [] => rfl
  | a :: l => by
    have ih := inV_nats n l
    unfold inV nats at ih ⊢
    rw [List.map_cons, List.any_cons, ih]
    have e : eqV (.int (a : Nat)) (.int (n : Nat)) = decide (n = a) := by
      show ((((a : Nat) : Int)) == ((n : Nat) : Int)) = decide (n = a)
      rw [Bool.eq_iff_iff, beq_iff_eq, decide_eq_true_iff]
      omega
    rw [e]
    by_cases c : n = a
    · subst c
      simp
    · simp [c]
theorem flat_nats : ∀ l : List Nat, (nats l).all flatV = true
  | [] => rfl
  | a :: l => by
    show (flatV (.int (a : Nat)) && (nats l).all flatV) = true
    rw [flat_nats l]
    rfl
theorem dec_int (a b : Int) : decide (V.int a = V.int b) = decide (a = b) := decide_eq_decide.mpr ⟨fun h => by injection h, fun h => by rw [h]⟩
/-! ### which stands have a better row -/
def impr (f D : RF) (n : Nat) : Bool := match f n with
  | none => false
  | some x => match D n with
    | none => true
    | some y => decide (y.1 < x.1)
def sp_improved (K : PySem.W.Frag) : Sp := fun vs H Q _ => ∃ (r b : Addr) (f D : RF) (kvs kvb : List (Key × V)), vs = [.ref r, .ref b] ∧ H r = some (.dK kvs) ∧ KvOk K H kvs (E2 f) ∧ H b = some (.dK kvb) ∧ KvOk K H kvb (E2 D) ∧ r ≠ b ∧ kvs.length ≤ 300 ∧
  ∀ p (l : List Nat) H', Same H H' → H p = none → H' p = some (.lst (nats l)) → (∀ n, n ∈ l ↔ impr f D n = true) → l.length ≤ 300 → Q (.ref p) H'
section
variable {P : Program} {w : World} {K : PySem.W.Frag} {mg : Str → Option Value} {base : Heap}
theorem ok_improved (T : Txt K mg) : FnOk P w K mg base (L2.CX P w) 1 T.a_improved T.fd_improved ["rows", "best"] (sp_improved K) := by
  refine T.F_improved.okX sc_improved (fun vs H Q E h => ?_) (fun cdv A outer s H vs Q E hr h => ?_)
  · obtain ⟨r, b, f, D, kvs, kvb, rfl, _⟩ := h
    rfl
  · obtain ⟨r, b, f, g, kvs, kvb, rfl, hr0, hf, hb, hg, ne, len, k⟩ := h
    refine ⟨_, (PSs.nox (pss_one (ps_ret (pe_lock (pe_lc (own := [("stand", 2)]) (g := (gName 2)) rfl sc_improved.nd (pi_keys (pv 0)) (blkOk_by (own := [("stand", 2)]) (N := ["rows", "best", "stand"]) (sc := defScope s_improved) (by decide +kernel)) (fun _ _ _ _ _ => (pg_name (i := 2) sc_improved.nd rfl (Or.inl rfl))) (fun _ _ _ _ _ => (pts_one (PW.pt (pw_or (pt_cmp (pc_dnotin (hu_of hr) (pv 2) (pv 1)) (by rfl)) (pw_or1 (pt_cmpR op_gt (pe_ix (show IxR _ (rIxT K) from ix_tup) (pe_dget (hu_of hr) (pv 0) (pv 2) (fun _ _ => rfl)) pe_int (fun _ _ => rfl)) (pe_ix (show IxR _ (rIxT K) from ix_tup) (pe_dget (hu_of hr) (pv 1) (pv 2) (fun _ _ => rfl)) pe_int (fun _ _ => rfl)) (nomark _))))))) (fun _ _ _ _ _ => (pv 2))))))), ?_⟩
    walk_at "begin"
    refine k_ret ⟨r, _, hr0, trivial, fun od => ?_⟩
    obtain ⟨HL, eL⟩ : ∃ z, z = upd H r (.frz od (.dK kvs)) := ⟨_, rfl⟩
    rw [← eL]
    have tL : Tups H HL := by rw [eL]; exact Tups.dk hr0
    have bL : HL b = some (.dK kvb) := by rw [eL, upd_ne ne.symm]; exact hb
    have rL : HL r = some (.frz od (.dK kvs)) := by rw [eL, upd_same]
    walk_at "go"
    refine ⟨_, rfl, r, od, rfl, .inl ⟨kvs, rL, fun L hL => ?_⟩⟩
    have nLr : L ≠ r := fun z => by rw [z, rL] at hL; cases hL
    have hL0 : H L = none := by rw [eL, upd_ne nLr] at hL; exact hL
    refine lc_it walk_keys (fun i H' => Same HL H' ∧ ∃ l : List Nat, H' L = some (.lst (nats l)) ∧ l.length ≤ i ∧ ∀ n, n ∈ l ↔ (impr f g n = true ∧ ∃ j v, j < i ∧ kvs[j]? = some (.inl (n : Int), v)))
      ⟨Same.new hL, [], upd_same, Nat.le_refl _, fun n => ⟨fun z => absurd z (by simp), fun ⟨_, j, _, hj, _⟩ => absurd hj (Nat.not_lt_zero _)⟩⟩ (fun i H' _ ⟨z, _⟩ => z _ _ rL) ?_ ?_
    · rintro i x H0 H1 hi ⟨z, l, el, ll, hl⟩ ⟨rfl, key, v, hk, rfl⟩
      obtain ⟨n, rfl⟩ := hf.1 (key, v) (List.mem_of_getElem? hk)
      have more : ∀ q, (q ∈ l ∨ (impr f g n = true ∧ q = n)) ↔ (impr f g q = true ∧ ∃ j v, j < i + 1 ∧ kvs[j]? = some (.inl (q : Int), v)) := fun q => by
        constructor
        · rintro (h | ⟨h, rfl⟩)
          · obtain ⟨h1, j, v', hj, e⟩ := (hl q).mp h
            exact ⟨h1, j, v', by omega, e⟩
          · exact ⟨h, i, v, by omega, hk⟩
        · rintro ⟨h1, j, v', hj, e⟩
          by_cases c : j = i
          · rw [c, hk] at e
            have e' : ((Sum.inl (n : Int) : Key), v) = (.inl (q : Int), v') := Option.some.inj e
            have e2 : n = q := (key_eq n q).mp (congrArg Prod.fst e')
            exact .inr ⟨by rw [e2]; exact h1, e2.symm⟩
          · exact .inl ((hl q).mpr ⟨h1, j, v', by omega, e⟩)
      have keep : ∀ {H2 : Hp}, H2 = H1 → impr f g n = false → (Same HL H2 ∧ ∃ l : List Nat, H2 L = some (.lst (nats l)) ∧ l.length ≤ i + 1 ∧ ∀ q, q ∈ l ↔ (impr f g q = true ∧ ∃ j v, j < i + 1 ∧ kvs[j]? = some (.inl (q : Int), v))) := by
        rintro H2 rfl h
        refine ⟨z, l, el, by omega, fun q => ?_⟩
        rw [← more q, h]
        simp
      have snoc : impr f g n = true → ∃ acc, H1 L = some (.lst acc) ∧ acc.length < sizeLine ∧ (Same HL (upd H1 L (.lst (acc ++ [V.int (n : Nat)]))) ∧ ∃ l : List Nat, (upd H1 L (.lst (acc ++ [V.int (n : Nat)]))) L = some (.lst (nats l)) ∧ l.length ≤ i + 1 ∧ ∀ q, q ∈ l ↔ (impr f g q = true ∧ ∃ j v, j < i + 1 ∧ kvs[j]? = some (.inl (q : Int), v))) := fun h => by
        refine ⟨_, el, ?_, Same.mut z hL, l ++ [n], by rw [upd_same, nats_snoc], by rw [List.length_append, List.length_singleton]; omega, fun q => ?_⟩
        · have : (nats l).length < 1000 := by unfold nats; rw [List.length_map]; omega
          exact Nat.lt_trans this (by decide)
        · rw [← more q, h, List.mem_append, List.mem_singleton]
          simp
      have dr : DGet H1 r (.int (n : Nat)) (valV kvs (.inl (n : Int))) := .inl ⟨kvs, .inl (n : Int), .inr ⟨od, z _ _ rL⟩, rfl, rfl⟩
      have db : DGet H1 b (.int (n : Nat)) (valV kvb (.inl (n : Int))) := DGet.k (k := .inl (n : Int)) (z _ _ bL)
      have fr : ∃ y, f n = some y := by
        cases e : f n with
        | some y => exact ⟨y, rfl⟩
        | none =>
          have q := (hf.2 n).1 (by unfold E2; rw [e]; rfl)
          have a := valV_any (.inl (n : Int) : Key) kvs
          rw [q] at a
          have : kvs.any (fun kv => decide (kv.1 = (.inl (n : Int) : Key))) = true := List.any_eq_true.mpr ⟨_, List.mem_of_getElem? hk, decide_eq_true rfl⟩
          rw [this] at a
          cases a
      obtain ⟨y, ey⟩ := fr
      obtain ⟨p, ep, sp⟩ := (hf.2 n).2 (ent2 y) (by unfold E2; rw [ey]; rfl)
      rw [ep] at dr
      have sp1 := (tL.sq sp)
      have sp2 := (same_tups z).sq sp1
      have ei : impr f g n = match g n with | none => true | some y' => decide (y'.1 < y.1) := by unfold impr; rw [ey]
      walk_at "st"
      refine ⟨rfl, ?_⟩
      walk_at "go"
      refine ⟨b, _, rfl, db, ?_⟩
      walk_at "go"
      cases eg : g n with
      | none =>
        rw [(hg.2 n).1 (by unfold E2; rw [eg]; rfl)]
        rw [eg] at ei
        refine iteT (iteT ?_)
        walk_at "go"
        exact snoc ei
      | some y' =>
        obtain ⟨p', ep', sp'⟩ := (hg.2 n).2 (ent2 y') (by unfold E2; rw [eg]; rfl)
        rw [ep'] at db ⊢
        rw [eg] at ei
        refine iteF ?_
        walk_at "go"
        refine ⟨r, _, rfl, dr, ?_⟩
        walk_at "go"
        refine k_ixT sp2 (v := .int y.1) rfl ?_
        walk_at "go"
        refine ⟨b, _, rfl, db, ?_⟩
        walk_at "go"
        refine k_ixT ((same_tups z).sq (tL.sq sp')) (v := .int y'.1) rfl ?_
        walk_at "go"
        refine k_ite (fun c => ?_) (fun c => ?_)
        · walk_at "go"
          exact snoc (ei.trans (decide_eq_true c))
        · exact keep rfl (ei.trans (decide_eq_false c))
    · rintro H1 ⟨z, l, el, ll, hl⟩
      refine ⟨z _ _ rL, k L l _ (fun c o ec => ?_) hL0 ?_ (fun n => ?_) (by omega)⟩
      · by_cases cr : c = r
        · rw [cr, upd_same]
          rw [cr, hr0] at ec
          exact ec
        · rw [upd_ne cr]
          exact z _ _ (by rw [eL, upd_ne cr]; exact ec)
      · rw [upd_ne nLr]; exact el
      · rw [hl n]
        refine ⟨fun h => h.1, fun h => ⟨h, ?_⟩⟩
        have fs : ∃ y, f n = some y := by
          unfold impr at h
          cases e : f n with
          | none => rw [e] at h; cases h
          | some y => exact ⟨y, rfl⟩
        obtain ⟨y, ey⟩ := fs
        obtain ⟨p, ep, _⟩ := (hf.2 n).2 (ent2 y) (by unfold E2; rw [ey]; rfl)
        have a := valV_any (.inl (n : Int) : Key) kvs
        rw [ep] at a
        obtain ⟨kv, hm, hd⟩ := List.any_eq_true.mp (a.trans rfl)
        obtain ⟨j, hj, ej⟩ := List.getElem_of_mem hm
        refine ⟨j, kv.2, hj, ?_⟩
        rw [List.getElem?_eq_getElem hj, ej]
        have : kv.1 = .inl (n : Int) := of_decide_eq_true hd
        rw [← this]
end
/-- the stands found and those that wait -/
structure Led (N : Nat) (ss : List Stp) (l F Wt : List Nat) : Prop where
  nd : F.Nodup
  bd : ∀ n ∈ F, n < N
  re : ∀ n ∈ F, Reach ss l n
  sub : ∀ n ∈ Wt, n ∈ F
  bas : ∀ n ∈ l, n ∈ F
/-- all but those that wait (and it, from the step i on) are closed -/
def Closed (ss : List Stp) (F Wt : List Nat) : Prop := ∀ s ∈ ss, s.b ∈ F → s.b ∉ Wt → s.e ∈ F
section
variable {P : Program} {w : World} {K : PySem.W.Frag} {mg : Str → Option Value} {base : Heap}
theorem ok_led_to (T : Txt K mg) : FnOk P w K mg base (L2.CX P w) 3 T.a_led_to T.fd_led_to ["steps", "begins"] (sp_led K) := by
  refine T.F_led_to.okX sc_led_to (fun vs H Q E h => ?_) (fun cdv A outer s H vs Q E hr h => ?_)
  · obtain ⟨t, p, N, ss, l, rfl, _⟩ := h
    rfl
  · obtain ⟨t, p, N, ss, l, rfl, ⟨us, ht, hs⟩, o, hp, hl, ll, k⟩ := h
    refine ⟨_, (PSs.nox (pss_cons (ps_setDc (i := 2) (own := [("stand", 4)]) (g := (gName 4)) (tt := tYes) rfl sc_led_to.nd rfl rfl (sw_trueD rfl rfl rfl (by decide +kernel)) (pi_list (pv 1)) (blkOk_by (own := [("stand", 4)]) (N := ["steps", "begins", "found", "waiting", "stand", "begun", "_", "end"]) (sc := defScope s_led_to) (by decide +kernel)) (fun _ _ _ _ _ => (pg_name (i := 4) sc_led_to.nd rfl (Or.inl rfl))) (fun _ _ _ _ _ => pts_nil) (fun _ _ _ _ _ => (pv 4)) (fun _ _ _ _ _ => pe_bl))
  (pss_cons (ps_set (i := 3) sc_led_to.nd rfl (Or.inl rfl) (pe_callTy call_list_of (by rfl) T.z_list PySem.Pv.boot_list (pa_cons (pv 1) pa_nil)))
  (pss_cons (ps_while PassesOwn.never (pt_truth (pv 3) (fun _ => rfl))
  (pss_cons (ps_set (i := 4) sc_led_to.nd rfl (Or.inl rfl) (pe_bm0 PySem.F.plainAttrs_list PySem.F.slot_list_pop PySem.F.type_list_pop mt_pop (pv 3)))
  (pss_one (ps_for PassesOwn.never rfl (pi_sq (pv 0)) (pg_tup rfl (pgs_cons (pg_name (i := 5) sc_led_to.nd rfl (Or.inl rfl)) (pgs_cons (pg_name (i := 6) sc_led_to.nd rfl (Or.inl rfl)) (pgs_cons (pg_name (i := 7) sc_led_to.nd rfl (Or.inl rfl)) (pgs_cons (pg_name (i := 6) sc_led_to.nd rfl (Or.inl rfl)) pgs_nil)))))
  (pss_one (ps_if (PW.pt (pw_and (pt_cmpR op_eq (pv 5) (pv 4) (nomark _)) (pw_and1 (pt_cmp (pc_dnotin (hu_of hr) (pv 7) (pv 2)) (by rfl)))))
  (pss_cons (ps_dput (hu_of hr) (pv 2) (pv 7) pe_bl rfl)
  (pss_one (ps_expr (pe_bm PySem.F.plainAttrs_list PySem.F.slot_list_append PySem.F.type_list_append mt_append (pv 3) (pa_cons (pv 7) pa_nil)))))
  pss_nil))))))
  (pss_one (ps_ret (pe_callB (call_sortedDI rfl) (by rfl) T.z_sorted (by decide +kernel) (pa_cons (pv 2) pa_nil)))))))), ?_⟩
    walk_at "begin"
    walk_at "go"
    refine ⟨p, rfl, ⟨_, SqL.of hp⟩, fun D hD => ?_⟩
    refine dc_lst (xs := nats l) (fun i H' => Same H H' ∧ ∃ F, H' D = some (.dK (fkv F)) ∧ F.length ≤ i ∧ F.Nodup ∧ (∀ n, n ∈ F ↔ n ∈ l.take i)) ⟨Same.new hD, [], upd_same, Nat.le_refl _, .nil, fun n => by simp⟩
      (fun i H' _ ⟨z, _⟩ => z.seq (SqL.of hp)) ?_ ?_
    · rintro i y H1 hy ⟨z, F, eF, lF, nF, mF⟩
      obtain ⟨n, hn, rfl⟩ := nats_at hy
      walk_at "go"
      refine ⟨rfl, ?_⟩
      walk_at "go"
      refine iteT ?_
      walk_at "go"
      have il := (List.getElem?_eq_some_iff.mp hn).1
      refine ⟨_, .inl (n : Int), rfl, eF, ?_, ?_⟩
      · have : (fkv F).length < 1000 := by unfold fkv; rw [List.length_map]; omega
        exact Nat.lt_trans this (by decide)
      · refine ⟨Same.mut z hD, addN F n, by rw [upd_same, putK_fkv], ?_, addN_nodup nF, fun q => ?_⟩
        · unfold addN
          split
          · omega
          · rw [List.length_append, List.length_singleton]; omega
        · rw [addN_mem, mF q, List.take_add_one, hn, List.mem_append]
          simp
    · rintro H1 ⟨z, F, eF, lF, nF, mF⟩
      have tl : l.take (nats l).length = l := by unfold nats; rw [List.length_map, List.take_length]
      rw [tl] at mF
      walk_at "go"
      refine ⟨p, _, rfl, .inl (z.seq (SqL.of hp)), fun B hB => ?_⟩
      have nDB : D ≠ B := ne_of_none eF hB
      have hB0 : H B = none := by
        cases q : H B with
        | none => rfl
        | some ob => rw [z _ _ q] at hB; cases hB
      have L0 : Led N ss l F l := ⟨nF, fun n h => hl n ((mF n).mp h), fun n h => .base ((mF n).mp h), fun n h => (mF n).mpr h, fun n h => (mF n).mpr h⟩
      have C0 : Closed ss F l := fun st _ h1 h2 => absurd ((mF _).mp h1) h2
      walk_at "go"
      refine k_whl (fun q σ H' => ∃ F Wt a4 a5 a6 a7, q = 2 * (64 - F.length) + Wt.length ∧ Same H H' ∧ H' D = some (.dK (fkv F)) ∧ H' B = some (.lst (nats Wt)) ∧ Led N ss l F Wt ∧ Closed ss F Wt ∧ q ≤ 500 ∧
        σ = [some (.ref t), some (.ref p), some (.ref D), some (.ref B), a4, a5, a6, a7]) ⟨_, F, l, none, none, none, none, rfl, Same.mut z hB0, by rw [upd_ne nDB]; exact eF, upd_same, L0, C0, by omega, rfl⟩ ?_
        (fun σ H R R' h ⟨v, e, c, t, q⟩ => ⟨v, e, c, t, h _ _ q⟩)
      rintro q σ H2 ⟨F, Wt, a4, a5, a6, a7, rfl, z, eF, eB, L, C, lW, rfl⟩
      clear mF nF lF L0 C0
      refine k_var rfl ⟨_, .inl ⟨_, SqL.of eB, rfl⟩, ?_⟩
      rcases List.eq_nil_or_concat Wt with rfl | ⟨W', st, eW⟩
      · refine iteF ?_
        walk_at "go"
        have nk : (fkv F).map (·.1) = (F.map fun n : Nat => (n : Int)).map Sum.inl := by unfold fkv; rw [List.map_map, List.map_map]; rfl
        have f8 := nodup_small L.nd L.bd
        refine ⟨D, fkv F, F.map fun n : Nat => (n : Int), rfl, .inl eF, nk, by rw [List.length_map]; have := o.n64; omega, fun ys q perm up hq => ?_⟩
        -- the sorted keys are stands again
        obtain ⟨F', rfl⟩ : ∃ F' : List Nat, ys = F'.map fun n : Nat => (n : Int) := by
          have all : ∀ y ∈ ys, ∃ n : Nat, y = (n : Int) := fun y hy => by
            have := perm.mem_iff.mp hy
            obtain ⟨n, _, rfl⟩ := List.mem_map.mp this
            exact ⟨n, rfl⟩
          clear perm up hq
          induction ys with
          | nil => exact ⟨[], rfl⟩
          | cons y ys ih =>
            obtain ⟨n, rfl⟩ := all y List.mem_cons_self
            obtain ⟨F', e⟩ := ih fun y hy => all y (List.mem_cons_of_mem _ hy)
            exact ⟨n :: F', by rw [e]; rfl⟩
        have mem : ∀ n, n ∈ F' ↔ n ∈ F := fun n => by
          have := perm.mem_iff (a := (n : Int))
          constructor
          · intro h
            have h2 := this.mp (List.mem_map.mpr ⟨n, h, rfl⟩)
            obtain ⟨n', h3, e⟩ := List.mem_map.mp h2
            have : n' = n := by exact_mod_cast e
            rw [← this]; exact h3
          · intro h
            have h2 := this.mpr (List.mem_map.mpr ⟨n, h, rfl⟩)
            obtain ⟨n', h3, e⟩ := List.mem_map.mp h2
            have : n' = n := by exact_mod_cast e
            rw [← this]; exact h3
        have inj : ∀ a b : Nat, (a : Int) = (b : Int) → a = b := fun a b e => by exact_mod_cast e
        have nd' : (F'.map fun n : Nat => (n : Int)).Nodup := perm.nodup_iff.mpr (List.Pairwise.map _ (fun a b h e => h (inj a b e)) L.nd)
        have hq0 : H q = none := by
          cases e : H q with
          | none => rfl
          | some ob => rw [z _ _ e] at hq; cases hq
        refine k q F' _ (z.trans (Same.new hq)) hq0 ?_ (fun n => ?_) ?_
        · rw [upd_same]
          unfold nats
          rw [List.map_map]
          rfl
        · rw [mem n]
          refine ⟨L.re n, fun h => ?_⟩
          induction h with
          | base h => exact L.bas _ h
          | step h _ ih => exact C _ h ih (by simp)
        · have up' : (F'.map fun n : Nat => (n : Int)).Pairwise (· < ·) := by
            have := List.Pairwise.and up nd'
            exact this.imp fun ⟨h1, h2⟩ => by omega
          rw [List.pairwise_map] at up'
          exact up'.imp fun h => by omega
      · rw [List.concat_eq_append] at eW
        subst eW
        have ne : nats (W' ++ [st]) = nats W' ++ [.int (st : Nat)] := nats_snoc W' st
        rw [ne] at eB ⊢
        have ql : (W' ++ [st]).length = W'.length + 1 := by rw [List.length_append]; rfl
        rw [ql] at lW ⊢
        obtain ⟨q0, hq0⟩ : ∃ q0, q0 = 2 * (64 - F.length) + (W'.length + 1) := ⟨_, rfl⟩
        rw [← hq0] at lW ⊢
        refine k_yes (by simp) ?_
        walk_at "go"
        refine ⟨.inl ⟨rfl, _, SqL.of eB⟩, B, _, .int (st : Nat), rfl, rfl, eB, by simp, ?_⟩
        rw [List.dropLast_concat]
        have z3 : Same H (upd H2 B (.lst (nats W'))) := Same.mut z hB0
        have t3 := same_tups z3
        have stF : st ∈ F := L.sub _ (by simp)
        walk_at "go"
        refine for_sq (xs := us) rfl ht (fun i σ H' => ∃ F Wt a5 a6 a7, 2 * (64 - F.length) + Wt.length + 1 ≤ q0 ∧ Same H H' ∧ H' D = some (.dK (fkv F)) ∧ H' B = some (.lst (nats Wt)) ∧ Led N ss l F Wt ∧ st ∈ F ∧
          (∀ s ∈ ss, s.b ∈ F → s.b ∉ Wt → s.b ≠ st → s.e ∈ F) ∧ (∀ s ∈ ss.take i, s.b = st → s.e ∈ F) ∧
          σ = [some (.ref t), some (.ref p), some (.ref D), some (.ref B), some (.int (st : Nat)), a5, a6, a7])
          ⟨F, W', _, _, _, by omega, z3, by rw [upd_ne nDB]; exact eF, upd_same, ⟨L.nd, L.bd, L.re, fun n h => L.sub n (by simp [h]), L.bas⟩, stF, fun s hs h1 h2 h3 => C s hs h1 (by simp [h2, h3]), fun s h => by simp at h, rfl⟩
          (fun i σ H' ⟨_, _, _, _, _, _, z, _⟩ => z) ?_ ?_
        · clear eF eB L C z z3 t3 stF ql hq0 ne
          rintro i y σ H3 hy ⟨F, Wt, a5, a6, a7, le, z, eF, eB, L, stF, C1, C2, rfl⟩
          have il : i < ss.length := by rw [← hs.1]; exact (List.getElem?_eq_some_iff.mp hy).1
          have ei : ss[i]? = some (ss[i]'il) := List.getElem?_eq_getElem il
          obtain ⟨q, eq, hq⟩ := hs.2 i _ ei
          rw [hy] at eq
          cases eq
          have ok1 := o.ok _ (List.getElem_mem il)
          have im : ss[i]'il ∈ ss := List.getElem_mem il
          have tk : ∀ s, s ∈ ss.take (i + 1) ↔ s ∈ ss.take i ∨ s = ss[i]'il := fun s => by rw [List.take_add_one, ei, List.mem_append]; simp
          generalize ss[i]'il = s0 at hq ok1 im tk
          have dg : DGet H3 D (.int (s0.e : Nat)) (valV (fkv F) (.inl (s0.e : Int))) := DGet.k (k := .inl (s0.e : Int)) eF
          refine k_gt ((same_tups z).sq hq) rfl ?_
          unfold stpV
          walk_at "go"
          refine k_ite (fun c => ?_) (fun c => ?_)
          · have c' : s0.b = st := by
              injection c with c
              omega
            walk_at "go"
            refine ⟨D, _, rfl, dg, ?_⟩
            walk_at "go"
            rw [valV_fkv]
            by_cases d : s0.e ∈ F
            · rw [if_pos d]
              refine iteF ?_
              walk_at "go"
              exact ⟨F, Wt, _, _, _, le, z, eF, eB, L, stF, C1, fun s h e => by
                rcases (tk s).mp h with h | rfl
                · exact C2 s h e
                · exact d, rfl⟩
            · rw [if_neg d]
              refine iteT ?_
              walk_at "go"
              have ad : addN F s0.e = F ++ [s0.e] := if_neg d
              have f8 : (fkv F).length < sizeLine := by
                have := nodup_small L.nd L.bd
                have := o.n64
                have : (fkv F).length < 1000 := by unfold fkv; rw [List.length_map]; omega
                exact Nat.lt_trans this (by decide)
              have w8 : (nats Wt).length < sizeLine := by
                have : (nats Wt).length < 1000 := by unfold nats; rw [List.length_map]; omega
                exact Nat.lt_trans this (by decide)
              refine ⟨D, _, rfl, DPut.k (k := .inl (s0.e : Int)) eF f8, ?_⟩
              rw [putK_fkv, ad]
              have eB3 : (upd H3 D (.dK (fkv (F ++ [s0.e])))) B = some (.lst (nats Wt)) := by rw [upd_ne nDB.symm]; exact eB
              walk_at "go"
              refine ⟨.inl ⟨rfl, _, SqL.of eB3⟩, ?_⟩
              walk_at "go"
              refine k_append eB3 w8 ?_
              rw [← nats_snoc]
              have nd2 : (F ++ [s0.e]).Nodup := by rw [← ad]; exact addN_nodup L.nd
              have bd2 : ∀ n ∈ F ++ [s0.e], n < N := fun n h => by
                rcases List.mem_append.mp h with h | h
                · exact L.bd n h
                · rw [List.mem_singleton.mp h]; exact ok1.e
              refine ⟨F ++ [s0.e], Wt ++ [s0.e], _, _, _, ?_, Same.mut (Same.mut z hD) hB0, by rw [upd_ne nDB, upd_same], upd_same, ⟨nd2, bd2, ?_, ?_, fun n h => List.mem_append_left _ (L.bas n h)⟩, List.mem_append_left _ stF, ?_, ?_, rfl⟩
              · have := nodup_small nd2 bd2
                have := o.n64
                rw [List.length_append, List.length_append, List.length_singleton] at *
                omega
              · intro n h
                rcases List.mem_append.mp h with h | h
                · exact L.re n h
                · rw [List.mem_singleton.mp h]
                  exact .step im (L.re _ (by rw [c']; exact stF))
              · intro n h
                rcases List.mem_append.mp h with h | h
                · exact List.mem_append_left _ (L.sub n h)
                · exact List.mem_append_right _ h
              · intro s hs h1 h2 h3
                rcases List.mem_append.mp h1 with h1 | h1
                · exact List.mem_append_left _ (C1 s hs h1 (fun z => h2 (List.mem_append_left _ z)) h3)
                · exact absurd (List.mem_append_right _ h1) h2
              · intro s h e
                rcases (tk s).mp h with h | rfl
                · exact List.mem_append_left _ (C2 s h e)
                · exact List.mem_append_right _ (List.mem_singleton.mpr rfl)
          · refine iteF ?_
            walk_at "go"
            refine ⟨F, Wt, _, _, _, le, z, eF, eB, L, stF, C1, fun s h e => ?_, rfl⟩
            rcases (tk s).mp h with h | rfl
            · exact C2 s h e
            · exact absurd (show V.int (s.b : Nat) = V.int (st : Nat) by rw [e]) c
        · rintro σ H3 ⟨F, Wt, a5, a6, a7, le, z, eF, eB, L, stF, C1, C2, rfl⟩
          rw [hs.1, List.take_length] at C2
          refine ⟨_, ?_, F, Wt, _, _, _, _, rfl, z, eF, eB, L, fun s hs h1 h2 => ?_, by omega, rfl⟩
          · omega
          · by_cases c : s.b = st
            · exact C2 s hs c
            · exact C1 s hs h1 h2 c
end
/-! ### the best rows of all -/
def lvl (sg : Int) (ss : List Stp) : Nat → RF
  | 0 => fun n => if n = 0 then some (0, []) else none
  | i + 1 => longer sg (lvl sg ss i) ss
def bst (sg : Int) (ss : List Stp) : Nat → RF
  | 0 => fun _ => none
  | i + 1 => fun n => if impr (lvl sg ss i) (bst sg ss i) n = true then lvl sg ss i n else bst sg ss i n
theorem longer_ind {sg : Int} {f : RF} {ss : List Stp} {P : Nat → Int × Wd → Prop} (h : ∀ s ∈ ss, ∀ y, f s.b = some y → P s.e (y.1 + sg * s.g, y.2 ++ [s.c])) : ∀ n y, longer sg f ss n = some y → P n y := by
  have gen : ∀ (ss' : List Stp) (acc : RF), (∀ s ∈ ss', s ∈ ss) → (∀ n y, acc n = some y → P n y) → ∀ n y, ss'.foldl (turnL sg f) acc n = some y → P n y := by
    intro ss'
    induction ss' with
    | nil => exact fun acc _ ha => ha
    | cons s r ih =>
      intro acc sub ha
      refine ih (turnL sg f acc s) (fun t ht => sub t (List.mem_cons_of_mem _ ht)) fun n y e => ?_
      unfold turnL at e
      cases fb : f s.b with
      | none => rw [fb] at e; exact ha n y e
      | some v =>
        rw [fb] at e
        dsimp only at e
        split at e
        · unfold RF.put at e
          split at e
          · rename_i q
            cases e
            rw [q]
            exact h s (sub s List.mem_cons_self) v fb
          · exact ha n y e
        · exact ha n y e
  exact gen ss _ (fun _ h => h) fun _ _ e => nomatch e
theorem lvl_sok {sg : Int} {N : Nat} {ss : List Stp} (o : SsOk N ss) : ∀ i n y, lvl sg ss i n = some y → n < N ∧ y.2.length = i
  | 0, n, y, e => by
    unfold lvl at e
    split at e
    · rename_i q
      cases e
      exact ⟨by rw [q]; exact o.n1, rfl⟩
    · cases e
  | i + 1, n, y, e => longer_ind (P := fun n y => n < N ∧ y.2.length = i + 1) (fun s hs v ev => ⟨(o.ok s hs).e, by rw [List.length_append, (lvl_sok o i _ _ ev).2]; rfl⟩) n y e
theorem lvl_ok {sg : Int} {m : MD} (o : m.Ok) : ∀ i n y, lvl sg m.ss i n = some y → n < m.n ∧ y.2.length = i := lvl_sok o.sok
def endE : List V := [.str "endless", .non]
def sp_best (K : PySem.W.Frag) : Sp := fun vs H Q _ => ∃ (t : Addr) (sg : Int) (N : Nat) (ss : List Stp), vs = [.int (N : Nat), .ref t, .int sg] ∧ StSq K H t ss ∧ SsOk N ss ∧ Sgn sg ∧
  ∀ p kvs H' (l L : List Nat), Same H H' → H p = none → H' p = some (.dK kvs) → (∀ n, n ∈ l ↔ impr (lvl sg ss N) (bst sg ss N) n = true) → (∀ n, n ∈ L ↔ Reach ss l n) →
    KvOk K H' kvs (fun n => if n ∈ L then some endE else E2 (bst sg ss N) n) → Q (.ref p) H'
section
variable {P : Program} {w : World} {K : PySem.W.Frag} {mg : Str → Option Value} {base : Heap}
theorem ok_best_rows (T : Txt K mg) : FnOk P w K mg base (L2.CX P w) 4 T.a_best_rows T.fd_best_rows ["many", "steps", "sign"] (sp_best K) := by
  refine T.F_best_rows.okX sc_best_rows (fun vs H Q E h => ?_) (fun cdv A outer s H vs Q E hr h => ?_)
  · obtain ⟨t, sg, N, ss, rfl, _⟩ := h
    rfl
  · obtain ⟨t, sg, N, ss, rfl, hm, o, hsg, k⟩ := h
    refine ⟨_, (PSs.nox (pss_cons (ps_set (i := 3) sc_best_rows.nd rfl (Or.inl rfl) pe_dnewK)
  (pss_cons (ps_set (i := 4) sc_best_rows.nd rfl (Or.inl rfl) (pe_disp (pps_cons pe_int (pe_tup (pa_cons pe_int (pa_cons pe_str pa_nil))) pps_nil) (by rfl) (by rfl) (fun z => by cases z) (by decide)))
  (pss_cons (ps_for PassesOwn.never rfl (pi_range1 (by rfl) T.z_range (pa_cons (pv 0) pa_nil)) (pg_name (i := 5) sc_best_rows.nd rfl (Or.inl rfl))
  (pss_cons (ps_set (i := 6) sc_best_rows.nd rfl (Or.inl rfl) (pe_call (ok_improved T) (hr.mono (by decide)) (by rfl) T.m_improved T.k_improved T.b_improved .nil passL (pa_cons (pv 4) (pa_cons (pv 3) pa_nil))))
  (pss_cons (ps_for PassesOwn.never rfl (pi_list (pv 6)) (pg_name (i := 7) sc_best_rows.nd rfl (Or.inl rfl))
  (pss_one (ps_dput (hu_of hr) (pv 3) (pv 7) (pe_dget (hu_of hr) (pv 4) (pv 7) (fun _ _ => rfl)) rfl)))
  (pss_one (ps_set (i := 4) sc_best_rows.nd rfl (Or.inl rfl) (pe_call (ok_longer_rows T) (hr.mono (by decide)) (by rfl) T.m_longer_rows T.k_longer_rows T.b_longer_rows .nil passL (pa_cons (pv 1) (pa_cons (pv 2) (pa_cons (pv 4) pa_nil)))))))))
  (pss_cons (ps_set (i := 8) sc_best_rows.nd rfl (Or.inl rfl) (pe_call (ok_led_to T) (hr.mono (by decide)) (by rfl) T.m_led_to T.k_led_to T.b_led_to .nil passL (pa_cons (pv 1) (pa_cons (pe_call (ok_improved T) (hr.mono (by decide)) (by rfl) T.m_improved T.k_improved T.b_improved .nil passL (pa_cons (pv 4) (pa_cons (pv 3) pa_nil))) pa_nil))))
  (pss_cons (ps_for PassesOwn.never rfl (pi_list (pv 8)) (pg_name (i := 7) sc_best_rows.nd rfl (Or.inl rfl))
  (pss_one (ps_dput (hu_of hr) (pv 3) (pv 7) (pe_tup (pa_cons (pe_glob (by rfl) T.m_ENDLESS T.r_ENDLESS) (pa_cons pe_non pa_nil))) rfl)))
  (pss_one (ps_ret (pv 3))))))))), ?_⟩
    walk_at "begin"
    walk_at "go"
    intro D hD
    walk_at "go"
    intro r hr0
    walk_at "go"
    refine ⟨(by decide : 2 ≤ sizeLine), fun q hq => ?_⟩
    walk_at "go"
    have nDr : D ≠ r := ne_of_none (upd_same (H := H) (o := .dK [])) hr0
    have nrq : r ≠ q := ne_of_none upd_same hq
    have nDq : D ≠ q := fun e => by rw [← e, upd_ne nDr, upd_same] at hq; cases hq
    have hr1 : H r = none := by rw [upd_ne nDr.symm] at hr0; exact hr0
    have z1 : Same H (upd (upd (upd H D (.dK [])) r (.dK [])) q (.tup [.int 0, .str ""])) := ((Same.new hD).trans (Same.new hr0)).trans (Same.new hq)
    refine ⟨by rw [upd_ne nrq, upd_same], [(.inl 0, .ref q)], rfl, (by decide : 1 ≤ 15), ?_⟩
    have em : mergeK [] [((.inl 0 : Key), V.ref q)] = [(.inl 0, .ref q)] := rfl
    rw [em]
    have z2 := Same.mut (o := .dK [(.inl 0, .ref q)]) z1 hr1
    generalize hH1 : upd (upd (upd (upd H D (.dK [])) r (.dK [])) q (.tup [.int 0, .str ""])) r (.dK [(.inl 0, .ref q)]) = H1 at z2 ⊢
    have eD1 : H1 D = some (.dK []) := by rw [← hH1, upd_ne nDr, upd_ne nDq, upd_ne nDr, upd_same]
    have er1 : H1 r = some (.dK [(.inl 0, .ref q)]) := by rw [← hH1, upd_same]
    have eq1 : H1 q = some (.tup [.int 0, .str ""]) := by rw [← hH1, upd_ne nrq.symm, upd_same]
    have ok0 : KvOk K H1 [(.inl 0, .ref q)] (E2 (lvl sg ss 0)) := by
      have := KvOk.put (n := 0) (KvOk.nil (K := K) (H := H1)) (l := ent2 (0, [])) (SqT.of eq1)
      refine KvOk.congr this fun n => ?_
      unfold E2 lvl
      by_cases c : n = 0
      · rw [if_pos c, if_pos c]; rfl
      · rw [if_neg c, if_neg c]; rfl
    clear hH1 z1 em hq hr0 nrq nDq eq1
    walk_at "go"
    have n8 := o.n64
    refine k_rg (by omega) (by omega) ?_
    refine for_range (lo := 0) (n := (((N : Nat) : Int)).toNat) (fun i σ H' => ∃ kvD kvR r a4 a5 a6 a7, Same H H' ∧ H' D = some (.dK kvD) ∧ KvOk K H' kvD (E2 (bst sg ss i)) ∧ kvD.length ≤ 300 * i ∧ H' r = some (.dK kvR) ∧ KvOk K H' kvR (E2 (lvl sg ss i)) ∧
      kvR.length ≤ 300 ∧ r ≠ D ∧ σ = [some (.int (N : Nat)), some (.ref t), some (.int sg), some (.ref D), some (.ref r), a4, a5, a6, a7])
      ⟨[], _, r, none, none, none, none, z2, eD1, KvOk.nil, Nat.le_refl _, er1, ok0, (by decide : 1 ≤ 300), nDr.symm, rfl⟩ ?_ ?_
    · clear z2 eD1 er1 ok0 nDr hr1
      rintro i σ H2 hi ⟨kvD, kvR, r, a4, a5, a6, a7, z, eD, okD, lD, er, okR, lR, ne, rfl⟩
      have im : i < N := hi
      walk_at "go"
      refine ⟨r, D, _, _, kvR, kvD, rfl, er, okR, eD, okD, ne, by omega, fun p l H3 z3 hp0 ep mem ll => ?_⟩
      walk_at "go"
      have nDp : D ≠ p := ne_of_none eD hp0
      refine ⟨p, rfl, ⟨_, SqL.of ep⟩, for_list (xs := nats l) (fun j σ H' => ∃ kvD' a6, Same H H' ∧ H' D = some (.dK kvD') ∧ KvOk K H' kvD' (E2 fun n => if n ∈ l.take j then lvl sg ss i n else bst sg ss i n) ∧ kvD'.length ≤ 300 * i + j ∧
        H' r = some (.dK kvR) ∧ KvOk K H' kvR (E2 (lvl sg ss i)) ∧ H' p = some (.lst (nats l)) ∧ σ = [some (.int (N : Nat)), some (.ref t), some (.int sg), some (.ref D), some (.ref r), some (.int (0 + (i : Nat))), some (.ref p), a6, a7])
        ⟨kvD, a6, z.trans z3, z3 _ _ eD, (okD.tups (same_tups z3)).congr fun n => by simp [E2], by omega, z3 _ _ er, okR.tups (same_tups z3), ep, rfl⟩ (fun _ _ _ _ ⟨_, _, _, _, _, _, _, _, h, _⟩ => SqL.of h) ?_ ?_⟩
      · rintro j y σ H4 hy ⟨kvD', a6, z4, eD4, ok4, l4, er4, okR4, ep4, rfl⟩
        obtain ⟨n, hn, rfl⟩ := nats_at hy
        have jl : j < l.length := (List.getElem?_eq_some_iff.mp hn).1
        have nm := (mem n).mp (List.mem_of_getElem? hn)
        obtain ⟨yv, ey⟩ : ∃ y, lvl sg ss i n = some y := by
          unfold impr at nm
          cases e : lvl sg ss i n with
          | none => rw [e] at nm; cases nm
          | some y => exact ⟨y, rfl⟩
        obtain ⟨p4, ep4', sp4⟩ := (okR4.2 n).2 (ent2 yv) (by unfold E2; rw [ey]; rfl)
        have dg : DGet H4 r (.int (n : Nat)) (valV kvR (.inl (n : Int))) := DGet.k (k := .inl (n : Int)) er4
        rw [ep4'] at dg
        walk_at "go"
        refine ⟨r, _, rfl, dg, ?_⟩
        walk_at "go"
        refine ⟨D, _, rfl, DPut.k (k := .inl (n : Int)) eD4 (Nat.lt_trans (show kvD'.length < 30000 by omega) (by decide)), ?_⟩
        refine ⟨_, _, Same.mut z4 hD, upd_same, ?_, by have := length_putK kvD' (.inl (n : Int)) (V.ref p4); omega, by rw [upd_ne ne]; exact er4, okR4.tups (Tups.dk eD4), by rw [upd_ne nDp.symm]; exact ep4, rfl⟩
        refine ((KvOk.put (n := n) ok4 sp4).tups (Tups.dk eD4)).congr fun n' => ?_
        have m1 : n' ∈ l.take (j + 1) ↔ n' ∈ l.take j ∨ n' = n := by rw [List.take_add_one, hn, List.mem_append]; simp
        unfold E2
        dsimp only
        by_cases c : n' = n
        · rw [if_pos c, if_pos (m1.mpr (.inr c)), c, ey]
          rfl
        · rw [if_neg c]
          by_cases d : n' ∈ l.take j
          · rw [if_pos d, if_pos (m1.mpr (.inl d))]
          · rw [if_neg d, if_neg (fun z => by rcases m1.mp z with z | z; exact d z; exact c z)]
      · rintro σ H4 ⟨kvD', a6, z4, eD4, ok4, l4, er4, okR4, ep4, rfl⟩
        have tl : l.take (nats l).length = l := by unfold nats; rw [List.length_map, List.take_length]
        rw [tl] at ok4
        have ll' : (nats l).length = l.length := by unfold nats; rw [List.length_map]
        walk_at "go"
        refine ⟨t, r, sg, N, ss, _, kvR, rfl, hm.same z4, o, er4, okR4, hsg, fun n y e => by have := (lvl_sok o i n y e).2; omega, fun p' kvs' H5 z5 hp5 ep5 ok5 l5 => ?_⟩
        walk_at "go"
        refine ⟨kvD', kvs', p', _, _, _, _, z4.trans z5, z5 _ _ eD4, (ok4.tups (same_tups z5)).congr fun n => ?_, by omega, ep5, ok5, l5, (ne_of_none eD4 hp5).symm, rfl⟩
        unfold E2
        show Option.map ent2 (if n ∈ l then lvl sg ss i n else bst sg ss i n) = Option.map ent2 (if impr (lvl sg ss i) (bst sg ss i) n = true then lvl sg ss i n else bst sg ss i n)
        by_cases c : n ∈ l
        · rw [if_pos c, if_pos ((mem n).mp c)]
        · rw [if_neg c, if_neg fun q => c ((mem n).mpr q)]
    · clear z2 eD1 er1 ok0 nDr hr1
      rintro σ H2 ⟨kvD, kvR, r, a4, a5, a6, a7, z, eD, okD, lD, er, okR, lR, ne, rfl⟩
      have nn : (((N : Nat) : Int)).toNat = N := rfl
      rw [nn] at okD okR lD
      walk_at "go"
      refine ⟨r, D, _, _, kvR, kvD, rfl, er, okR, eD, okD, ne, by omega, fun p l H3 z3 hp0 ep mem ll => ?_⟩
      walk_at "go"
      have lb : ∀ n ∈ l, n < N := fun n h => by
        have nm := (mem n).mp h
        unfold impr at nm
        cases e : lvl sg ss N n with
        | none => rw [e] at nm; cases nm
        | some y => exact (lvl_sok o _ _ _ e).1
      refine ⟨t, p, N, ss, l, rfl, hm.same (z.trans z3), o, ep, lb, ll, fun q L H4 z4 hq0 eq mL up => ?_⟩
      have nDq : D ≠ q := ne_of_none (z3 _ _ eD) hq0
      have lL : L.length ≤ 64 := by
        have nd : L.Nodup := up.imp fun h => Nat.ne_of_lt h
        have b : ∀ n ∈ L, n < N := fun n h => by
          have hr2 := (mL n).mp h
          clear h
          induction hr2 with
          | base h => exact lb _ h
          | step hs _ _ => exact (o.ok _ hs).e
        have := nodup_small nd b
        omega
      walk_at "go"
      refine ⟨q, rfl, ⟨_, SqL.of eq⟩, for_list (xs := nats L) (fun j σ H' => ∃ kvD' a6, Same H H' ∧ H' D = some (.dK kvD') ∧ KvOk K H' kvD' (fun n => if n ∈ L.take j then some endE else E2 (bst sg ss N) n) ∧ kvD'.length ≤ 20000 + j ∧
        H' q = some (.lst (nats L)) ∧ σ = [some (.int (N : Nat)), some (.ref t), some (.int sg), some (.ref D), some (.ref r), a4, a5, a6, some (.ref q)])
        ⟨kvD, a6, (z.trans z3).trans z4, z4 _ _ (z3 _ _ eD), (okD.tups (same_tups (z3.trans z4))).congr fun n => by simp, by omega, eq, rfl⟩ (fun _ _ _ _ ⟨_, _, _, _, _, _, h, _⟩ => SqL.of h) ?_ ?_⟩
      · rintro j y σ H5 hy ⟨kvD', a6, z5, eD5, ok5, l5, eq5, rfl⟩
        obtain ⟨n, hn, rfl⟩ := nats_at hy
        have jl : j < L.length := (List.getElem?_eq_some_iff.mp hn).1
        walk_at "go"
        refine ⟨(by decide : 2 ≤ sizeLine), fun pn hpn => ?_⟩
        walk_at "go"
        have eD6 : (upd H5 pn (.tup [.str "endless", .non])) D = some (.dK kvD') := by rw [upd_ne (ne_of_none eD5 hpn)]; exact eD5
        have eq6 : (upd H5 pn (.tup [.str "endless", .non])) q = some (.lst (nats L)) := by rw [upd_ne (ne_of_none eq5 hpn)]; exact eq5
        refine ⟨D, _, rfl, DPut.k (k := .inl (n : Int)) eD6 (Nat.lt_trans (show kvD'.length < 30000 by omega) (by decide)), ?_⟩
        refine ⟨_, _, Same.mut (z5.trans (Same.new hpn)) hD, upd_same, ?_, by have := length_putK kvD' (.inl (n : Int)) (V.ref pn); omega, by rw [upd_ne nDq.symm]; exact eq6, rfl⟩
        refine ((KvOk.put (n := n) (ok5.tups (Tups.new hpn)) (l := endE) (SqT.of upd_same)).tups (Tups.dk eD6)).congr fun n' => ?_
        have m1 : n' ∈ L.take (j + 1) ↔ n' ∈ L.take j ∨ n' = n := by rw [List.take_add_one, hn, List.mem_append]; simp
        by_cases c : n' = n
        · rw [if_pos c, if_pos (m1.mpr (.inr c))]
        · rw [if_neg c]
          by_cases d : n' ∈ L.take j
          · rw [if_pos d, if_pos (m1.mpr (.inl d))]
          · rw [if_neg d, if_neg (fun z => by rcases m1.mp z with z | z; exact d z; exact c z)]
      · rintro σ H5 ⟨kvD', a6, z5, eD5, ok5, l5, eq5, rfl⟩
        have tl : L.take (nats L).length = L := by unfold nats; rw [List.length_map, List.take_length]
        rw [tl] at ok5
        walk_at "go"
        exact k D kvD' H5 l L z5 hD eD5 mem mL ok5
end
/-! ### a machine is one -/
def sp_check_machine (C : Addr) : Sp := fun vs H Q _ => ∃ x dx fs, vs = [.ref x] ∧ H x = some (.ins C dx fs) ∧ Q .non H
section
variable {P : Program} {w : World} {K : PySem.W.Frag} {mg : Str → Option Value} {base : Heap}
theorem ty_Machine (T : Txt K mg) {H : Hp} {x dx : Addr} {fs : List (Str × V)} (h : H x = some (.ins T.c_Machine dx fs)) : TyX K H (.ref x) (.ref T.c_Machine) := .base (.ins h T.cl_Machine T.i1_Machine T.i2_Machine T.i3_Machine T.i4_Machine)
theorem kit_self {C : Addr} : PySem.W.kitOne K (.ref C) (.ref C) = some true := by
  unfold PySem.W.kitOne
  rw [if_pos (by simp)]
theorem ok_check_machine (T : Txt K mg) : FnOk P w K mg base (L2.CX P w) 1 T.a_check_machine T.fd_check_machine ["value"] (sp_check_machine T.c_Machine) := by
  refine T.F_check_machine.okX sc_check_machine (fun vs H Q E h => ?_) (fun cdv A outer s H vs Q E hr h => ?_)
  · obtain ⟨x, dx, fs, rfl, _⟩ := h
    rfl
  · obtain ⟨x, dx, fs, rfl, hx, k⟩ := h
    refine ⟨_, (PSs.nox (pss_one (ps_if (pt_not (pt_val (pe_callB call_isi (by rfl) T.z_isinstance (by decide +kernel) (pa_cons (pv 0) (pa_cons (pe_glob (v := .ref T.c_Machine) (by rfl) T.m_Machine rfl) pa_nil)))))
  (pss_one ps_never)
  pss_nil))), ?_⟩
    walk_at "begin"
    walk_at "go"
    refine k_isi (.own _) (ty_Machine T hx) kit_self ?_
    walk_at "go"
    refine iteF ?_
    walk_at "go"
    exact k
end
/-! ### least and greatest tallies and their rows at a stand -/
theorem lvl_small {sg : Int} {m : MD} (o : m.Ok) (hsg : sg = 1 ∨ sg = -1) : ∀ i n y, lvl sg m.ss i n = some y → -(i * 10 ^ 30 : Int) ≤ y.1 ∧ y.1 ≤ i * 10 ^ 30
  | 0, n, y, e => by
    unfold lvl at e
    split at e
    · cases e; exact ⟨by decide, by decide⟩
    · cases e
  | i + 1, n, y, e => longer_ind (P := fun n y => -(((i + 1 : Nat) : Int) * 10 ^ 30) ≤ y.1 ∧ y.1 ≤ ((i + 1 : Nat) : Int) * 10 ^ 30) (fun s hs v ev => by
      have := lvl_small o hsg i _ _ ev
      have := (o.ok s hs).g
      have := (o.ok s hs).g'
      rcases hsg with rfl | rfl
      · constructor <;> dsimp only <;> omega
      · constructor <;> dsimp only <;> omega) n y e
theorem bst_of {sg : Int} {ss : List Stp} : ∀ i n y, bst sg ss i n = some y → ∃ j, j < i ∧ lvl sg ss j n = some y
  | 0, n, y, e => nomatch e
  | i + 1, n, y, e => by
    unfold bst at e
    split at e
    · exact ⟨i, Nat.lt_succ_self _, e⟩
    · obtain ⟨j, h, q⟩ := bst_of i n y e
      exact ⟨j, by omega, q⟩
def impL (sg : Int) (m : MD) : List Nat := (List.range m.n).filter fun n => impr (lvl sg m.ss m.n) (bst sg m.ss m.n) n
theorem mem_impL {sg : Int} {m : MD} (o : m.Ok) (n : Nat) : n ∈ impL sg m ↔ impr (lvl sg m.ss m.n) (bst sg m.ss m.n) n = true := by
  unfold impL
  rw [List.mem_filter, List.mem_range]
  refine ⟨fun h => h.2, fun h => ⟨?_, h⟩⟩
  unfold impr at h
  cases e : lvl sg m.ss m.n n with
  | none => rw [e] at h; cases h
  | some y => exact (lvl_ok o _ _ _ e).1
theorem reach_congr {ss : List Stp} {l l' : List Nat} (h : ∀ n, n ∈ l ↔ n ∈ l') (n : Nat) : Reach ss l n ↔ Reach ss l' n := by
  constructor
  · intro q
    induction q with
    | base q => exact .base ((h _).mp q)
    | step q _ ih => exact .step q ih
  · intro q
    induction q with
    | base q => exact .base ((h _).mpr q)
    | step q _ ih => exact .step q ih
/-- no best tally there -/
def Endl (sg : Int) (m : MD) (n : Nat) : Prop := Reach m.ss (impL sg m) n
open Classical in
noncomputable def bestE (sg : Int) (m : MD) (n : Nat) : Option (List V) := if Endl sg m n then some endE else E2 (bst sg m.ss m.n) n
open Classical in
noncomputable def tallyAt (sg : Int) (m : MD) (n : Nat) : V := if Endl sg m n then .str "endless" else match bst sg m.ss m.n n with
  | none => .non
  | some y => .int (sg * y.1)
open Classical in
noncomputable def rowAt (sg : Int) (m : MD) (n : Nat) : V := if Endl sg m n then .non else match bst sg m.ss m.n n with
  | none => .non
  | some y => .str (sOf y.2)
def sp_check_stand (K : PySem.W.Frag) (C : Addr) : Sp := fun vs H Q _ => ∃ (x : Addr) (n : Nat) (m : MD), vs = [.ref x, .int (n : Nat)] ∧ MAt K C H x m ∧ n < m.n ∧ Q .non H
def sp_at3 (K : PySem.W.Frag) (C : Addr) (f : Int → MD → Nat → V) : Sp := fun vs H Q _ => ∃ (x : Addr) (n : Nat) (sg : Int) (m : MD), vs = [.ref x, .int (n : Nat), .int sg] ∧ MAt K C H x m ∧ m.Ok ∧ n < m.n ∧ (sg = 1 ∨ sg = -1) ∧ ∀ H', Same H H' → Q (f sg m n) H'
def sp_at2 (K : PySem.W.Frag) (C : Addr) (f : MD → Nat → V) : Sp := fun vs H Q _ => ∃ (x : Addr) (n : Nat) (m : MD), vs = [.ref x, .int (n : Nat)] ∧ MAt K C H x m ∧ m.Ok ∧ n < m.n ∧ ∀ H', Same H H' → Q (f m n) H'
section
variable {P : Program} {w : World} {K : PySem.W.Frag} {mg : Str → Option Value} {base : Heap}
theorem bestE_of {sg : Int} {m : MD} {l L : List Nat} (o : m.Ok) (h : ∀ n, n ∈ l ↔ impr (lvl sg m.ss m.n) (bst sg m.ss m.n) n = true) (h2 : ∀ n, n ∈ L ↔ Reach m.ss l n) : (fun n => if n ∈ L then some endE else E2 (bst sg m.ss m.n) n) = bestE sg m := by
  funext n
  unfold bestE Endl
  have e : n ∈ L ↔ Reach m.ss (impL sg m) n := (h2 n).trans (reach_congr (fun k => (h k).trans (mem_impL o k).symm) n)
  by_cases c : n ∈ L
  · rw [if_pos c, if_pos (e.mp c)]
  · rw [if_neg c, if_neg fun z => c (e.mpr z)]
end
/-! ### what the best rows are worth -/
theorem le_of_not {v w : Wd} (h : ¬ w < v) : v ≤ w := h
theorem wd_trans {u v w : Wd} (h : ¬ v < u) (q : ¬ w < v) : ¬ w < u := List.le_trans (le_of_not h) (le_of_not q)
theorem wd_asymm {v w : Wd} (h : v < w) : ¬ w < v := List.lt_asymm h
theorem wd_snoc : ∀ {v w : Wd} {c : Nat}, v.length = w.length → (v ++ [c] < w ++ [c] ↔ v < w)
  | [], [], c, _ => by simp
  | a :: v, b :: w, c, h => by
    have ih := wd_snoc (v := v) (w := w) (c := c) (by simpa using h)
    rw [List.cons_append, List.cons_append, List.cons_lt_cons_iff, List.cons_lt_cons_iff, ih]
  | [], _ :: _, _, h => by simp at h
  | _ :: _, [], _, h => by simp at h
/-- y is at least as good as x -/
def NW (x y : Int × Wd) : Prop := x.1 < y.1 ∨ (x.1 = y.1 ∧ ¬ x.2 < y.2)
theorem NW.refl (x : Int × Wd) : NW x x := .inr ⟨rfl, List.lt_irrefl _⟩
theorem NW.trans {x y z : Int × Wd} (h : NW x y) (q : NW y z) : NW x z := by
  rcases h with h | ⟨h1, h2⟩
  · rcases q with q | ⟨q1, q2⟩
    · exact .inl (by omega)
    · exact .inl (by omega)
  · rcases q with q | ⟨q1, q2⟩
    · exact .inl (by omega)
    · exact .inr ⟨by omega, wd_trans q2 h2⟩
theorem NW.le {x y : Int × Wd} (h : NW x y) : x.1 ≤ y.1 := by
  rcases h with h | ⟨h, _⟩ <;> omega
theorem better_no {x y : Int × Wd} (h : better x (some y) = false) : NW x y := by
  have e : better x (some y) = (decide (y.1 < x.1) || (decide (x.1 = y.1) && decide (x.2 < y.2))) := rfl
  rw [e, Bool.or_eq_false_iff, Bool.and_eq_false_iff] at h
  obtain ⟨h1, h2⟩ := h
  have h1 := of_decide_eq_false h1
  by_cases c : x.1 = y.1
  · rcases h2 with h2 | h2
    · exact absurd c (of_decide_eq_false h2)
    · exact .inr ⟨c, of_decide_eq_false h2⟩
  · exact .inl (by omega)
theorem better_yes {x y : Int × Wd} (h : better x (some y) = true) : NW y x := by
  have e : better x (some y) = (decide (y.1 < x.1) || (decide (x.1 = y.1) && decide (x.2 < y.2))) := rfl
  rw [e, Bool.or_eq_true, Bool.and_eq_true] at h
  rcases h with h | ⟨h1, h2⟩
  · exact .inl (of_decide_eq_true h)
  · exact .inr ⟨(of_decide_eq_true h1).symm, wd_asymm (of_decide_eq_true h2)⟩
theorem turnL_grow {sg : Int} {f acc : RF} {s : Stp} {n : Nat} {y : Int × Wd} (h : acc n = some y) : ∃ z, turnL sg f acc s n = some z ∧ NW y z := by
  unfold turnL
  cases fb : f s.b with
  | none => exact ⟨y, h, .refl y⟩
  | some v =>
    dsimp only
    by_cases c : better (v.1 + sg * s.g, v.2 ++ [s.c]) (acc s.e) = true
    · rw [if_pos c]
      unfold RF.put
      by_cases d : n = s.e
      · rw [if_pos d]
        rw [← d, h] at c
        exact ⟨_, rfl, better_yes c⟩
      · rw [if_neg d]
        exact ⟨y, h, .refl y⟩
    · rw [if_neg c]
      exact ⟨y, h, .refl y⟩
theorem turnL_has {sg : Int} {f acc : RF} {s : Stp} {v : Int × Wd} (h : f s.b = some v) : ∃ z, turnL sg f acc s s.e = some z ∧ NW (v.1 + sg * s.g, v.2 ++ [s.c]) z := by
  unfold turnL
  rw [h]
  dsimp only
  by_cases c : better (v.1 + sg * s.g, v.2 ++ [s.c]) (acc s.e) = true
  · rw [if_pos c]
    unfold RF.put
    rw [if_pos rfl]
    exact ⟨_, rfl, .refl _⟩
  · rw [if_neg c]
    cases e : acc s.e with
    | none => rw [e] at c; exact absurd rfl c
    | some y =>
      rw [e] at c
      exact ⟨y, rfl, better_no (by simpa using c)⟩
theorem fold_grow {sg : Int} {f : RF} {n : Nat} : ∀ (ss : List Stp) (acc : RF) (y : Int × Wd), acc n = some y → ∃ z, ss.foldl (turnL sg f) acc n = some z ∧ NW y z
  | [], _, y, h => ⟨y, h, .refl y⟩
  | s :: r, acc, y, h => by
    obtain ⟨z, e, q⟩ := turnL_grow (sg := sg) (f := f) (s := s) h
    obtain ⟨z', e', q'⟩ := fold_grow r _ z e
    exact ⟨z', e', q.trans q'⟩
theorem longer_has {sg : Int} {f : RF} {s : Stp} {v : Int × Wd} (h : f s.b = some v) : ∀ (ss : List Stp), s ∈ ss → ∀ acc : RF, ∃ z, ss.foldl (turnL sg f) acc s.e = some z ∧ NW (v.1 + sg * s.g, v.2 ++ [s.c]) z
  | a :: r, hs, acc => by
    rcases List.mem_cons.mp hs with rfl | hs
    · obtain ⟨z, e, q⟩ := turnL_has (sg := sg) (f := f) (acc := acc) h
      obtain ⟨z', e', q'⟩ := fold_grow (sg := sg) (f := f) r _ z e
      exact ⟨z', e', q.trans q'⟩
    · exact longer_has h r hs _
/-- the rows -/
def stepOf (m : MD) (b c : Nat) : Option Stp := m.ss.find? fun s => s.b == b && s.c == c
def runW (m : MD) : Nat × Int → Wd → Option (Nat × Int)
  | st, [] => some st
  | st, c :: w => match stepOf m st.1 c with
    | none => none
    | some x => runW m (x.e, st.2 + x.g) w
def run (m : MD) (w : Wd) : Option (Nat × Int) := runW m (0, 0) w
theorem runW_snoc (m : MD) (c : Nat) : ∀ (w : Wd) (st : Nat × Int), runW m st (w ++ [c]) = (runW m st w).bind fun q => (stepOf m q.1 c).map fun x => (x.e, q.2 + x.g)
  | [], st => by
    show (match stepOf m st.1 c with | none => none | some x => some (x.e, st.2 + x.g)) = (stepOf m st.1 c).map _
    cases stepOf m st.1 c <;> rfl
  | a :: w, st => by
    show (match stepOf m st.1 a with | none => none | some x => runW m (x.e, st.2 + x.g) (w ++ [c])) = (match stepOf m st.1 a with | none => none | some x => runW m (x.e, st.2 + x.g) w).bind _
    cases stepOf m st.1 a with
    | none => rfl
    | some x => exact runW_snoc m c w (x.e, st.2 + x.g)
theorem stepOf_mem {m : MD} {b c : Nat} {s : Stp} (h : stepOf m b c = some s) : s ∈ m.ss ∧ s.b = b ∧ s.c = c := by
  have h1 := List.mem_of_find?_eq_some h
  have h2 := List.find?_some h
  rw [Bool.and_eq_true] at h2
  exact ⟨h1, by simpa using h2.1, by simpa using h2.2⟩
theorem stepOf_self {m : MD} (o : m.Ok) {s : Stp} (h : s ∈ m.ss) : stepOf m s.b s.c = some s := by
  cases e : stepOf m s.b s.c with
  | none =>
    have := List.find?_eq_none.mp e s h
    simp at this
  | some t =>
    obtain ⟨h1, h2, h3⟩ := stepOf_mem e
    obtain ⟨i, hi, ei⟩ := List.getElem_of_mem h
    obtain ⟨j, hj, ej⟩ := List.getElem_of_mem h1
    have up := List.pairwise_iff_getElem.mp o.up
    have : i = j := by
      rcases Nat.lt_trichotomy i j with c | c | c
      · have := up i j hi hj c
        rw [ei, ej] at this
        rcases this with z | z <;> omega
      · exact c
      · have := up j i hj hi c
        rw [ei, ej] at this
        rcases this with z | z <;> omega
    subst this
    rw [← ei, ← ej]
theorem run_snoc {m : MD} {w : Wd} {c : Nat} {n : Nat} {t : Int} : run m (w ++ [c]) = some (n, t) ↔ ∃ u t' s, run m w = some (u, t') ∧ stepOf m u c = some s ∧ n = s.e ∧ t = t' + s.g := by
  unfold run
  rw [runW_snoc]
  constructor
  · intro h
    cases e : runW m (0, 0) w with
    | none => rw [e] at h; cases h
    | some q =>
      rw [e] at h
      cases e2 : stepOf m q.1 c with
      | none =>
        have h' : (stepOf m q.1 c).map (fun x => (x.e, q.2 + x.g)) = some (n, t) := h
        rw [e2] at h'
        cases h'
      | some s =>
        have h' : (stepOf m q.1 c).map (fun x => (x.e, q.2 + x.g)) = some (n, t) := h
        rw [e2] at h'
        have h2 : (s.e, q.2 + s.g) = (n, t) := Option.some.inj h'
        injection h2 with h3 h4
        exact ⟨q.1, q.2, s, rfl, e2, h3.symm, h4.symm⟩
  · rintro ⟨u, t', s, e, e2, rfl, rfl⟩
    rw [e]
    show (stepOf m u c).map _ = _
    rw [e2]
    rfl
theorem lvl_run {sg : Int} {m : MD} (o : m.Ok) (hsg : sg = 1 ∨ sg = -1) : ∀ i n y, lvl sg m.ss i n = some y → run m y.2 = some (n, sg * y.1)
  | 0, n, y, e => by
    unfold lvl at e
    split at e
    · rename_i q
      cases e
      rw [q, Int.mul_zero]
      rfl
    · cases e
  | i + 1, n, y, e => longer_ind (P := fun n y => run m y.2 = some (n, sg * y.1)) (fun s hs v ev => by
      refine run_snoc.mpr ⟨s.b, _, s, lvl_run o hsg i _ _ ev, stepOf_self o hs, rfl, ?_⟩
      rcases hsg with rfl | rfl
      · omega
      · omega) n y e
theorem lvl_best {sg : Int} {m : MD} (o : m.Ok) (hsg : sg = 1 ∨ sg = -1) : ∀ i (w : Wd) n t, w.length = i → run m w = some (n, t) → ∃ y, lvl sg m.ss i n = some y ∧ NW (sg * t, w) y := by
  intro i
  induction i with
  | zero =>
    intro w n t hl hr
    have : w = [] := List.eq_nil_of_length_eq_zero hl
    subst this
    cases hr
    exact ⟨(0, []), rfl, .inr ⟨by rw [Int.mul_zero], by simp⟩⟩
  | succ i ih =>
    intro w n t hl hr
    rcases List.eq_nil_or_concat w with rfl | ⟨w', c, e⟩
    · cases hl
    · rw [List.concat_eq_append] at e
      subst e
      obtain ⟨u, t', s, h1, h2, rfl, rfl⟩ := run_snoc.mp hr
      obtain ⟨hs, hb, hc⟩ := stepOf_mem h2
      have hl' : w'.length = i := by simpa using hl
      obtain ⟨v, ev, nv⟩ := ih w' u t' hl' h1
      have lv := (lvl_ok o i _ _ ev).2
      rw [← hb] at ev
      obtain ⟨z, ez, nz⟩ := longer_has (sg := sg) ev m.ss hs fun _ => none
      refine ⟨z, ez, NW.trans ?_ nz⟩
      rw [hc]
      have e1 : sg * (t' + s.g) = sg * t' + sg * s.g := Int.mul_add ..
      rcases nv with nv | ⟨n1, n2⟩
      · exact .inl (by show sg * (t' + s.g) < v.1 + sg * s.g; dsimp only at nv; omega)
      · refine .inr ⟨by show sg * (t' + s.g) = v.1 + sg * s.g; dsimp only at n1; omega, fun q => n2 ((wd_snoc (by rw [hl', lv])).mp q)⟩
/-- the best of the lengths below i, and where it is found first -/
theorem bst_spec {sg : Int} {ss : List Stp} {n : Nat} : ∀ i y, bst sg ss i n = some y → (∃ j, j < i ∧ lvl sg ss j n = some y ∧ ∀ k x, k < j → lvl sg ss k n = some x → x.1 < y.1) ∧ ∀ k x, k < i → lvl sg ss k n = some x → x.1 ≤ y.1
  | 0, _, h => nomatch h
  | i + 1, y, h => by
    unfold bst at h
    split at h
    · rename_i c
      have up : ∀ k x, k < i → lvl sg ss k n = some x → x.1 < y.1 := fun k x hk ex => by
        unfold impr at c
        rw [h] at c
        dsimp only at c
        cases eb : bst sg ss i n with
        | none =>
          exfalso
          have none_of : ∀ i, bst sg ss i n = none → ∀ k, k < i → lvl sg ss k n = none := by
            intro i
            induction i with
            | zero => exact fun _ k hk => absurd hk (Nat.not_lt_zero _)
            | succ i ih =>
              intro hn k hk
              unfold bst at hn
              split at hn
              · rename_i q
                unfold impr at q
                rw [hn] at q
                cases q
              · rename_i q
                by_cases e : k = i
                · cases el : lvl sg ss i n with
                  | none => rw [e]; exact el
                  | some z =>
                    exfalso
                    apply q
                    unfold impr
                    rw [el, hn]
                · exact ih hn k (by omega)
          have := none_of i eb k hk
          rw [ex] at this
          cases this
        | some z =>
          rw [eb] at c
          have c' := of_decide_eq_true c
          have := (bst_spec i z eb).2 k x hk ex
          omega
      refine ⟨⟨i, Nat.lt_succ_self _, h, up⟩, fun k x hk ex => ?_⟩
      by_cases e : k = i
      · rw [e, h] at ex
        cases ex
        exact Int.le_refl _
      · exact Int.le_of_lt (up k x (by omega) ex)
    · rename_i c
      obtain ⟨⟨j, hj, ej, up⟩, all⟩ := bst_spec i y h
      refine ⟨⟨j, by omega, ej, up⟩, fun k x hk ex => ?_⟩
      by_cases e : k = i
      · unfold impr at c
        rw [e] at ex
        rw [ex, h] at c
        have c' : ¬ decide (y.1 < x.1) = true := c
        have : ¬ y.1 < x.1 := fun z => c' (decide_eq_true z)
        omega
      · exact all k x (by omega) ex
theorem bst_has {sg : Int} {ss : List Stp} {n : Nat} : ∀ i k x, k < i → lvl sg ss k n = some x → ∃ y, bst sg ss i n = some y
  | i + 1, k, x, hk, ex => by
    unfold bst
    by_cases c : impr (lvl sg ss i) (bst sg ss i) n = true
    · rw [if_pos c]
      unfold impr at c
      cases e : lvl sg ss i n with
      | none => rw [e] at c; cases c
      | some y => exact ⟨y, rfl⟩
    · rw [if_neg c]
      by_cases e : k = i
      · rw [e] at ex
        unfold impr at c
        rw [ex] at c
        cases eb : bst sg ss i n with
        | none => rw [eb] at c; exact absurd rfl c
        | some y => exact ⟨y, rfl⟩
      · exact bst_has i k x (by omega) ex
/-- no row is better, if there is a best one -/
theorem no_better {sg : Int} {m : MD} (o : m.Ok) (hsg : sg = 1 ∨ sg = -1) : ∀ (k : Nat) (w : Wd) n t, w.length = k → run m w = some (n, t) → ¬ Endl sg m n → ∃ y, bst sg m.ss m.n n = some y ∧ sg * t ≤ y.1 := by
  have up : ∀ j x n, j ≤ m.n → lvl sg m.ss j n = some x → ¬ Endl sg m n → ∃ y, bst sg m.ss m.n n = some y ∧ x.1 ≤ y.1 := fun j x n hj ex hn => by
    by_cases c : j < m.n
    · obtain ⟨y, ey⟩ := bst_has m.n j x c ex
      exact ⟨y, ey, (bst_spec _ _ ey).2 j x c ex⟩
    · have e : j = m.n := by omega
      rw [e] at ex
      have ni : ¬ impr (lvl sg m.ss m.n) (bst sg m.ss m.n) n = true := fun q => hn (.base ((mem_impL o n).mpr q))
      unfold impr at ni
      rw [ex] at ni
      cases eb : bst sg m.ss m.n n with
      | none => rw [eb] at ni; exact absurd rfl ni
      | some y =>
        rw [eb] at ni
        refine ⟨y, rfl, ?_⟩
        have : ¬ y.1 < x.1 := fun z => ni (decide_eq_true z)
        omega
  intro k
  induction k with
  | zero =>
    intro w n t hl hr hn
    have e0 : w = [] := List.eq_nil_of_length_eq_zero hl
    subst e0
    cases hr
    obtain ⟨y, ey, hy⟩ := up 0 (0, []) 0 (Nat.zero_le _) rfl hn
    exact ⟨y, ey, by rw [Int.mul_zero]; exact hy⟩
  | succ k ih =>
    intro w n t hl hr hn
    rcases List.eq_nil_or_concat w with rfl | ⟨w', c, e⟩
    · cases hl
    · rw [List.concat_eq_append] at e
      subst e
      obtain ⟨u, t', s, h1, h2, rfl, rfl⟩ := run_snoc.mp hr
      obtain ⟨hs, hb, hc⟩ := stepOf_mem h2
      have hu : ¬ Endl sg m u := fun q => hn (.step hs (by rw [hb]; exact q))
      obtain ⟨y, ey, hy⟩ := ih w' u t' (by simpa using hl) h1 hu
      obtain ⟨⟨j, hj, ej, _⟩, _⟩ := bst_spec _ _ ey
      have r1 := lvl_run o hsg j _ _ ej
      have l1 := (lvl_ok o j _ _ ej).2
      obtain ⟨x, ex, nx⟩ := lvl_best o hsg (j + 1) (y.2 ++ [c]) s.e (sg * y.1 + s.g) (by rw [List.length_append, l1]; rfl) (run_snoc.mpr ⟨u, _, s, r1, h2, rfl, rfl⟩)
      obtain ⟨z, ez, hz⟩ := up (j + 1) x s.e (by omega) ex hn
      refine ⟨z, ez, ?_⟩
      have := nx.le
      dsimp only at this
      rcases hsg with rfl | rfl
      · omega
      · omega
/-- the best one that is told is the least of the shortest ones -/
theorem first_best {sg : Int} {m : MD} (o : m.Ok) (hsg : sg = 1 ∨ sg = -1) {w : Wd} {n : Nat} {t : Int} {y : Int × Wd} (hr : run m w = some (n, t)) (ey : bst sg m.ss m.n n = some y) (ht : sg * t = y.1) : y.2.length < w.length ∨ (y.2.length = w.length ∧ ¬ w < y.2) := by
  obtain ⟨⟨j, hj, ej, first⟩, all⟩ := bst_spec _ _ ey
  have l1 := (lvl_ok o j _ _ ej).2
  by_cases c : w.length < m.n
  · obtain ⟨x, ex, nx⟩ := lvl_best o hsg w.length w n t rfl hr
    have hx := all _ _ c ex
    rcases nx with nx | ⟨n1, n2⟩
    · dsimp only at nx
      omega
    · dsimp only at n1 n2
      rcases Nat.lt_trichotomy w.length j with d | d | d
      · have := first _ _ d ex
        omega
      · rw [d, ej] at ex
        cases ex
        exact .inr ⟨by omega, n2⟩
      · exact .inl (by omega)
  · exact .inl (by omega)
/-! ### two words one after the other -/
theorem runW_append (m : MD) (v : Wd) : ∀ (u : Wd) (st : Nat × Int), runW m st (u ++ v) = (runW m st u).bind fun q => runW m q v
  | [], st => rfl
  | a :: u, st => by
    show (match stepOf m st.1 a with | none => none | some x => runW m (x.e, st.2 + x.g) (u ++ v)) = (match stepOf m st.1 a with | none => none | some x => runW m (x.e, st.2 + x.g) u).bind _
    cases stepOf m st.1 a with
    | none => rfl
    | some x => exact runW_append m v u (x.e, st.2 + x.g)
/-! ### the steps from a stand -/
def nxV (s : Stp) : List V := [.str ⟨#[s.c]⟩, .int (s.e : Nat), .int s.g]
def NxAt (K : PySem.W.Frag) (H : Hp) (vs : List V) (ns : List Stp) : Prop := vs.length = ns.length ∧ ∀ (i : Nat) (s : Stp), ns[i]? = some s → ∃ p, vs[i]? = some (V.ref p) ∧ SqT K H p (nxV s)
theorem NxAt.tups {K : PySem.W.Frag} {H H' : Hp} {vs : List V} {ns : List Stp} (h : NxAt K H vs ns) (t : Tups H H') : NxAt K H' vs ns := ⟨h.1, fun i s e => let ⟨p, q, z⟩ := h.2 i s e; ⟨p, q, t.sq z⟩⟩
theorem NxAt.snoc {K : PySem.W.Frag} {H : Hp} {vs : List V} {ns : List Stp} {p : Addr} {s : Stp} (h : NxAt K H vs ns) (q : SqT K H p (nxV s)) : NxAt K H (vs ++ [V.ref p]) (ns ++ [s]) := by
  refine ⟨by rw [List.length_append, List.length_append, h.1]; rfl, fun i t e => ?_⟩
  by_cases c : i < ns.length
  · rw [List.getElem?_append_left c] at e
    obtain ⟨r, e1, q1⟩ := h.2 i t e
    exact ⟨r, by rw [List.getElem?_append_left (by rw [h.1]; exact c)]; exact e1, q1⟩
  · rw [List.getElem?_append_right (by omega)] at e
    have z : i - ns.length = 0 := by
      have := (List.getElem?_eq_some_iff.mp e).1
      simp at this
      omega
    rw [z] at e
    cases e
    exact ⟨p, by rw [List.getElem?_append_right (by rw [h.1]; omega), h.1, z]; rfl, q⟩
def fromS (m : MD) (n : Nat) : List Stp := m.ss.filter fun s => s.b == n
def sp_next (K : PySem.W.Frag) : Sp := fun vs H Q _ => ∃ (d : Addr) (n : Nat) (m : MD), vs = [.ref d, .int (n : Nat)] ∧ DAt K H d m ∧ m.Ok ∧
  ∀ p us H', Same H H' → H p = none → H' p = some (.lst us) → NxAt K H' us (fromS m n) → Q (.ref p) H'
/-! ### words; the steps told as data -/
theorem bl_ne (b : Bool) : decide (V.bl (!b) = V.bl b) = false := by cases b <;> rfl
theorem sOf_fits {w : Wd} (h : w.length ≤ 100) : (sOf w).length ≤ sizeLine := by rw [sOf_len]; exact Nat.le_trans h (by decide)
theorem dp2 {K : PySem.W.Frag} {H : Hp} {p : Addr} {i j : Int} (h : SqT K H p [.int i, .int j]) : Dp K H (.ref p) (.tuple [.int i, .int j]) := .tup h (.cons (.int _) (.cons (.int _) .nil))
theorem eqv2 (i j : Int) : PyData.eqv (.tuple [.int i, .int j]) (.tuple [.int i, .int j]) = true := by
  show ((i == i) && ((j == j) && true)) = true
  simp
def nxD (s : Stp) : PyData := .tuple [.str ⟨#[s.c]⟩, .int (s.e : Nat), .int s.g]
theorem dp_nx {K : PySem.W.Frag} {H : Hp} : ∀ {us : List V} {ns : List Stp}, NxAt K H us ns → DpAll K H us (ns.map nxD)
  | [], [], _ => .nil
  | [], _ :: _, h => by have := h.1; simp at this
  | _ :: _, [], h => by have := h.1; simp at this
  | v :: us, s :: ns, h => by
    obtain ⟨p, e, q⟩ := h.2 0 s rfl
    have ev : v = .ref p := Option.some.inj e
    subst ev
    refine .cons (.tup q (.cons (.str _) (.cons (.int _) (.cons (.int _) .nil)))) (dp_nx (ns := ns) ⟨by have := h.1; simpa using this, fun i t et => h.2 (i + 1) t et⟩)
theorem nx_shaped : ∀ {ns : List Stp}, (∀ s ∈ ns, s.c ≤ 100) → PyData.canLayAll0 (ns.map nxD) = true ∧ PyData.depthAll (ns.map nxD) ≤ 3
  | [], _ => ⟨rfl, Nat.zero_le _⟩
  | s :: ns, h => by
    obtain ⟨h1, h2⟩ := nx_shaped (ns := ns) fun t ht => h t (List.mem_cons_of_mem _ ht)
    have hc := h s List.mem_cons_self
    constructor
    · show (PyData.canLay0 (nxD s) && PyData.canLayAll0 (ns.map nxD)) = true
      rw [h1, Bool.and_true]
      show ((#[s.c].all (· < 0x110000)) && (true && (true && true))) = true
      simp
      omega
    · show max (PyData.depth (nxD s)) (PyData.depthAll (ns.map nxD)) ≤ 3
      have : PyData.depth (nxD s) ≤ 3 := by
        show max _ (max _ (max _ _)) + 1 ≤ 3
        simp [PyData.depth, PyData.depthAll]
      omega
theorem nx_sh {ns : List Stp} (h : ∀ s ∈ ns, s.c ≤ 100) : SeqAt.shaped (.list (ns.map nxD)) = true := by
  obtain ⟨h1, h2⟩ := nx_shaped h
  show (PyData.canLayAll0 (ns.map nxD) && decide (PyData.depthAll (ns.map nxD) + 1 ≤ 64)) = true
  rw [h1, Bool.true_and]
  exact decide_eq_true (by omega)
theorem nx_eqv (ns : List Stp) : PyData.eqv (.list (ns.map nxD)) (.list []) = ns.isEmpty := by
  cases ns with
  | nil => rfl
  | cons s ns => rfl
/-! ### the reached stands, round by round -/
theorem addN_len {F : List Nat} {n : Nat} : F.length ≤ (addN F n).length := by
  unfold addN
  split
  · exact Nat.le_refl _
  · rw [List.length_append]
    omega
def ClosedS (m : MD) (F : List Nat) : Prop := ∀ s ∈ m.ss, s.b ∈ F → s.e ∈ F
theorem reach_closed {m : MD} {F : List Nat} (h0 : 0 ∈ F) (c : ClosedS m F) : ∀ n, Reach m.ss [0] n → n ∈ F := fun n q => by
  induction q with
  | base q => rw [List.mem_singleton.mp q]; exact h0
  | step hs _ ih => exact c _ hs ih
theorem mem_fromS' {m : MD} {n : Nat} {s : Stp} : s ∈ fromS m n ↔ s ∈ m.ss ∧ s.b = n := by
  unfold fromS
  rw [List.mem_filter]
  simp
/-- what stands found in a round: of F those before, at least those of G and of what they lead to, but no others than the reached ones -/
structure Fd (m : MD) (F : List Nat) : Prop where
  zero : 0 ∈ F
  nd : F.Nodup
  lt : ∀ k ∈ F, k < m.n
  re : ∀ k ∈ F, Reach m.ss [0] k
theorem Fd.add {m : MD} {F : List Nat} (o : m.Ok) (h : Fd m F) {s : Stp} (hs : s ∈ m.ss) (hb : s.b ∈ F) : Fd m (addN F s.e) :=
  ⟨addN_mem.mpr (.inl h.zero), addN_nodup h.nd, fun k hk => by
    rcases addN_mem.mp hk with hk | rfl
    · exact h.lt k hk
    · exact (o.ok s hs).e, fun k hk => by
    rcases addN_mem.mp hk with hk | rfl
    · exact h.re k hk
    · exact .step hs (h.re _ hb)⟩
theorem asc_eq : ∀ {l l' : List Nat}, l.Pairwise (· < ·) → l'.Pairwise (· < ·) → (∀ n, n ∈ l ↔ n ∈ l') → l = l'
  | [], [], _, _, _ => rfl
  | [], a :: _, _, _, h => absurd ((h a).mpr List.mem_cons_self) (by simp)
  | a :: _, [], _, _, h => absurd ((h a).mp List.mem_cons_self) (by simp)
  | a :: l, b :: l', h1, h2, h => by
    have p1 := List.pairwise_cons.mp h1
    have p2 := List.pairwise_cons.mp h2
    have e : a = b := by
      rcases List.mem_cons.mp ((h a).mp List.mem_cons_self) with e | e
      · exact e
      · rcases List.mem_cons.mp ((h b).mpr List.mem_cons_self) with d | d
        · exact d.symm
        · have := p1.1 b d
          have := p2.1 a e
          omega
    subst e
    rw [asc_eq p1.2 p2.2 fun n => ⟨fun q => by
      rcases List.mem_cons.mp ((h n).mp (List.mem_cons_of_mem _ q)) with e | e
      · have := p1.1 n q; omega
      · exact e, fun q => by
      rcases List.mem_cons.mp ((h n).mpr (List.mem_cons_of_mem _ q)) with e | e
      · have := p2.1 n q; omega
      · exact e⟩]
def Grown (l l' : List Nat) : Prop := (∀ k ∈ l, k ∈ l') ∧ (l' = l ∨ l.length < l'.length)
theorem Grown.add {l l' : List Nat} {n : Nat} (g : Grown l l') : Grown l (addN l' n) := by
  refine ⟨fun k hk => addN_mem.mpr (.inl (g.1 k hk)), ?_⟩
  unfold addN
  split
  · exact g.2
  · right
    rw [List.length_append, List.length_singleton]
    rcases g.2 with e | e
    · rw [e]; omega
    · omega
def sp_lreached (K : PySem.W.Frag) : Sp := fun vs H Q _ => ∃ (d : Addr) (m : MD), vs = [.ref d] ∧ DAt K H d m ∧ m.Ok ∧
  ∀ q (l' : List Nat) H', Same H H' → H q = none → H' q = some (.lst (nats l')) → (∀ n, n ∈ l' ↔ Reach m.ss [0] n) → l'.Pairwise (· < ·) → Q (.ref q) H'
def sp_reached (K : PySem.W.Frag) (C : Addr) : Sp := fun vs H Q _ => ∃ (x : Addr) (m : MD), vs = [.ref x] ∧ MAt K C H x m ∧ m.Ok ∧
  ∀ q (l' : List Nat) H', Same H H' → H q = none → H' q = some (.lst (nats l')) → (∀ n, n ∈ l' ↔ Reach m.ss [0] n) → l'.Pairwise (· < ·) → Q (.ref q) H'
/-! ### rows cut short -/
theorem runW_shift (m : MD) (d : Int) : ∀ (w : Wd) (v : Nat) (a : Int) (k : Nat) (t : Int), runW m (v, a) w = some (k, t) → runW m (v, a + d) w = some (k, t + d)
  | [], v, a, k, t, h => by
    cases h
    rfl
  | c :: w, v, a, k, t, h => by
    unfold runW at h ⊢
    dsimp only at h ⊢
    cases e : stepOf m v c with
    | none => rw [e] at h; cases h
    | some x =>
      rw [e] at h
      have q := runW_shift m d w x.e (a + x.g) k t h
      dsimp only
      rw [show a + d + x.g = a + x.g + d by omega]
      exact q
theorem runW_lt {m : MD} (o : m.Ok) : ∀ (w : Wd) (v : Nat) (a : Int) (k : Nat) (t : Int), v < m.n → runW m (v, a) w = some (k, t) → k < m.n
  | [], v, a, k, t, hv, h => by
    cases h
    exact hv
  | c :: w, v, a, k, t, hv, h => by
    unfold runW at h
    dsimp only at h
    cases e : stepOf m v c with
    | none => rw [e] at h; cases h
    | some x =>
      rw [e] at h
      exact runW_lt o w x.e (a + x.g) k t (o.ok x (stepOf_mem e).1).e h
theorem run_cut {m : MD} {w : Wd} {k : Nat} {t : Int} (h : run m w = some (k, t)) (i : Nat) : ∃ v tv, run m (w.take i) = some (v, tv) ∧ runW m (v, tv) (w.drop i) = some (k, t) := by
  have e : run m (w.take i ++ w.drop i) = some (k, t) := by rw [List.take_append_drop]; exact h
  unfold run at e ⊢
  rw [runW_append] at e
  cases q : runW m (0, 0) (w.take i) with
  | none => rw [q] at e; cases e
  | some p =>
    rw [q] at e
    exact ⟨p.1, p.2, rfl, e⟩
theorem run_reach {m : MD} : ∀ (L : Nat) (w : Wd) (k : Nat) (t : Int), w.length = L → run m w = some (k, t) → Reach m.ss [0] k
  | 0, w, k, t, hl, h => by
    have : w = [] := List.eq_nil_of_length_eq_zero hl
    subst this
    cases h
    exact .base (List.mem_singleton.mpr rfl)
  | L + 1, w, k, t, hl, h => by
    rcases List.eq_nil_or_concat w with rfl | ⟨w', c, e⟩
    · cases hl
    · rw [List.concat_eq_append] at e
      subst e
      obtain ⟨u, t', s, h1, h2, rfl, rfl⟩ := run_snoc.mp h
      obtain ⟨hs, hb, _⟩ := stepOf_mem h2
      have ih := run_reach L w' u t' (by simpa using hl) h1
      rw [← hb] at ih
      exact .step hs ih
/-- F rises at least by what a step adds, into the stands of N, that come from N alone -/
def Pot (sg : Int) (m : MD) (N : Nat → Prop) (F : Nat → Int) : Prop := ∀ s ∈ m.ss, Reach m.ss [0] s.b → N s.e → N s.b ∧ F s.b + sg * s.g ≤ F s.e
theorem pot_run {sg : Int} {m : MD} {N : Nat → Prop} {F : Nat → Int} (p : Pot sg m N F) : ∀ (w : Wd) (v : Nat) (a : Int) (k : Nat) (t : Int), Reach m.ss [0] v → runW m (v, a) w = some (k, t) → N k → N v ∧ F v + sg * (t - a) ≤ F k
  | [], v, a, k, t, hv, h, hk => by
    cases h
    refine ⟨hk, ?_⟩
    rw [Int.sub_self, Int.mul_zero]
    omega
  | c :: w, v, a, k, t, hv, h, hk => by
    unfold runW at h
    dsimp only at h
    cases e : stepOf m v c with
    | none => rw [e] at h; cases h
    | some x =>
      rw [e] at h
      obtain ⟨hs, hb, _⟩ := stepOf_mem e
      rw [← hb] at hv
      obtain ⟨h1, h2⟩ := pot_run p w x.e (a + x.g) k t (.step hs hv) h hk
      obtain ⟨h3, h4⟩ := p x hs hv h1
      rw [hb] at h3 h4
      refine ⟨h3, ?_⟩
      have e1 : sg * (t - a) = sg * (t - (a + x.g)) + sg * x.g := by rw [← Int.mul_add]; congr 1; omega
      omega
theorem not_nodup {l : List Nat} {n : Nat} (b : ∀ k ∈ l, k < n) (h : n < l.length) : ∃ i j, ∃ (hi : i < l.length) (hj : j < l.length), i < j ∧ l[i] = l[j] := by
  apply Classical.byContradiction
  intro c
  have nd : l.Nodup := List.pairwise_iff_getElem.mpr fun i j hi hj hij e => c ⟨i, j, hi, hj, hij, e⟩
  have := nodup_small nd b
  omega
theorem cut_row {sg : Int} {m : MD} (o : m.Ok) {N : Nat → Prop} {F : Nat → Int} (p : Pot sg m N F) {w : Wd} {k : Nat} {t : Int} (h : run m w = some (k, t)) (hk : N k) (hl : m.n ≤ w.length) :
    ∃ w' t', w'.length < w.length ∧ run m w' = some (k, t') ∧ sg * t ≤ sg * t' := by
  have st : ∀ i, ∃ v, ∃ tv, run m (w.take i) = some (v, tv) ∧ runW m (v, tv) (w.drop i) = some (k, t) := run_cut h
  let f : Nat → Nat := fun i => (st i).choose
  have hf : ∀ i, ∃ tv, run m (w.take i) = some (f i, tv) ∧ runW m (f i, tv) (w.drop i) = some (k, t) := fun i => (st i).choose_spec
  have n1 := o.n1
  obtain ⟨i, j, hi, hj, hij, e⟩ := not_nodup (l := (List.range (w.length + 1)).map f) (n := m.n) (fun v hv => by
    obtain ⟨i, _, rfl⟩ := List.mem_map.mp hv
    obtain ⟨tv, q, _⟩ := hf i
    exact runW_lt o _ 0 0 _ _ (by omega) q) (by rw [List.length_map, List.length_range]; omega)
  rw [List.length_map, List.length_range] at hi hj
  rw [List.getElem_map, List.getElem_map, List.getElem_range, List.getElem_range] at e
  obtain ⟨ti, a1, a2⟩ := hf i
  obtain ⟨tj, b1, b2⟩ := hf j
  rw [← e] at b1 b2
  have rv := run_reach _ _ _ _ rfl a1
  have hNv := (pot_run p _ _ _ _ _ rv a2 hk).1
  have mid : runW m (f i, ti) ((w.take j).drop i) = some (f i, tj) := by
    have s : run m (w.take i ++ (w.take j).drop i) = some (f i, tj) := by
      have : w.take i = (w.take j).take i := by rw [List.take_take, Nat.min_eq_left (by omega)]
      rw [this, List.take_append_drop]
      exact b1
    unfold run at s a1
    rw [runW_append, a1] at s
    exact s
  have gain := (pot_run p _ _ _ _ _ rv mid hNv).2
  refine ⟨w.take i ++ w.drop j, t + (ti - tj), ?_, ?_, ?_⟩
  · rw [List.length_append, List.length_take, List.length_drop]
    omega
  · unfold run at a1 ⊢
    rw [runW_append, a1]
    have q := runW_shift m (ti - tj) _ _ _ _ _ b2
    rw [show tj + (ti - tj) = ti by omega] at q
    exact q
  · have e1 : sg * (t + (ti - tj)) = sg * t - sg * (tj - ti) := by rw [← Int.mul_sub]; congr 1; omega
    omega
theorem pot_short {sg : Int} {m : MD} (o : m.Ok) {N : Nat → Prop} {F : Nat → Int} (p : Pot sg m N F) {k : Nat} (hk : N k) : ∀ (L : Nat) (w : Wd) (t : Int), w.length ≤ L → run m w = some (k, t) → ∃ w' t', w'.length < m.n ∧ run m w' = some (k, t') ∧ sg * t ≤ sg * t'
  | 0, w, t, hl, h => ⟨w, t, by have := o.n1; omega, h, Int.le_refl _⟩
  | L + 1, w, t, hl, h => by
    by_cases c : w.length < m.n
    · exact ⟨w, t, c, h, Int.le_refl _⟩
    · obtain ⟨w1, t1, h1, h2, h3⟩ := cut_row o p h hk (by omega)
      obtain ⟨w2, t2, q1, q2, q3⟩ := pot_short o p hk L w1 t1 (by omega) h2
      exact ⟨w2, t2, q1, q2, Int.le_trans h3 q3⟩
theorem best_short {sg : Int} {m : MD} (o : m.Ok) (hsg : sg = 1 ∨ sg = -1) {k : Nat} {w : Wd} {t : Int} (hl : w.length < m.n) (h : run m w = some (k, t)) : ∃ y, bst sg m.ss m.n k = some y ∧ sg * t ≤ y.1 := by
  obtain ⟨x, ex, nx⟩ := lvl_best o hsg w.length w k t rfl h
  obtain ⟨y, ey⟩ := bst_has m.n _ _ hl ex
  have h1 := (bst_spec _ _ ey).2 _ _ hl ex
  have h2 := nx.le
  dsimp only at h2
  exact ⟨y, ey, by omega⟩
theorem endl_reach {sg : Int} {m : MD} (o : m.Ok) (hsg : sg = 1 ∨ sg = -1) : ∀ k, Endl sg m k → Reach m.ss [0] k := fun k h => by
  induction h with
  | base h =>
    have q := (mem_impL o _).mp h
    unfold impr at q
    cases ex : lvl sg m.ss m.n _ with
    | none => rw [ex] at q; cases q
    | some x => exact run_reach _ _ _ _ rfl (lvl_run o hsg _ _ _ ex)
  | step hs _ ih => exact .step hs ih
/-- where there is such an F nothing is endless -/
theorem pot_not_endl {sg : Int} {m : MD} (o : m.Ok) (hsg : sg = 1 ∨ sg = -1) {N : Nat → Prop} {F : Nat → Int} (p : Pot sg m N F) : ∀ k, Endl sg m k → ¬ N k := fun k h => by
  induction h with
  | base h =>
    rename_i k
    intro hk
    have q := (mem_impL o k).mp h
    unfold impr at q
    cases ex : lvl sg m.ss m.n k with
    | none => rw [ex] at q; cases q
    | some x =>
      rw [ex] at q
      have hr := lvl_run o hsg _ _ _ ex
      obtain ⟨w', t', h1, h2, h3⟩ := pot_short o p hk x.2.length x.2 _ (Nat.le_refl _) hr
      obtain ⟨y, ey, hy⟩ := best_short o hsg h1 h2
      rw [ey] at q
      have q : y.1 < x.1 := of_decide_eq_true q
      rcases hsg with rfl | rfl <;> omega
  | step hs hb ih => exact fun he => ih (p _ hs (endl_reach o hsg _ hb) he).1
/-! ### the least and greatest tallies of several stands -/
theorem reach_run {m : MD} (o : m.Ok) {k : Nat} (h : Reach m.ss [0] k) : ∃ w t, run m w = some (k, t) := by
  induction h with
  | base h =>
    rw [List.mem_singleton.mp h]
    exact ⟨[], 0, rfl⟩
  | step hs _ ih =>
    obtain ⟨w, t, q⟩ := ih
    exact ⟨_, _, run_snoc.mpr ⟨_, _, _, q, stepOf_self o hs, rfl, rfl⟩⟩
theorem reach_bst {sg : Int} {m : MD} (o : m.Ok) (hsg : sg = 1 ∨ sg = -1) {k : Nat} (h : Reach m.ss [0] k) (ne : ¬ Endl sg m k) : ∃ y, bst sg m.ss m.n k = some y := by
  obtain ⟨w, t, q⟩ := reach_run o h
  obtain ⟨y, e, _⟩ := no_better o hsg w.length w k t rfl q ne
  exact ⟨y, e⟩
/-- what is told of the stands l: none of them may be endless -/
def EdgeOf (sg : Int) (m : MD) (l : List Nat) (r : V) : Prop := (r = .non ∧ ∃ k ∈ l, Endl sg m k) ∨
  ∃ v : Int, r = .int (sg * v) ∧ (∀ k ∈ l, ¬ Endl sg m k) ∧ (∃ k ∈ l, ∃ y, bst sg m.ss m.n k = some y ∧ y.1 = v) ∧ ∀ k ∈ l, ∀ y, bst sg m.ss m.n k = some y → y.1 ≤ v
theorem EdgeOf.uniq {sg : Int} {m : MD} {l : List Nat} {r r' : V} (h : EdgeOf sg m l r) (h' : EdgeOf sg m l r') : r = r' := by
  rcases h with ⟨e, k, hk, q⟩ | ⟨v, e, h1, ⟨k, hk, y, ey, hy⟩, h3⟩
  · rcases h' with ⟨e', _⟩ | ⟨v', e', h1', _⟩
    · rw [e, e']
    · exact absurd q (h1' k hk)
  · rcases h' with ⟨e', k', hk', q'⟩ | ⟨v', e', h1', ⟨k', hk', y', ey', hy'⟩, h3'⟩
    · exact absurd q' (h1 k' hk')
    · have a1 := h3 k' hk' y' ey'
      have a2 := h3' k hk y ey
      have : v = v' := by omega
      rw [e, e', this]
open Classical in
noncomputable def tl0 (sg : Int) (m : MD) (k : Nat) : V := if Endl sg m k then .str "endless" else match bst sg m.ss m.n k with
  | none => .non
  | some y => .int y.1
theorem tl0_flat {sg : Int} {m : MD} (l : List Nat) : (l.map (tl0 sg m)).all flatV = true := by
  rw [List.all_eq_true]
  intro v hv
  obtain ⟨k, _, rfl⟩ := List.mem_map.mp hv
  unfold tl0
  split
  · rfl
  · split <;> rfl
theorem tl0_in {sg : Int} {m : MD} {l : List Nat} (h : ∃ k ∈ l, Endl sg m k) : inV (.str "endless") (l.map (tl0 sg m)) = true := by
  obtain ⟨k, hk, e⟩ := h
  unfold inV
  rw [List.any_eq_true]
  refine ⟨.str "endless", List.mem_map.mpr ⟨k, hk, by unfold tl0; rw [if_pos e]⟩, by decide⟩
theorem tl0_out {sg : Int} {m : MD} {l : List Nat} (h : ¬ ∃ k ∈ l, Endl sg m k) : inV (.str "endless") (l.map (tl0 sg m)) = false := by
  cases q : inV (.str "endless") (l.map (tl0 sg m)) with
  | false => rfl
  | true =>
    exfalso
    unfold inV at q
    rw [List.any_eq_true] at q
    obtain ⟨v, hv, e⟩ := q
    obtain ⟨k, hk, rfl⟩ := List.mem_map.mp hv
    unfold tl0 at e
    rw [if_neg fun z => h ⟨k, hk, z⟩] at e
    split at e <;> cases e
noncomputable def bst1 (sg : Int) (m : MD) (k : Nat) : Int := ((bst sg m.ss m.n k).getD (0, [])).1
theorem reach_lt {m : MD} (o : m.Ok) {k : Nat} (h : Reach m.ss [0] k) : k < m.n := by
  cases h with
  | base h => rw [List.mem_singleton.mp h]; exact o.n1
  | step hs _ => exact (o.ok _ hs).e
/-! ### tallies at a stand -/
section
variable {P : Program} {w : World} {K : PySem.W.Frag} {mg : Str → Option Value} {base : Heap}
theorem ok_check_stand (T : Txt K mg) : FnOk P w K mg base (L2.CX P w) 4 T.a_check_stand T.fd_check_stand ["machine", "value"] (sp_check_stand K T.c_Machine) := by
  refine T.F_check_stand.okX sc_check_stand (fun vs H Q E h => ?_) (fun cdv A outer s H vs Q E hr h => ?_)
  · obtain ⟨x, n, m, rfl, _⟩ := h
    rfl
  · obtain ⟨x, n, m, rfl, ⟨dx, t, u, hx, _⟩, hn, k⟩ := h
    refine ⟨_, (PSs.nox (pss_one (ps_if (pt_not (pt_val (pe_call (ok_is_stand T) (hr.mono (by decide)) (by rfl) T.m_is_stand T.k_is_stand T.b_is_stand .nil passL (pa_cons (pe_prop (pv 0) T.cl_Machine T.p_stands (ok_Machine_stands T) (hr.mono (by decide)) T.b_Machine_stands .nil passL rfl) (pa_cons (pv 1) pa_nil)))))
  (pss_one ps_never)
  pss_nil))), ?_⟩
    walk_at "begin"
    walk_at "go"
    refine ⟨x, dx, _, rfl, hx, x, dx, _, .int (m.n : Nat), rfl, hx, rfl, ?_⟩
    walk_at "go"
    refine ⟨_, _, rfl, .inl ⟨_, rfl, ?_⟩⟩
    rw [decide_eq_true (show 0 ≤ ((n : Nat) : Int) ∧ ((n : Nat) : Int) < (m.n : Nat) from ⟨Int.natCast_nonneg _, by omega⟩)]
    walk_at "go"
    refine iteF ?_
    walk_at "go"
    exact k
theorem ok_tally_at (T : Txt K mg) : FnOk P w K mg base (L2.CX P w) 5 T.a_tally_at T.fd_tally_at ["machine", "stand", "sign"] (sp_at3 K T.c_Machine tallyAt) := by
  refine T.F_tally_at.okX sc_tally_at (fun vs H Q E h => ?_) (fun cdv A outer s H vs Q E hr h => ?_)
  · obtain ⟨x, n, sg, m, rfl, _⟩ := h
    rfl
  · obtain ⟨x, n, sg, m, rfl, hm, o, hn, hsg, k⟩ := h
    obtain ⟨dx, t, u, hx, _⟩ := id hm
    refine ⟨_, (PSs.nox (pss_cons (ps_expr (pe_call (ok_check_machine T) (hr.mono (by decide)) (by rfl) T.m_check_machine T.k_check_machine T.b_check_machine .nil passL (pa_cons (pv 0) pa_nil)))
  (pss_cons (ps_expr (pe_call (ok_check_stand T) (hr.mono (by decide)) (by rfl) T.m_check_stand T.k_check_stand T.b_check_stand .nil passL (pa_cons (pv 0) (pa_cons (pv 1) pa_nil))))
  (pss_cons (ps_set (i := 3) sc_tally_at.nd rfl (Or.inl rfl) (pe_call (ok_best_rows T) (hr.mono (by decide)) (by rfl) T.m_best_rows T.k_best_rows T.b_best_rows .nil passL (pa_cons (pe_prop (pv 0) T.cl_Machine T.p_stands (ok_Machine_stands T) (hr.mono (by decide)) T.b_Machine_stands .nil passL rfl) (pa_cons (pe_prop (pv 0) T.cl_Machine T.p_steps (ok_Machine_steps T) (hr.mono (by decide)) T.b_Machine_steps .nil passL rfl) (pa_cons (pv 2) pa_nil)))))
  (pss_cons (ps_if (pt_cmp (pc_dnotin (hu_of hr) (pv 1) (pv 3)) (by rfl))
  (pss_one (ps_ret pe_non))
  pss_nil)
  (pss_cons (ps_set (i := 4) sc_tally_at.nd rfl (Or.inl rfl) (pe_ix ix_tup (pe_dget (hu_of hr) (pv 3) (pv 1) (fun _ _ => rfl)) pe_int (fun _ _ => rfl)))
  (pss_one (ps_ret (pe_ifExp (pt_cmpR op_eq (pv 4) (pe_glob (by rfl) T.m_ENDLESS T.r_ENDLESS) (nomark _)) (pe_glob (by rfl) T.m_ENDLESS T.r_ENDLESS) (pe_op op_mulW (pv 2) (pv 4))))))))))), ?_⟩
    walk_at "begin"
    walk_at "go"
    refine ⟨x, dx, _, rfl, hx, ?_⟩
    walk_at "go"
    refine ⟨x, n, m, rfl, hm, hn, ?_⟩
    walk_at "go"
    obtain ⟨dx, t, u, hx, hp⟩ := id hm
    refine ⟨x, dx, _, rfl, hx, x, dx, _, .int (m.n : Nat), rfl, hx, rfl, ?_⟩
    walk_at "go"
    refine ⟨x, dx, _, rfl, hx, x, dx, _, .ref t, rfl, hx, rfl, ?_⟩
    walk_at "go"
    refine ⟨t, sg, m.n, m.ss, rfl, .of hp.1, o.sok, .of hsg, fun p kvs H1 l L z _ ep hl hL ok => ?_⟩
    rw [bestE_of o hl hL] at ok
    have k' := k H1 z
    have dg : DGet H1 p (.int (n : Nat)) (valV kvs (.inl (n : Int))) := DGet.k (k := .inl (n : Int)) ep
    walk_at "go"
    refine ⟨p, _, rfl, dg, ?_⟩
    walk_at "go"
    by_cases c : Endl sg m n
    · have e1 : bestE sg m n = some endE := by unfold bestE; rw [if_pos c]
      have e2 : tallyAt sg m n = .str "endless" := by unfold tallyAt; rw [if_pos c]
      obtain ⟨q, eq, sq⟩ := (ok.2 n).2 _ e1
      rw [eq] at dg ⊢
      rw [e2] at k'
      refine iteF ?_
      walk_at "go"
      refine ⟨p, _, rfl, dg, ?_⟩
      walk_at "go"
      refine k_ixT sq (v := .str "endless") rfl ?_
      walk_at "go"
      refine k_yes (by decide) ?_
      walk_at "go"
      exact k'
    · have e1 : bestE sg m n = E2 (bst sg m.ss m.n) n := by unfold bestE; rw [if_neg c]
      cases eb : bst sg m.ss m.n n with
      | none =>
        have e2 : tallyAt sg m n = .non := by unfold tallyAt; rw [if_neg c, eb]
        rw [(ok.2 n).1 (by rw [e1]; unfold E2; rw [eb]; rfl)]
        rw [e2] at k'
        refine iteT ?_
        walk_at "go"
        exact k'
      | some y =>
        have e2 : tallyAt sg m n = .int (sg * y.1) := by unfold tallyAt; rw [if_neg c, eb]
        obtain ⟨q, eq, sq⟩ := (ok.2 n).2 (ent2 y) (by rw [e1]; unfold E2; rw [eb]; rfl)
        rw [eq] at dg ⊢
        rw [e2] at k'
        obtain ⟨j, hj, ej⟩ := bst_of _ _ _ eb
        have sm := lvl_small o hsg j _ _ ej
        have n8 := o.n8
        refine iteF ?_
        walk_at "go"
        refine ⟨p, _, rfl, dg, ?_⟩
        walk_at "go"
        refine k_ixT sq (v := .int y.1) rfl ?_
        walk_at "go"
        refine k_no (decide_eq_false (by intro z; cases z)) ?_
        walk_at "go"
        refine k_I (wide_mul (a := 1) (b := 110) (by rcases hsg with rfl | rfl <;> decide) ?_ (by decide) (by decide) (by decide)) ?_
        · have : (j : Int) * 10 ^ 30 ≤ 8 * 10 ^ 30 := by omega
          omega
        · exact k'
theorem ok_greatest_at (T : Txt K mg) : FnOk P w K mg base (L2.CX P w) 6 T.a_greatest_at T.fd_greatest_at ["machine", "stand"] (sp_at2 K T.c_Machine (tallyAt 1)) := by
  refine T.F_greatest_at.okX sc_greatest_at (fun vs H Q E h => ?_) (fun cdv A outer s H vs Q E hr h => ?_)
  · obtain ⟨x, n, m, rfl, _⟩ := h
    rfl
  · obtain ⟨x, n, m, rfl, hm, o, hn, k⟩ := h
    refine ⟨_, (PSs.nox (pss_one (ps_ret (pe_call (ok_tally_at T) (hr.mono (by decide)) (by rfl) T.m_tally_at T.k_tally_at T.b_tally_at .nil passL (pa_cons (pv 0) (pa_cons (pv 1) (pa_cons pe_int pa_nil))))))), ?_⟩
    walk_at "begin"
    walk_at "go"
    exact ⟨x, n, 1, m, rfl, hm, o, hn, .inl rfl, k⟩
theorem ok_least_at (T : Txt K mg) : FnOk P w K mg base (L2.CX P w) 6 T.a_least_at T.fd_least_at ["machine", "stand"] (sp_at2 K T.c_Machine (tallyAt (-1))) := by
  refine T.F_least_at.okX sc_least_at (fun vs H Q E h => ?_) (fun cdv A outer s H vs Q E hr h => ?_)
  · obtain ⟨x, n, m, rfl, _⟩ := h
    rfl
  · obtain ⟨x, n, m, rfl, hm, o, hn, k⟩ := h
    refine ⟨_, (PSs.nox (pss_one (ps_ret (pe_call (ok_tally_at T) (hr.mono (by decide)) (by rfl) T.m_tally_at T.k_tally_at T.b_tally_at .nil passL (pa_cons (pv 0) (pa_cons (pv 1) (pa_cons (pe_un un_neg pe_int) pa_nil))))))), ?_⟩
    walk_at "begin"
    walk_at "go"
    exact ⟨x, n, -1, m, rfl, hm, o, hn, .inr rfl, k⟩
end
/-! ### the program's reached stands -/
section
variable {P : Program} {w : World} {K : PySem.W.Frag} {mg : Str → Option Value} {base : Heap}
theorem ok_reached (T : Txt K mg) : FnOk P w K mg base (L2.CX P w) 4 T.a_reached T.fd_reached ["machine"] (sp_reached K T.c_Machine) := by
  refine T.F_reached.okX sc_reached (fun vs H Q E h => ?_) (fun cdv A outer s H vs Q E hr h => ?_)
  · obtain ⟨x, m, rfl, _⟩ := h
    rfl
  · obtain ⟨x, m, rfl, hm, o, k⟩ := h
    obtain ⟨dx, t, u, hx, hp0⟩ := id hm
    refine ⟨_, (PSs.nox (pss_cons (ps_expr (pe_call (ok_check_machine T) (hr.mono (by decide)) (by rfl) T.m_check_machine T.k_check_machine T.b_check_machine .nil passL (pa_cons (pv 0) pa_nil)))
  (pss_one (ps_ret (pe_call (ok_led_to T) (hr.mono (by decide)) (by rfl) T.m_led_to T.k_led_to T.b_led_to .nil passL (pa_cons (pe_prop (pv 0) T.cl_Machine T.p_steps (ok_Machine_steps T) (hr.mono (by decide)) T.b_Machine_steps .nil passL rfl) (pa_cons (pe_lst (pa_cons pe_int pa_nil)) pa_nil))))))), ?_⟩
    walk_at "begin"
    walk_at "go"
    refine ⟨x, dx, _, rfl, hx, ?_⟩
    walk_at "go"
    refine ⟨x, dx, _, rfl, hx, x, dx, _, .ref t, rfl, hx, rfl, ?_⟩
    walk_at "go"
    refine ⟨(by decide : 1 ≤ sizeLine), fun p hp => ?_⟩
    walk_at "go"
    refine ⟨t, p, m.n, m.ss, [0], rfl, .of ((Tups.new hp).stAt hp0.1), o.sok, upd_same, fun n hn => by rw [List.mem_singleton.mp hn]; exact o.n1, by decide, fun q l' H' z hq eq h1 h2 => k q l' H' ((Same.new hp).trans z) ?_ eq h1 h2⟩
    cases e : H q with
    | none => rfl
    | some ob => rw [Same.new hp _ _ e] at hq; cases hq
end
/-! ### the program's least and greatest of several stands -/
def sp_best_of (K : PySem.W.Frag) : Sp := fun vs H Q _ => ∃ (x p : Addr) (sg : Int) (m : MD) (l : List Nat), vs = [.int (m.n : Nat), .ref x, .int sg, .ref p] ∧ StAt K H x m.ss ∧ m.Ok ∧ (sg = 1 ∨ sg = -1) ∧ H p = some (.lst (nats l)) ∧
  l ≠ [] ∧ l.length ≤ 8 ∧ (∀ k ∈ l, Reach m.ss [0] k) ∧ ∀ r H', Same H H' → EdgeOf sg m l r → Q r H'
def sp_pair (K : PySem.W.Frag) : Sp := fun vs H Q _ => ∃ (x p : Addr) (m : MD) (l : List Nat), vs = [.int (m.n : Nat), .ref x, .ref p] ∧ StAt K H x m.ss ∧ m.Ok ∧ H p = some (.lst (nats l)) ∧
  l ≠ [] ∧ l.length ≤ 8 ∧ (∀ k ∈ l, Reach m.ss [0] k) ∧ ∀ r1 r2 q H', Same H H' → H q = none → H' q = some (.tup [r1, r2]) → EdgeOf (-1) m l r1 → EdgeOf 1 m l r2 → Q (.ref q) H'
section
variable {P : Program} {w : World} {K : PySem.W.Frag} {mg : Str → Option Value} {base : Heap}
theorem ok_best_of (T : Txt K mg) : FnOk P w K mg base (L2.CX P w) 5 T.a_best_of T.fd_best_of ["many", "steps", "sign", "stands"] (sp_best_of K) := by
  refine T.F_best_of.okX sc_best_of (fun vs H Q E h => ?_) (fun cdv A outer s H vs Q E hr h => ?_)
  · obtain ⟨x, p, sg, m, l, rfl, _⟩ := h
    rfl
  · obtain ⟨x, p, sg, m, l, rfl, hm, o, hsg, hp, hne, h8, hre, k⟩ := h
    refine ⟨_, (PSs.nox (pss_cons (ps_set (i := 4) sc_best_of.nd rfl (Or.inr rfl) (pe_call (ok_best_rows T) (hr.mono (by decide)) (by rfl) T.m_best_rows T.k_best_rows T.b_best_rows .nil passL (pa_cons (pv 0) (pa_cons (pv 1) (pa_cons (pv 2) pa_nil)))))
  (pss_cons (ps_setLc (i := 5) (own := [("stand", 6)]) (g := (gName 6)) (tt := tYes) rfl sc_best_of.nd rfl rfl (sw_true rfl rfl rfl (by decide +kernel)) (pi_list (pv 3)) (blkOk_by (own := [("stand", 6)]) (N := ["many", "steps", "sign", "stands", "best", "tallies", "stand"]) (sc := defScope s_best_of) (by decide +kernel)) (fun _ _ _ _ _ => (pg_name (i := 6) sc_best_of.nd rfl (Or.inl rfl))) (fun _ _ _ _ _ => pts_nil) (fun _ _ _ _ _ => (pe_ix (show IxR _ (rIxT K) from ix_tup) (pe_dget (hu_of hr) (pv 4) (pv 6) (fun _ _ => rfl)) pe_int (fun _ _ => rfl))))
  (pss_one (ps_ret (pe_ifExp (pt_cmpR op_in_seq (pe_glob (by rfl) T.m_ENDLESS T.r_ENDLESS) (pv 5) (by rfl)) pe_non (pe_op op_mulW (pv 2) (pe_callB (cr_max rfl) (by rfl) T.z_max (by decide +kernel) (pa_cons (pv 5) pa_nil))))))))), ?_⟩
    walk_at "begin"
    walk_at "go"
    refine ⟨x, sg, m.n, m.ss, rfl, .of hm, o.sok, .of hsg, fun pb kvs H1 li L z1 _ epb hl hL ok => ?_⟩
    rw [bestE_of o hl hL] at ok
    have hp1 := z1 _ _ hp
    walk_at "go"
    refine ⟨p, rfl, ⟨_, SqL.of hp1⟩, fun D hD => ?_⟩
    have npD : pb ≠ D := by intro e; rw [e] at epb; rw [epb] at hD; cases hD
    refine lc_list (xs := nats l) (fun i H' => Same H1 H' ∧ H' D = some (.lst ((l.take i).map (tl0 sg m)))) ⟨Same.new hD, upd_same⟩ (fun _ H' _ ⟨z, _⟩ => SqL.of (z _ _ hp1)) ?_ ?_
    · rintro i y H2 hy ⟨z2, eD⟩
      obtain ⟨n, en, rfl⟩ := nats_at hy
      have hn : n ∈ l := List.mem_of_getElem? en
      have tk : (l.take (i + 1)).map (tl0 sg m) = (l.take i).map (tl0 sg m) ++ [tl0 sg m n] := by rw [List.take_add_one, en, List.map_append]; rfl
      rw [tk]
      have dg : DGet H2 pb (.int (n : Nat)) (valV kvs (.inl (n : Int))) := DGet.k (k := .inl (n : Int)) (z2 _ _ epb)
      have ok2 := ok.tups (same_tups z2)
      have lt : ((l.take i).map (tl0 sg m)).length < sizeLine := by
        rw [List.length_map, List.length_take]
        exact Nat.lt_of_le_of_lt (show _ ≤ 8 by omega) (by decide)
      walk_at "go"
      refine ⟨rfl, ?_⟩
      walk_at "go"
      refine iteT ?_
      walk_at "go"
      by_cases c : Endl sg m n
      · have e1 : bestE sg m n = some endE := by unfold bestE; rw [if_pos c]
        obtain ⟨q, eq, sq⟩ := (ok2.2 n).2 _ e1
        rw [eq] at dg
        refine ⟨pb, _, rfl, dg, ?_⟩
        walk_at "go"
        refine k_ixT sq (v := .str "endless") rfl ?_
        have e2 : tl0 sg m n = .str "endless" := by unfold tl0; rw [if_pos c]
        rw [e2]
        exact ⟨_, eD, lt, Same.mut z2 hD, upd_same⟩
      · obtain ⟨yv, eb⟩ := reach_bst o hsg (hre n hn) c
        have e1 : bestE sg m n = E2 (bst sg m.ss m.n) n := by unfold bestE; rw [if_neg c]
        obtain ⟨q, eq, sq⟩ := (ok2.2 n).2 (ent2 yv) (by rw [e1]; unfold E2; rw [eb]; rfl)
        rw [eq] at dg
        refine ⟨pb, _, rfl, dg, ?_⟩
        walk_at "go"
        refine k_ixT sq (v := .int yv.1) rfl ?_
        have e2 : tl0 sg m n = .int yv.1 := by unfold tl0; rw [if_neg c, eb]
        rw [e2]
        exact ⟨_, eD, lt, Same.mut z2 hD, upd_same⟩
    · rintro H2 ⟨z2, eD⟩
      have eD : H2 D = some (.lst (l.map (tl0 sg m))) := by
        rw [eD]
        unfold nats
        rw [List.length_map, List.take_length]
      walk_at "go"
      refine ⟨D, _, rfl, .inl (SqL.of eD), rfl, tl0_flat l, ?_⟩
      by_cases c : ∃ k ∈ l, Endl sg m k
      · walk_at "go"
        refine k_yes (tl0_in c) ?_
        walk_at "go"
        exact k _ _ (z1.trans z2) (.inl ⟨rfl, c⟩)
      · walk_at "go"
        refine k_no (tl0_out c) ?_
        walk_at "go"
        have nk : ∀ k ∈ l, ¬ Endl sg m k := fun k hk e => c ⟨k, hk, e⟩
        have em : l.map (tl0 sg m) = (l.map (bst1 sg m)).map V.int := by
          rw [List.map_map]
          refine List.map_congr_left fun k hk => ?_
          obtain ⟨yv, eb⟩ := reach_bst o hsg (hre k hk) (nk k hk)
          show tl0 sg m k = .int (bst1 sg m k)
          unfold tl0 bst1
          rw [if_neg (nk k hk), eb]
          rfl
        rw [em] at eD
        refine ⟨D, _, rfl, SqL.of eD, ?_, fun v hv hmax => ?_⟩
        · rw [List.length_map]
          exact List.length_pos_iff.mpr hne
        · obtain ⟨kb, hkb, rfl⟩ := List.mem_map.mp hv
          obtain ⟨yv, eb⟩ := reach_bst o hsg (hre kb hkb) (nk kb hkb)
          have ev : bst1 sg m kb = yv.1 := by unfold bst1; rw [eb]; rfl
          obtain ⟨j, hj, ej⟩ := bst_of _ _ _ eb
          have sm := lvl_small o hsg j _ _ ej
          have n8 := o.n8
          rw [ev] at hmax ⊢
          refine k_I (wide_mul (a := 1) (b := 110) (by rcases hsg with rfl | rfl <;> decide) ?_ (by decide) (by decide) (by decide)) ?_
          · have : (j : Int) * 10 ^ 30 ≤ 8 * 10 ^ 30 := by omega
            omega
          · refine k _ _ (z1.trans z2) (.inr ⟨yv.1, rfl, nk, ⟨kb, hkb, yv, eb, rfl⟩, fun k2 hk2 y2 ey2 => ?_⟩)
            have := hmax (bst1 sg m k2) (List.mem_map.mpr ⟨k2, hk2, rfl⟩)
            unfold bst1 at this
            rw [ey2] at this
            exact this
theorem ok_least_and_greatest (T : Txt K mg) : FnOk P w K mg base (L2.CX P w) 6 T.a_least_and_greatest T.fd_least_and_greatest ["many", "steps", "stands"] (sp_pair K) := by
  refine T.F_least_and_greatest.okX sc_least_and_greatest (fun vs H Q E h => ?_) (fun cdv A outer s H vs Q E hr h => ?_)
  · obtain ⟨x, p, m, l, rfl, _⟩ := h
    rfl
  · obtain ⟨x, p, m, l, rfl, hm, o, hp, hne, h8, hre, k⟩ := h
    refine ⟨_, (PSs.nox (pss_one (ps_ret (pe_tup (pa_cons (pe_call (ok_best_of T) (hr.mono (by decide)) (by rfl) T.m_best_of T.k_best_of T.b_best_of .nil passL (pa_cons (pv 0) (pa_cons (pv 1) (pa_cons (pe_un un_neg pe_int) (pa_cons (pv 2) pa_nil))))) (pa_cons (pe_call (ok_best_of T) (hr.mono (by decide)) (by rfl) T.m_best_of T.k_best_of T.b_best_of .nil passL (pa_cons (pv 0) (pa_cons (pv 1) (pa_cons pe_int (pa_cons (pv 2) pa_nil))))) pa_nil)))))), ?_⟩
    walk_at "begin"
    walk_at "go"
    refine ⟨x, p, -1, m, l, rfl, hm, o, .inr rfl, hp, hne, h8, hre, fun r1 H1 z1 e1 => ?_⟩
    walk_at "go"
    refine ⟨x, p, 1, m, l, rfl, (same_tups z1).stAt hm, o, .inl rfl, z1 _ _ hp, hne, h8, hre, fun r2 H2 z2 e2 => ?_⟩
    walk_at "go"
    refine ⟨(by show 2 ≤ sizeLine; decide), fun q hq => ?_⟩
    have hq0 : H q = none := by
      cases e : H q with
      | none => rfl
      | some ob => rw [(z1.trans z2) _ _ e] at hq; cases hq
    exact k r1 r2 q _ ((z1.trans z2).trans (Same.new hq)) hq0 upd_same e1 e2
end
/-! ### bounds, end_bounds -/
def sp_bounds (K : PySem.W.Frag) (C : Addr) : Sp := fun vs H Q _ => ∃ (x : Addr) (m : MD), vs = [.ref x] ∧ MAt K C H x m ∧ m.Ok ∧
  ∀ (l : List Nat) r1 r2 q H', (∀ n, n ∈ l ↔ Reach m.ss [0] n) → Same H H' → H q = none → H' q = some (.tup [r1, r2]) → EdgeOf (-1) m l r1 → EdgeOf 1 m l r2 → Q (.ref q) H'
def sp_ebounds (K : PySem.W.Frag) (C : Addr) : Sp := fun vs H Q _ => ∃ (x : Addr) (m : MD), vs = [.ref x] ∧ MAt K C H x m ∧ m.Ok ∧
  ∀ (l : List Nat), (∀ n, n ∈ l ↔ Reach m.ss [0] n ∧ n ∈ m.es) → (l = [] → ∀ H', Same H H' → Q .non H') ∧
    (l ≠ [] → ∀ r1 r2 q H', Same H H' → H q = none → H' q = some (.tup [r1, r2]) → EdgeOf (-1) m l r1 → EdgeOf 1 m l r2 → Q (.ref q) H')
section
variable {P : Program} {w : World} {K : PySem.W.Frag} {mg : Str → Option Value} {base : Heap}
theorem ok_bounds (T : Txt K mg) : FnOk P w K mg base (L2.CX P w) 7 T.a_bounds T.fd_bounds ["machine"] (sp_bounds K T.c_Machine) := by
  refine T.F_bounds.okX sc_bounds (fun vs H Q E h => ?_) (fun cdv A outer s H vs Q E hr h => ?_)
  · obtain ⟨x, m, rfl, _⟩ := h
    rfl
  · obtain ⟨x, m, rfl, hm, o, k⟩ := h
    obtain ⟨dx, t, u, hx, hpp⟩ := id hm
    refine ⟨_, (PSs.nox (pss_cons (ps_expr (pe_call (ok_check_machine T) (hr.mono (by decide)) (by rfl) T.m_check_machine T.k_check_machine T.b_check_machine .nil passL (pa_cons (pv 0) pa_nil)))
  (pss_one (ps_ret (pe_call (ok_least_and_greatest T) (hr.mono (by decide)) (by rfl) T.m_least_and_greatest T.k_least_and_greatest T.b_least_and_greatest .nil passL (pa_cons (pe_prop (pv 0) T.cl_Machine T.p_stands (ok_Machine_stands T) (hr.mono (by decide)) T.b_Machine_stands .nil passL rfl) (pa_cons (pe_prop (pv 0) T.cl_Machine T.p_steps (ok_Machine_steps T) (hr.mono (by decide)) T.b_Machine_steps .nil passL rfl) (pa_cons (pe_call (ok_reached T) (hr.mono (by decide)) (by rfl) T.m_reached T.k_reached T.b_reached .nil passL (pa_cons (pv 0) pa_nil)) pa_nil)))))))), ?_⟩
    walk_at "begin"
    walk_at "go"
    refine ⟨x, dx, _, rfl, hx, ?_⟩
    walk_at "go"
    refine ⟨x, dx, _, rfl, hx, x, dx, _, .int (m.n : Nat), rfl, hx, rfl, ?_⟩
    walk_at "go"
    refine ⟨x, dx, _, rfl, hx, x, dx, _, .ref t, rfl, hx, rfl, ?_⟩
    walk_at "go"
    refine ⟨x, m, rfl, hm, o, fun q l H1 z1 hq eq mem asc => ?_⟩
    have l8 : l.length ≤ 8 := Nat.le_trans (nodup_small (asc.imp fun {a b} h => Nat.ne_of_lt h) fun n hn => reach_lt o ((mem n).mp hn)) o.n8
    walk_at "go"
    refine ⟨t, q, m, l, rfl, (same_tups z1).stAt hpp.1, o, eq, fun e => ?_, l8, fun n hn => (mem n).mp hn, fun r1 r2 q2 H2 z2 hq2 eq2 e1 e2 => k l r1 r2 q2 H2 mem (z1.trans z2) (free_of z1 hq2) eq2 e1 e2⟩
    have := (mem 0).mpr (.base (List.mem_singleton.mpr rfl))
    rw [e] at this
    cases this
end
/-! ### what the law tells of each stand -/
def ToldOk (sg : Int) (m : MD) (kvs : List (Key × V)) : Prop := ∀ n : Nat, (Reach m.ss [0] n → valV kvs (.inl (n : Int)) = some (tl0 sg m n)) ∧ (¬ Reach m.ss [0] n → valV kvs (.inl (n : Int)) = none)
/-! ### every reached stand has a short row -/
theorem pot_zero {m : MD} : Pot 0 m (fun n => Reach m.ss [0] n ∨ ¬ Reach m.ss [0] n) (fun _ => 0) := fun s _ _ _ => ⟨Classical.em _, by rw [Int.zero_mul]; exact Int.le_refl _⟩
theorem short_row {m : MD} (o : m.Ok) {k : Nat} (h : Reach m.ss [0] k) : ∃ w t, w.length < m.n ∧ run m w = some (k, t) := by
  obtain ⟨w, t, q⟩ := reach_run o h
  obtain ⟨w', t', h1, h2, _⟩ := pot_short (sg := 0) o pot_zero (k := k) (Classical.em _) w.length w t (Nat.le_refl _) q
  exact ⟨w', t', h1, h2⟩
/-- the greatest sg * tally of the rows of length i to k -/
def IsMax (sg : Int) (m : MD) (i k : Nat) (v : Int) : Prop := (∃ w t, w.length = i ∧ run m w = some (k, t) ∧ sg * t = v) ∧ ∀ w t, w.length = i → run m w = some (k, t) → sg * t ≤ v
theorem lvl_max {sg : Int} {m : MD} (o : m.Ok) (hsg : sg = 1 ∨ sg = -1) {i k : Nat} {y : Int × Wd} (h : lvl sg m.ss i k = some y) : IsMax sg m i k y.1 := by
  refine ⟨⟨y.2, sg * y.1, (lvl_ok o i _ _ h).2, lvl_run o hsg i _ _ h, ?_⟩, fun w t hw hr => ?_⟩
  · rcases hsg with rfl | rfl <;> omega
  · obtain ⟨z, ez, nz⟩ := lvl_best o hsg i w k t hw hr
    rw [h] at ez
    cases ez
    exact nz.le
theorem IsMax.uniq {sg : Int} {m : MD} {i k : Nat} {v u : Int} (h : IsMax sg m i k v) (h' : IsMax sg m i k u) : v = u := by
  obtain ⟨⟨w, t, a, b, c⟩, d⟩ := h
  obtain ⟨⟨w', t', a', b', c'⟩, d'⟩ := h'
  have h1 := d _ _ a' b'
  have h2 := d' _ _ a b
  omega
theorem max_lvl {sg : Int} {m : MD} (o : m.Ok) (hsg : sg = 1 ∨ sg = -1) {i k : Nat} {v : Int} (h : IsMax sg m i k v) : ∃ y, lvl sg m.ss i k = some y ∧ y.1 = v := by
  obtain ⟨⟨w, t, a, b, c⟩, d⟩ := id h
  obtain ⟨y, ey, _⟩ := lvl_best o hsg i w k t a b
  exact ⟨y, ey, (lvl_max o hsg ey).uniq h⟩
/-- the greatest sg * tally of the rows to k of at most m.n letters -/
def MaxTo (sg : Int) (m : MD) (k : Nat) (v : Int) : Prop := (∃ w t, w.length ≤ m.n ∧ run m w = some (k, t) ∧ sg * t = v) ∧ ∀ w t, w.length ≤ m.n → run m w = some (k, t) → sg * t ≤ v
theorem maxTo_bst {sg : Int} {m : MD} (o : m.Ok) (hsg : sg = 1 ∨ sg = -1) {k : Nat} {v : Int} (h : MaxTo sg m k v) (ne : ¬ Endl sg m k) : ∃ y, bst sg m.ss m.n k = some y ∧ y.1 = v := by
  obtain ⟨⟨w, t, a, b, c⟩, d⟩ := h
  obtain ⟨y, ey, hy⟩ := no_better o hsg w.length w k t rfl b ne
  obtain ⟨⟨j, hj, ej, _⟩, _⟩ := bst_spec _ _ ey
  have h1 := d y.2 _ (by have := (lvl_ok o j _ _ ej).2; omega) (lvl_run o hsg j _ _ ej)
  refine ⟨y, ey, ?_⟩
  rcases hsg with rfl | rfl <;> omega
/-- the law's loose stands are the endless ones -/
theorem loose_endl {sg : Int} {m : MD} (o : m.Ok) (hsg : sg = 1 ∨ sg = -1) {F : Nat → Int} (hF : ∀ k, Reach m.ss [0] k → MaxTo sg m k (F k)) {Lz : Nat → Prop}
    (base : ∀ s ∈ m.ss, Reach m.ss [0] s.b → F s.e < F s.b + sg * s.g → Lz s.e) (closed : ∀ s ∈ m.ss, Lz s.b → Lz s.e)
    (sound : ∀ P : Nat → Prop, (∀ s ∈ m.ss, Reach m.ss [0] s.b → F s.e < F s.b + sg * s.g → P s.e) → (∀ s ∈ m.ss, P s.b → P s.e) → ∀ k, Lz k → P k) : ∀ k, Lz k ↔ Endl sg m k := fun k => by
  constructor
  · intro h
    refine sound (Endl sg m) (fun s hs hb hlt => ?_) (fun s hs hb => .step hs hb) k h
    apply Classical.byContradiction
    intro ne
    have nb : ¬ Endl sg m s.b := fun z => ne (.step hs z)
    obtain ⟨yb, eb, hyb⟩ := maxTo_bst o hsg (hF _ hb) nb
    obtain ⟨ye, ee, hye⟩ := maxTo_bst o hsg (hF _ (.step hs hb)) ne
    obtain ⟨⟨j, hj, ej, _⟩, _⟩ := bst_spec _ _ eb
    obtain ⟨y2, e2, h2⟩ := no_better o hsg _ _ _ _ rfl (run_snoc.mpr ⟨_, _, s, lvl_run o hsg j _ _ ej, stepOf_self o hs, rfl, rfl⟩) ne
    rw [ee] at e2
    cases e2
    rcases hsg with rfl | rfl <;> omega
  · intro h
    apply Classical.byContradiction
    intro nl
    refine pot_not_endl o hsg (N := fun n => ¬ Lz n) (F := F) (fun s hs hb hn => ⟨fun z => hn (closed s hs z), ?_⟩) k h nl
    apply Classical.byContradiction
    intro c
    exact hn (base s hs hb (by omega))
/-! ### dicts from stands to integers -/
abbrev LF := Nat → Option Int
def KvI (kvs : List (Key × V)) (f : LF) : Prop := (∀ p ∈ kvs, ∃ n : Nat, p.1 = .inl (n : Int)) ∧ ∀ n : Nat, valV kvs (.inl (n : Int)) = (f n).map V.int
theorem KvI.put {kvs : List (Key × V)} {f : LF} (h : KvI kvs f) (n : Nat) (v : Int) : KvI (putK kvs (.inl (n : Int)) (.int v)) (fun j => if j = n then some v else f j) := by
  refine ⟨fun q hq => ?_, fun j => ?_⟩
  · unfold putK at hq
    split at hq
    · obtain ⟨r, hr, rfl⟩ := List.mem_map.mp hq
      split
      · rename_i z; exact ⟨n, z⟩
      · exact h.1 r hr
    · rcases List.mem_append.mp hq with hq | hq
      · exact h.1 q hq
      · have : q = (.inl (n : Int), .int v) := by simpa using hq
        exact ⟨n, by rw [this]⟩
  · rw [valV_put]
    by_cases c : j = n
    · have c' : (Sum.inl (j : Int) : Key) = .inl (n : Int) := by rw [c]
      simp only [if_pos c, if_pos c']
      rfl
    · have c' : ¬ (Sum.inl (j : Int) : Key) = .inl (n : Int) := fun z => c (by injection z with z; omega)
      simp only [if_neg c, if_neg c']
      exact h.2 j
theorem KvI.key {kvs : List (Key × V)} {f : LF} (h : KvI kvs f) {k : Key} {v : V} (hk : (k, v) ∈ kvs) : ∃ (n : Nat) (u : Int), k = .inl (n : Int) ∧ f n = some u := by
  obtain ⟨n, rfl⟩ : ∃ n : Nat, k = .inl (n : Int) := h.1 _ hk
  cases e : f n with
  | some u => exact ⟨n, u, rfl, e⟩
  | none =>
    have q := h.2 n
    rw [e] at q
    have a := valV_any (.inl (n : Int) : Key) kvs
    rw [q] at a
    have : kvs.any (fun kv => decide (kv.1 = (.inl (n : Int) : Key))) = true := List.any_eq_true.mpr ⟨_, hk, decide_eq_true rfl⟩
    rw [this] at a
    cases a
theorem KvI.has {kvs : List (Key × V)} {f : LF} (h : KvI kvs f) {n : Nat} {u : Int} (e : f n = some u) : ∃ (i : Nat) (v : V), kvs[i]? = some ((Sum.inl (n : Int) : Key), v) := by
  have q := h.2 n
  rw [e] at q
  have a := valV_any (.inl (n : Int) : Key) kvs
  rw [q] at a
  obtain ⟨kv, hm, hd⟩ := List.any_eq_true.mp (a.trans rfl)
  obtain ⟨j, hj, ej⟩ := List.getElem_of_mem hm
  have hd' : kv.1 = .inl (n : Int) := of_decide_eq_true hd
  refine ⟨j, kv.2, ?_⟩
  rw [List.getElem?_eq_getElem hj, ej, ← hd']
theorem putK_nodup {kvs : List (Key × V)} (k : Key) (v : V) (h : (kvs.map (·.1)).Nodup) : ((putK kvs k v).map (·.1)).Nodup := by
  unfold putK
  split
  · rename_i c
    have : (kvs.map fun kv => if kv.1 = k then (kv.1, v) else kv).map (·.1) = kvs.map (·.1) := by
      rw [List.map_map]
      refine List.map_congr_left fun a _ => ?_
      show (if a.1 = k then (a.1, v) else a).1 = a.1
      split
      · rfl
      · rfl
    first
      | rw [this]; exact h
      | (show ((kvs.map _).map _).Nodup; rw [this]; exact h)
  · rename_i c
    rw [List.map_append]
    refine List.nodup_append.mpr ⟨h, by simp, fun a ha b hb e => ?_⟩
    have hb' : b = k := by simpa using hb
    obtain ⟨kv, hm, rfl⟩ := List.mem_map.mp ha
    exact c (List.any_eq_true.mpr ⟨kv, hm, decide_eq_true (by rw [e, hb'])⟩)
theorem KvI.len {kvs : List (Key × V)} {f : LF} {N : Nat} (h : KvI kvs f) (nd : (kvs.map (·.1)).Nodup) (hb : ∀ n u, f n = some u → n < N) : kvs.length ≤ N := by
  have all : ∀ p ∈ kvs, ∃ n : Nat, p.1 = .inl (n : Int) ∧ n < N := fun p hp => by
    obtain ⟨n, u, e, fe⟩ := h.key (k := p.1) (v := p.2) hp
    exact ⟨n, e, hb _ _ fe⟩
  obtain ⟨l, el, hl⟩ : ∃ l : List Nat, kvs.map (·.1) = l.map (fun n : Nat => (.inl (n : Int) : Key)) ∧ ∀ n ∈ l, n < N := by
    clear nd h
    induction kvs with
    | nil => exact ⟨[], rfl, fun n hn => absurd hn (by simp)⟩
    | cons a r ih =>
      obtain ⟨n, en, hn⟩ := all a List.mem_cons_self
      obtain ⟨l, el, hl⟩ := ih fun p hp => all p (List.mem_cons_of_mem _ hp)
      exact ⟨n :: l, by rw [List.map_cons, List.map_cons, el, en], fun k hk => by
        rcases List.mem_cons.mp hk with rfl | hk
        · exact hn
        · exact hl k hk⟩
  have e1 : kvs.length = l.length := by
    have := congrArg List.length el
    rwa [List.length_map, List.length_map] at this
  rw [e1]
  rw [el] at nd
  refine nodup_small ?_ hl
  have : ∀ l : List Nat, (l.map (fun n : Nat => (.inl (n : Int) : Key))).Nodup → l.Nodup := fun l => by
    induction l with
    | nil => exact fun _ => .nil
    | cons a r ih =>
      intro q
      rw [List.map_cons, List.nodup_cons] at q
      rw [List.nodup_cons]
      exact ⟨fun z => q.1 (List.mem_map.mpr ⟨a, z, rfl⟩), ih q.2⟩
  exact this l nd
/-! ### the law's own least and greatest tallies, length by length -/
/-- the greatest over these steps -/
def SMax (sg : Int) (f : LF) (ss : List Stp) (k : Nat) (r : Option Int) : Prop := (r = none ∧ ∀ s ∈ ss, s.e = k → f s.b = none) ∨
  ∃ v, r = some v ∧ (∃ s ∈ ss, s.e = k ∧ ∃ u, f s.b = some u ∧ v = u + sg * s.g) ∧ ∀ s ∈ ss, s.e = k → ∀ u, f s.b = some u → u + sg * s.g ≤ v
theorem SMax.uniq {sg : Int} {f : LF} {ss ss' : List Stp} {k : Nat} {r r' : Option Int} (h : SMax sg f ss k r) (h' : SMax sg f ss' k r') (q : ∀ s, f s.b ≠ none → (s ∈ ss ↔ s ∈ ss')) : r = r' := by
  have q1 : ∀ {s u}, f s.b = some u → (s ∈ ss ↔ s ∈ ss') := fun {s u} e => q s (by rw [e]; simp)
  rcases h with ⟨e, h⟩ | ⟨v, e, ⟨s, hs, hk, u, eu, ev⟩, h⟩
  · rcases h' with ⟨e', _⟩ | ⟨v', e', ⟨s, hs, hk, u, eu, _⟩, _⟩
    · rw [e, e']
    · have := h s ((q1 eu).mpr hs) hk
      rw [eu] at this
      cases this
  · rcases h' with ⟨e', h'⟩ | ⟨v', e', ⟨s', hs', hk', u', eu', ev'⟩, h'⟩
    · have := h' s ((q1 eu).mp hs) hk
      rw [eu] at this
      cases this
    · have a1 := h' s ((q1 eu).mp hs) hk u eu
      have a2 := h s' ((q1 eu').mpr hs') hk' u' eu'
      rw [e, e']
      congr 1
      omega
theorem SMax.snoc {sg : Int} {f : LF} {ss : List Stp} {g : LF} {s : Stp} {u : Int} (h : ∀ k, SMax sg f ss k (g k)) (eu : f s.b = some u) (k : Nat) :
    SMax sg f (ss ++ [s]) k (if (g s.e = none ∨ ∃ y, g s.e = some y ∧ y < u + sg * s.g) ∧ k = s.e then some (u + sg * s.g) else g k) := by
  by_cases ck : k = s.e
  · subst ck
    have hh := h s.e
    by_cases c : g s.e = none ∨ ∃ y, g s.e = some y ∧ y < u + sg * s.g
    · rw [if_pos ⟨c, rfl⟩]
      refine .inr ⟨_, rfl, ⟨s, by simp, rfl, u, eu, rfl⟩, fun s' hs' hk' u' eu' => ?_⟩
      rcases List.mem_append.mp hs' with hs' | hs'
      · rcases hh with ⟨e, h0⟩ | ⟨v, e, _, h0⟩
        · rw [h0 s' hs' hk'] at eu'
          cases eu'
        · have := h0 s' hs' hk' u' eu'
          rcases c with c | ⟨y, ey, hy⟩
          · rw [c] at e; cases e
          · rw [ey] at e
            cases e
            omega
      · rw [List.mem_singleton.mp hs', eu] at eu'
        cases eu'
        rw [List.mem_singleton.mp hs']
        exact Int.le_refl _
    · rw [if_neg fun z => c z.1]
      rcases hh with ⟨e, _⟩ | ⟨v, e, ⟨s', hs', hk', r⟩, h0⟩
      · exact absurd (.inl e) c
      · refine .inr ⟨v, e, ⟨s', List.mem_append_left _ hs', hk', r⟩, fun s2 hs2 hk2 u2 eu2 => ?_⟩
        rcases List.mem_append.mp hs2 with hs2 | hs2
        · exact h0 s2 hs2 hk2 u2 eu2
        · rw [List.mem_singleton.mp hs2, eu] at eu2
          cases eu2
          rw [List.mem_singleton.mp hs2]
          apply Classical.byContradiction
          intro z
          exact c (.inr ⟨v, e, by omega⟩)
  · rw [if_neg fun z => ck z.2]
    rcases h k with ⟨e, h0⟩ | ⟨v, e, ⟨s', hs', r⟩, h0⟩
    · refine .inl ⟨e, fun s2 hs2 hk2 => ?_⟩
      rcases List.mem_append.mp hs2 with hs2 | hs2
      · exact h0 s2 hs2 hk2
      · rw [List.mem_singleton.mp hs2] at hk2
        exact absurd hk2.symm ck
    · refine .inr ⟨v, e, ⟨s', List.mem_append_left _ hs', r⟩, fun s2 hs2 hk2 => ?_⟩
      rcases List.mem_append.mp hs2 with hs2 | hs2
      · exact h0 s2 hs2 hk2
      · rw [List.mem_singleton.mp hs2] at hk2
        exact absurd hk2.symm ck
def lvl1 (sg : Int) (ss : List Stp) (i : Nat) : LF := fun k => (lvl sg ss i k).map (·.1)
theorem lvl1_smax (sg : Int) (ss : List Stp) (i k : Nat) : SMax sg (lvl1 sg ss i) ss k (lvl1 sg ss (i + 1) k) := by
  have up : ∀ s ∈ ss, ∀ v, lvl sg ss i s.b = some v → ∃ z, lvl sg ss (i + 1) s.e = some z ∧ v.1 + sg * s.g ≤ z.1 := fun s hs v ev => by
    obtain ⟨z, ez, nz⟩ := longer_has (sg := sg) ev ss hs fun _ => none
    exact ⟨z, ez, nz.le⟩
  cases e : lvl sg ss (i + 1) k with
  | none =>
    refine .inl ⟨by unfold lvl1; rw [e]; rfl, fun s hs hk => ?_⟩
    cases e2 : lvl sg ss i s.b with
    | none => unfold lvl1; rw [e2]; rfl
    | some v =>
      obtain ⟨z, ez, _⟩ := up s hs v e2
      rw [hk, e] at ez
      cases ez
  | some y =>
    have at_ := longer_ind (sg := sg) (f := lvl sg ss i) (ss := ss) (P := fun n y => ∃ s ∈ ss, s.e = n ∧ ∃ u, lvl1 sg ss i s.b = some u ∧ y.1 = u + sg * s.g) (fun s hs v ev => ⟨s, hs, rfl, v.1, by unfold lvl1; rw [ev]; rfl, rfl⟩) k y e
    refine .inr ⟨y.1, by unfold lvl1; rw [e]; rfl, at_, fun s hs hk u eu => ?_⟩
    unfold lvl1 at eu
    cases e2 : lvl sg ss i s.b with
    | none => rw [e2] at eu; cases eu
    | some v =>
      rw [e2] at eu
      cases eu
      obtain ⟨z, ez, hz⟩ := up s hs v e2
      rw [hk, e] at ez
      cases ez
      exact hz
def LevAt (H : Hp) (us : List V) (lv : Nat → LF) (n : Nat) : Prop := us.length = n ∧ ∀ i, i < n → ∃ q kvs, us[i]? = some (.ref q) ∧ H q = some (.dK kvs) ∧ KvI kvs (lv i)
theorem LevAt.same {H H' : Hp} {us : List V} {lv : Nat → LF} {n : Nat} (h : LevAt H us lv n) (z : Same H H') : LevAt H' us lv n := ⟨h.1, fun i hi => let ⟨q, kvs, a, b, c⟩ := h.2 i hi; ⟨q, kvs, a, z _ _ b, c⟩⟩
theorem LevAt.snoc {H : Hp} {us : List V} {lv : Nat → LF} {n : Nat} {q : Addr} {kvs : List (Key × V)} (h : LevAt H us lv n) (eq : H q = some (.dK kvs)) (ok : KvI kvs (lv n)) : LevAt H (us ++ [.ref q]) lv (n + 1) := by
  refine ⟨by rw [List.length_append, h.1]; rfl, fun i hi => ?_⟩
  by_cases c : i < n
  · obtain ⟨q', kvs', a, b, c'⟩ := h.2 i c
    exact ⟨q', kvs', by rw [List.getElem?_append_left (by rw [h.1]; exact c)]; exact a, b, c'⟩
  · have e : i = n := by omega
    subst e
    exact ⟨q, kvs, by rw [← h.1, List.getElem?_append_right (Nat.le_refl _), Nat.sub_self]; rfl, eq, ok⟩
def sp_bests (K : PySem.W.Frag) : Sp := fun vs H Q _ => ∃ (d : Addr) (sg : Int) (L : Nat) (m : MD), vs = [.ref d, .int sg, .int (L : Nat)] ∧ DAt K H d m ∧ m.Ok ∧ (sg = 1 ∨ sg = -1) ∧ L ≤ 40 ∧
  ∀ p us H', Same H H' → H p = none → H' p = some (.lst us) → LevAt H' us (lvl1 sg m.ss) (L + 1) → (∀ q, V.ref q ∈ us → H q = none) → Q (.ref p) H'
theorem KvI.zero : KvI [(.inl 0, .int 0)] (lvl1 sg ss 0) := by
  refine ⟨fun p hp => ⟨0, by rw [List.mem_singleton.mp hp]; rfl⟩, fun n => ?_⟩
  unfold lvl1 lvl
  by_cases c : n = 0
  · subst c; rfl
  · rw [if_neg c]
    show valV [((.inl 0 : Key), V.int 0)] (.inl (n : Int)) = none
    have : ¬ (Sum.inl (0 : Int) : Key) = .inl (n : Int) := fun z => c (by injection z with z; omega)
    exact valV_neg (p := ((.inl 0 : Key), V.int 0)) this
theorem LevAt.put {H : Hp} {us : List V} {lv : Nat → LF} {n : Nat} {D : Addr} {ob : HO} (h : LevAt H us lv n) (e : ∀ q, V.ref q ∈ us → q ≠ D) : LevAt (upd H D ob) us lv n := ⟨h.1, fun i hi => let ⟨q, kvs, a, b, c⟩ := h.2 i hi; ⟨q, kvs, a, by rw [upd_ne (e q (List.mem_of_getElem? a))]; exact b, c⟩⟩
theorem LevAt.lst {H : Hp} {us : List V} {lv : Nat → LF} {n : Nat} {F : Addr} {xs : List V} {ob : HO} (h : LevAt H us lv n) (e : H F = some (.lst xs)) : LevAt (upd H F ob) us lv n := ⟨h.1, fun i hi => let ⟨q, kvs, a, b, c⟩ := h.2 i hi; ⟨q, kvs, a, by rw [upd_ne (fun z => by rw [z, e] at b; cases b)]; exact b, c⟩⟩
/-! ### the law's own greatest tallies and where there are none -/
def KvG (kvs : List (Key × V)) (g : Nat → Option V) : Prop := (∀ p ∈ kvs, ∃ n : Nat, p.1 = .inl (n : Int)) ∧ ∀ n : Nat, valV kvs (.inl (n : Int)) = g n
theorem KvG.put {kvs : List (Key × V)} {g : Nat → Option V} (h : KvG kvs g) (n : Nat) (v : V) : KvG (putK kvs (.inl (n : Int)) v) (fun j => if j = n then some v else g j) := by
  refine ⟨fun q hq => ?_, fun j => ?_⟩
  · unfold putK at hq
    split at hq
    · obtain ⟨r, hr, rfl⟩ := List.mem_map.mp hq
      split
      · rename_i z; exact ⟨n, z⟩
      · exact h.1 r hr
    · rcases List.mem_append.mp hq with hq | hq
      · exact h.1 q hq
      · have : q = (.inl (n : Int), v) := by simpa using hq
        exact ⟨n, by rw [this]⟩
  · rw [valV_put]
    by_cases c : j = n
    · have c' : (Sum.inl (j : Int) : Key) = .inl (n : Int) := by rw [c]
      simp only [if_pos c, if_pos c']
    · have c' : ¬ (Sum.inl (j : Int) : Key) = .inl (n : Int) := fun z => c (by injection z with z; omega)
      simp only [if_neg c, if_neg c']
      exact h.2 j
theorem KvG.keys {kvs : List (Key × V)} {g : Nat → Option V} (h : KvG kvs g) (nd : (kvs.map (·.1)).Nodup) : ∃ l : List Nat, kvs.map (·.1) = l.map (fun n : Nat => (.inl (n : Int) : Key)) ∧ l.Nodup ∧ ∀ n, n ∈ l ↔ g n ≠ none := by
  obtain ⟨l, el⟩ : ∃ l : List Nat, kvs.map (·.1) = l.map (fun n : Nat => (.inl (n : Int) : Key)) := by
    have all := h.1
    clear nd h
    induction kvs with
    | nil => exact ⟨[], rfl⟩
    | cons a r ih =>
      obtain ⟨n, en⟩ := all a List.mem_cons_self
      obtain ⟨l, el⟩ := ih fun p hp => all p (List.mem_cons_of_mem _ hp)
      exact ⟨n :: l, by rw [List.map_cons, List.map_cons, el, en]⟩
  refine ⟨l, el, ?_, fun n => ?_⟩
  · rw [el] at nd
    have : ∀ l : List Nat, (l.map (fun n : Nat => (.inl (n : Int) : Key))).Nodup → l.Nodup := fun l => by
      induction l with
      | nil => exact fun _ => .nil
      | cons a r ih =>
        intro q
        rw [List.map_cons, List.nodup_cons] at q
        rw [List.nodup_cons]
        exact ⟨fun z => q.1 (List.mem_map.mpr ⟨a, z, rfl⟩), ih q.2⟩
    exact this l nd
  · have a := valV_any (.inl (n : Int) : Key) kvs
    rw [h.2 n] at a
    have e1 : n ∈ l ↔ (.inl (n : Int) : Key) ∈ kvs.map (·.1) := by
      rw [el, List.mem_map]
      exact ⟨fun z => ⟨n, z, rfl⟩, fun ⟨k, hk, e⟩ => by rw [← (key_eq k n).mp e]; exact hk⟩
    rw [e1]
    constructor
    · intro hm z
      obtain ⟨kv, h1, h2⟩ := List.mem_map.mp hm
      rw [z] at a
      have : kvs.any (fun kv => decide (kv.1 = (.inl (n : Int) : Key))) = true := List.any_eq_true.mpr ⟨kv, h1, decide_eq_true h2⟩
      rw [this] at a
      cases a
    · intro z
      cases e : g n with
      | none => exact absurd e z
      | some v =>
        rw [e] at a
        obtain ⟨kv, h1, h2⟩ := List.any_eq_true.mp (a.trans rfl)
        exact List.mem_map.mpr ⟨kv, h1, of_decide_eq_true h2⟩
theorem KvG.len {kvs : List (Key × V)} {g : Nat → Option V} {N : Nat} (h : KvG kvs g) (nd : (kvs.map (·.1)).Nodup) (hb : ∀ n, g n ≠ none → n < N) : kvs.length ≤ N := by
  obtain ⟨l, el, nl, ml⟩ := h.keys nd
  have e1 : kvs.length = l.length := by
    have := congrArg List.length el
    rwa [List.length_map, List.length_map] at this
  rw [e1]
  exact nodup_small nl fun n hn => hb n ((ml n).mp hn)
def TKeys (m : MD) (kvs : List (Key × V)) : Prop := ∃ l : List Nat, kvs.map (·.1) = l.map (fun n : Nat => (.inl (n : Int) : Key)) ∧ l.Nodup ∧ ∀ n, n ∈ l ↔ Reach m.ss [0] n
def sp_most (K : PySem.W.Frag) : Sp := fun vs H Q _ => ∃ (d : Addr) (sg : Int) (m : MD), vs = [.ref d, .int sg] ∧ DAt K H d m ∧ m.Ok ∧ (sg = 1 ∨ sg = -1) ∧
  ∀ p kvs H', Same H H' → H p = none → H' p = some (.dK kvs) → ToldOk sg m kvs → TKeys m kvs → Q (.ref p) H'
/-- what is loose, so far -/
def SoundL (sg : Int) (m : MD) (F : Nat → Int) (Ls : List Nat) : Prop := ∀ P : Nat → Prop, (∀ s ∈ m.ss, Reach m.ss [0] s.b → F s.e < F s.b + sg * s.g → P s.e) → (∀ s ∈ m.ss, P s.b → P s.e) → ∀ k, k ∈ Ls → P k
theorem closed_full {m : MD} (o : m.Ok) {Ls : List Nat} (nd : Ls.Nodup) (lt : ∀ k ∈ Ls, k < m.n) (h : ClosedS m Ls ∨ m.n ≤ Ls.length) : ClosedS m Ls := by
  rcases h with h | h
  · exact h
  · intro s hs _
    apply Classical.byContradiction
    intro c
    have := nodup_small (F := s.e :: Ls) (n := m.n) (List.nodup_cons.mpr ⟨c, nd⟩) fun k hk => by
      rcases List.mem_cons.mp hk with rfl | hk
      · exact (o.ok s hs).e
      · exact lt k hk
    rw [List.length_cons] at this
    omega
theorem told_of {sg : Int} {m : MD} (o : m.Ok) (hsg : sg = 1 ∨ sg = -1) {f : LF} {kvs : List (Key × V)} {Ls : List Nat} (hf : ∀ k v, f k = some v → MaxTo sg m k v) (hr : ∀ k, Reach m.ss [0] k ↔ f k ≠ none)
    (base : ∀ s ∈ m.ss, Reach m.ss [0] s.b → (f s.e).getD 0 < (f s.b).getD 0 + sg * s.g → s.e ∈ Ls) (closed : ClosedS m Ls) (sound : SoundL sg m (fun k => (f k).getD 0) Ls)
    (ok : KvG kvs fun n => if n ∈ Ls then some (.str "endless") else (f n).map V.int) (nd : (kvs.map (·.1)).Nodup) : ToldOk sg m kvs ∧ TKeys m kvs := by
  have hF : ∀ k, Reach m.ss [0] k → MaxTo sg m k ((f k).getD 0) := fun k hk => by
    cases e : f k with
    | none => exact absurd e ((hr k).mp hk)
    | some v => exact hf k v e
  have el := loose_endl o hsg hF (Lz := fun k => k ∈ Ls) base closed sound
  have ok2 : ∀ n : Nat, valV kvs (.inl (n : Int)) = if n ∈ Ls then some (V.str "endless") else (f n).map V.int := ok.2
  have t : ToldOk sg m kvs := fun n => by
    rw [ok2 n]
    refine ⟨fun h => ?_, fun h => ?_⟩
    · by_cases c : n ∈ Ls
      · rw [if_pos c]
        unfold tl0
        rw [if_pos ((el n).mp c)]
      · rw [if_neg c]
        have ne := fun z => c ((el n).mpr z)
        obtain ⟨y, ey, hy⟩ := maxTo_bst o hsg (hF n h) ne
        unfold tl0
        rw [if_neg ne, ey]
        cases e : f n with
        | none => exact absurd e ((hr n).mp h)
        | some v =>
          rw [e] at hy
          show some (V.int v) = some (V.int y.1)
          rw [hy]
          rfl
    · have c : n ∉ Ls := fun c => h (endl_reach o hsg n ((el n).mp c))
      rw [if_neg c]
      cases e : f n with
      | none => rfl
      | some v => exact absurd ((hr n).mpr (by rw [e]; simp)) h
  refine ⟨t, ?_⟩
  obtain ⟨l, e1, e2, e3⟩ := ok.keys nd
  refine ⟨l, e1, e2, fun n => (e3 n).trans ?_⟩
  by_cases h : Reach m.ss [0] n
  · exact ⟨fun _ => h, fun _ => by
      show (if n ∈ Ls then some (V.str "endless") else (f n).map V.int) ≠ none
      rw [← ok2 n, (t n).1 h]; simp⟩
  · exact ⟨fun z => absurd (by
      show (if n ∈ Ls then some (V.str "endless") else (f n).map V.int) = none
      rw [← ok2 n]; exact (t n).2 h) z, fun z => absurd z h⟩
/-! ### list(d.values()) -/
theorem vals_by : ∀ {xs : List V} {l : List Value}, l.length = xs.length → (∀ (j : Nat) (v : Value), l[j]? = some v → ∃ x, xs[j]? = some x ∧ RelV x v) → Vals xs l
  | [], [], _, _ => .nil
  | [], _ :: _, h, _ => by cases h
  | _ :: _, [], h, _ => by cases h
  | x :: xs, v :: l, h, q => by
    obtain ⟨x', e, r⟩ := q 0 v rfl
    cases e
    exact .cons r (vals_by (Nat.succ.inj h) fun j u e => q (j + 1) u e)
theorem kv_by {κ : Type} : ∀ {kvs : List (κ × V)} {vs : List (κ × Value)}, KV kvs vs → ∀ {i : Nat} {k : κ} {v : Value}, vs[i]? = some (k, v) → ∃ x, (kvs.map (·.2))[i]? = some x ∧ RelV x v := by
  intro kvs vs r
  unfold KV at r
  induction r with
  | nil => intro i k v e; simp at e
  | cons h t ih =>
    intro i k v e
    cases i with
    | zero =>
      have e2 := Option.some.inj (show some _ = some (k, v) from e)
      rw [e2] at h
      exact ⟨_, rfl, h.2⟩
    | succ i => exact ih (i := i) (k := k) (v := v) (by simpa using e)
def tListVals (te : TE) : TE := fun σ H Q => te σ H fun x H1 => ∃ (d : Addr) (kvs : List (Key × V)), x = .ref d ∧ H1 d = some (.dK kvs) ∧ ∀ p, H1 p = none → Q (.ref p) (upd H1 p (.lst (kvs.map (·.2))))
theorem k_lvals {te : TE} {σ : L2.St} {H : Hp} {Q : VK} (h : te σ H fun x H1 => ∃ (d : Addr) (kvs : List (Key × V)), x = .ref d ∧ H1 d = some (.dK kvs) ∧ ∀ p, H1 p = none → Q (.ref p) (upd H1 p (.lst (kvs.map (·.2))))) : tListVals te σ H Q := h
open PySem.Spec PyProof.Rows in
theorem pe_listVals {X : Cx} {e : Expr} {te : TE} {p apos cpos pos : Pos} (hc : X.calm = true) (he : PE X e te) (hg : Gl X "list") (hm : X.mg "list" = none) (hv : bootBuiltins "list" = some (.type "list")) (hb : attributeBase e "values" X.env (eval e X.env) = eval e X.env := by rfl) (hl : (apos.endLine == cpos.line) = true := by rfl)
    (hs : starEach [.Call (.Attribute e "values" apos) [] [] cpos] X.env = (false, eval (.Call (.Attribute e "values" apos) [] [] cpos) X.env) :: starEach [] X.env := by rfl) : PE X (.Call (.Name "list" p) [.Call (.Attribute e "values" apos) [] [] cpos] [] pos) (tListVals te) := by
  constructor
  intro pins s σ H Q I hq
  refine wpAny_Call_Name_kw (ld_blt I hg hm hv ?_)
  refine PyProof.Rows.callWith_type1 ?_ hs rfl
  rw [hs]
  show wpAny _ _ (spliced ((false, eval (.Call (.Attribute e "values" apos) [] [] cpos) X.env) :: backTo pos (starEach [] X.env))) _ _ s
  refine Calls.spliced_cons ?_
  refine wpAny_Call_method (T := "dict") (id := "dict.values") hb rfl hl F.plainAttrs_dict F.slot_dict_values F.type_dict_values (thn (he.run pins s σ H _ I hq) ?_)
  rintro u s1 ⟨x, H1, I1, rx, d, kvs, rfl, hd, q⟩
  obtain rfl : u = Value.ref d := rx
  obtain ⟨hz, lo, vs, kv, hdo⟩ := I1.hok d _ hd
  obtain ⟨ep, hat⟩ := hdo.dictAt
  have lk : kvs.length = vs.length := Paired.length kv
  have I2 : Inv X pins σ H1 { s1 with heap := s1.heap.push { cls := .type "dict_values", data := .fields #[.ref d] } } := I1.kept (t' := s1.toks) fun b ob z => Heap.get?_push_of_some _ z
  refine ⟨hdo.typeIs, hdo.mapOf.noDict, ?_⟩
  show wpAny _ _ (callWith cpos (.builtin "dict.values") [.ref d] [] []) _ X.xe s1
  refine method_meetsIn F.slot_dict_values F.entry_dict_values rfl (PySem.evalArgs_none ⟨rfl, hdo.typeIs, F.args_dict_values_1 _, _, meets_dict_values (mixKind X.prog X.w) d lo, ⟨vs, hdo⟩, ?_⟩)
  refine Calls.spliced_nil ?_
  refine PySem.W.kdl_call (PySem.W.kdl_values (knd := mixKind X.prog X.w) (kvs := vs) (ep := ep)) (I1.ok.hd hc) ⟨⟨_, Heap.get?_push_size _ rfl, rfl, rfl⟩, hat.push _⟩ (by rw [← lk]; exact hz) ?_
  intro h' tk acc c hk hS hacc
  have hvv : Vals (kvs.map (·.2)) acc.toList := vals_by (by rw [Array.length_toList, List.length_map, lk]; exact hacc.1) fun j v e1 => by
    obtain ⟨k, e2⟩ := hacc.2 j v (by rw [← Array.getElem?_toList]; exact e1)
    exact kv_by kv e2
  refine ⟨.ref _, upd H1 _ (.lst (kvs.map (·.2))), I2.laid (t' := tk) hk (Nat.le_refl _) ?_, rfl, q _ (I2.hok.fresh (Nat.le_refl _))⟩
  show ObjOk X.prog X.w _ _ _ (.lst (kvs.map (·.2)))
  exact ⟨by rw [List.length_map]; exact hz, acc.toList, c, hvv, by rw [Array.toArray_toList]; exact hS⟩
/-! ### {(a, b): v for ..}: keys that are tuples -/
def tDcT (wi : TI) (g : TG) (tt : TT) (tk tv : TE) (vs : List Nat) : TE := fun σ H Q => wi σ H fun J H1 => ∀ D, H1 D = none → ∃ W : Nat → Nat → Hp → Prop, (∃ m, W 0 m (upd H1 D (.dT []))) ∧ ∀ i m H, W i m H →
  (J.stop i H ∧ Q (.ref D) H) ∨ (J.go i H ∧ ∃ Nx : Hp → Prop, (∀ H', Nx H' → ∃ m', m' < m ∧ W (i + 1) m' H') ∧ ∀ x H', J.yld i H x H' → g x (wipe σ vs) H' fun σ2 H2 => wipe σ2 vs = wipe σ vs ∧ tt σ2 H2 fun b H3 =>
    if b = true then tk σ2 H3 fun y H4 => tv σ2 H4 fun z H5 => ∃ kvs k b, y = .ref b ∧ H5 b = some (.tup (k.map kV)) ∧ H5 D = some (.dT kvs) ∧ kvs.length < sizeLine ∧ Nx (upd H5 D (.dT (putK kvs k z))) else Nx H3)
theorem dictSetT {X : Cx} {pins : List (Addr × Obj)} {σ : L2.St} {H : Hp} {s : Shared} {E : Value → Shared → Prop} {D b : Addr} {kvs : List (List Key × V)} {k : List Key} {v : V} {r : Value} {Q : Unit → Shared → Prop} (hu : X.A.units + 1 < cLine)
    (I : L2.Inv X pins σ H s) (eD : H D = some (.dT kvs)) (eb : H b = some (.tup (k.map kV))) (lz : kvs.length < sizeLine) (rv : RelV v r) (h : ∀ s', L2.Inv X pins σ (upd H D (.dT (putK kvs k v))) s' → Q () s') :
    wpAny (model X.prog X.w) X.A (dictSet D (.ref b) r) Q E s := by
  obtain ⟨z, nsm, xs, rel, dd⟩ := dt_of I.hok eD
  have lx : xs.length ≤ sizeLine := by rw [← Paired.length rel]; exact z
  have ll : (putK kvs k v).length ≤ sizeLine := Nat.le_trans (length_putK kvs k v) lz
  refine wpAny_dictSet_heap (hsz := lx) (Nat.lt_of_succ_lt hu) (key_of I.hok eb) dd fun h' dd' sb => h _ ?_
  obtain ⟨q, es, ep, eq, x2, x3, x4, _, x5⟩ := dd'
  refine d_write I (by rw [eD]; exact True.intro) sb ⟨q, eq⟩ ⟨ll, nsm, _, (rel.put k eb rv).keeps fun c ys ec => ?_, q, es, ep, eq, x2, x3, x4, x5⟩
  rw [upd_ne (ne_of ec eD (fun w => nomatch w))]
  exact ec
section
variable {X : Cx}
theorem dcT_core {pins : List (Addr × Obj)} {s : Shared} {σ : L2.St} {H : Hp} {Q : VK} {kx vx tg it : Expr} {ifs : List Expr} {sc : Scope} {own : List (Str × Nat)} {pos pos' : Pos} {wi : TI} {g : TG} {tt : TT} {tk tv : TE}
    {use : Option (Value → Sem Unit)} {Qf : Value → Shared → Prop} (hu : X.A.units + 1 < cLine) (hc : X.calm = true) (hN : X.N.Nodup) (I : L2.Inv X pins σ H s) (hi : PI X tg it wi) (ok : BlkOk X.N X.env.scope sc own)
    (hg : ∀ (s : Shared) (H : Hp) (C : Addr) (cl : List (Str × Addr)) (fp : List Addr), PG (X.blk s H sc (compEnvC sc cl C X.env) fp) tg g)
    (ht : ∀ (s : Shared) (H : Hp) (C : Addr) (cl : List (Str × Addr)) (fp : List Addr), PTs (X.blk s H sc (compEnvC sc cl C X.env) fp) ifs tt)
    (hk : ∀ (s : Shared) (H : Hp) (C : Addr) (cl : List (Str × Addr)) (fp : List Addr), PE (X.blk s H sc (compEnvC sc cl C X.env) fp) kx tk)
    (hv : ∀ (s : Shared) (H : Hp) (C : Addr) (cl : List (Str × Addr)) (fp : List Addr), PE (X.blk s H sc (compEnvC sc cl C X.env) fp) vx tv)
    (hs : ∀ x, foldedSetIterable it X.env x = pure x) (h : tDcT wi g tt tk tv (own.map (·.2)) σ H Q)
    (post : ∀ D C s' m H', L2.Inv X pins σ H' s' → Q (.ref D) H' → s'.heap.Ns C m → FpOk X pins H' C → compPost (model X.prog X.w) X.A X.xe use Qf (.ref D) C (.ok .next) s') :
    wpAny (model X.prog X.w) X.A (comprehension (.DictComp kx vx [⟨tg, it, ifs, 0⟩] sc pos) sc X.env pos' newDict false (eval it X.env) use) Qf X.xe s := by
  have fr : ∀ y ∈ sc.names, y.2 = .free → ∃ c, X.env.cells.lookup y.1 = some c := by
    intro y hy e
    exact (ok.free y hy e).elim (fun k => I.ok.has _ (.inl k)) (fun k => I.ok.has _ (.inr k))
  refine wpAny_comprehension_free (use := use) rfl hs (closure_ok fr) ok.kind (fun y hy e => by rw [ok.uniq y hy, e]) (thn (hi.run pins s σ H _ I h) ?_)
  intro xv p1 hx
  refine thn hx ?_
  rintro itv p2 ⟨ia, fp, tn, J, G2, rfl, J2, T, st2, f2, q⟩
  refine wpAny_newObj_type (newEnv_comp ?_)
  generalize eD : p2.heap.objs.size = D
  have nD : G2 D = none := J2.hok.fresh (Nat.le_of_eq eD)
  obtain ⟨W, ⟨m0, w0⟩, turn⟩ := q D nD
  generalize ep3 : ({ p2 with heap := p2.heap.push { cls := .type "dict", data := .dict #[] } } : Shared) = p3
  have J3 : L2.Inv X pins σ (upd G2 D (.dT [])) p3 := by
    rw [← ep3]
    refine J2.laid (t' := p2.toks) (fun b o e => Heap.get?_push_of_some _ e) (Nat.le_of_eq eD) ?_
    rw [← eD]
    exact dt_empty p2.heap J2.big
  have hp3 : p3.heap = p2.heap.push { cls := .type "dict", data := .dict #[] } := by rw [← ep3]
  have small : ∀ b ∈ fp, b < p2.heap.objs.size := by
    intro b hb
    obtain ⟨o, e, _⟩ := T.obj _ _ st2 b hb
    exact Heap.lt_size e
  have f3 : ∀ b ∈ fp, FpOk X pins (upd G2 D (.dT [])) b ∧ b < p3.heap.objs.size := by
    intro b hb
    have lt := small b hb
    have up : (upd G2 D (.dT [])) b = none := by
      rw [upd_ne (by rw [← eD]; exact Nat.ne_of_lt lt)]
      exact (f2 b hb).1
    exact ⟨⟨up, (f2 b hb).2⟩, by rw [hp3, Heap.size_push]; exact Nat.lt_succ_of_lt lt⟩
  have st3 : tn 0 p3.heap := T.keep _ _ _ st2 fun b _ o e => by rw [hp3]; exact Heap.get?_push_of_some _ e
  have J4 := block_start J3 ok hN f3
  have pG := hg p3 (upd G2 D (.dT [])) p3.heap.objs.size (cellsFrom (p3.heap.objs.size + 1) sc.names (cloFrom X.env.cells sc.names [])) fp
  have pT := ht p3 (upd G2 D (.dT [])) p3.heap.objs.size (cellsFrom (p3.heap.objs.size + 1) sc.names (cloFrom X.env.cells sc.names [])) fp
  have pK := hk p3 (upd G2 D (.dT [])) p3.heap.objs.size (cellsFrom (p3.heap.objs.size + 1) sc.names (cloFrom X.env.cells sc.names [])) fp
  have pV := hv p3 (upd G2 D (.dT [])) p3.heap.objs.size (cellsFrom (p3.heap.objs.size + 1) sc.names (cloFrom X.env.cells sc.names [])) fp
  show codeAny _ _ (.compStart (.DictComp kx vx [⟨tg, it, ifs, 0⟩] sc pos) 0 (.ref ia) (.ref D) (compEnvC sc (cellsFrom (p3.heap.objs.size + 1) sc.names (cloFrom X.env.cells sc.names [])) p3.heap.objs.size X.env))
    (compPost (model X.prog X.w) X.A X.xe use Qf (.ref D) p3.heap.objs.size) { p3 with heap := pushCells (p3.heap.push { cls := .type "dict", data := .dict #[] }) sc.names }
  have none3 : ∀ b ∈ fp, (upd G2 D (.dT [])) b = none := fun b hb => (f3 b hb).1.1
  generalize ece : compEnvC sc (cellsFrom (p3.heap.objs.size + 1) sc.names (cloFrom X.env.cells sc.names [])) p3.heap.objs.size X.env = ce at J4 pG pT pK pV ⊢
  have locs : ce.locals = p3.heap.objs.size := by subst ece; rfl
  generalize eG3 : upd G2 D (.dT []) = G3 at J3 J4 pG pT pK pV w0 none3 f3
  generalize ep4 : ({ p3 with heap := pushCells (p3.heap.push { cls := .type "dict", data := .dict #[] }) sc.names } : Shared) = p4 at J4 ⊢
  have st4 : tn 0 p4.heap := T.keep _ _ _ st3 fun b _ o e => by rw [← ep4]; exact pushCells_keeps _ _ _ _ (Heap.get?_push_of_some _ e)
  have here : ∀ {σ' : L2.St} {H' : Hp} {s' : Shared}, L2.Inv (X.blk p3 G3 sc ce fp) [] σ' H' s' → (∀ b ∈ fp, H' b = none) → ∀ b ∈ fp, FpOk (X.blk p3 G3 sc ce fp) [] H' b := by
    intro σ' H' s' Z hn b hb
    exact ⟨hn b hb, (Z.ok.exf b hb).1, Z.ok.exfs b hb, .inl hb, fun x c e => (Z.ok.exf b hb).2 x c e, fun p hp => absurd (show p ∈ ([] : List (Addr × Obj)) ++ [] from hp) (by simp)⟩
  have loop : codeAny (model X.prog X.w) X.A (.compLoop (.DictComp kx vx [⟨tg, it, ifs, 0⟩] sc pos) 0 (.ref ia) (.ref D) ce) (compPost (model X.prog X.w) X.A X.xe use Qf (.ref D) p3.heap.objs.size) p4 := by
    refine compLoop_anyD (fun n s' => ∃ i H', L2.Inv (X.blk p3 G3 sc ce fp) [] (wipe σ (own.map (·.2))) H' s' ∧ tn i s'.heap ∧ (∀ b ∈ fp, H' b = none) ∧ W i n H') ?_ m0 ⟨0, G3, J4, st4, none3, w0⟩
    rintro n p5 ⟨i, G5, J5, st5, n5, w5⟩
    rcases turn i n G5 w5 with ⟨stop, qq⟩ | ⟨go, Nx, hNx, step⟩
    · refine thnF (T.done (X.blk p3 G3 sc ce fp) rfl rfl rfl hc i [] p5 _ G5 (fun _ _ => False) J5 (here J5 n5) st5 stop) ?_
      rintro r p6 ⟨rfl, J6⟩
      have J7 : L2.Inv X pins σ G5 p6 := J3.call' (ch := fp) J6.os J6.base J6.hok J6.bare fun b hb => ⟨(f3 b hb).1.2.2.2.1, (f3 b hb).1.2.1, (f3 b hb).1.2.2.2.2.1, (f3 b hb).1.2.2.2.2.2⟩
      have nC : G5 p3.heap.objs.size = none := by
        have z : G5 ce.locals = none := J6.free
        rwa [locs] at z
      obtain ⟨m, hn, _⟩ := J6.loc
      have hn' : p6.heap.Ns ce.locals m := hn
      rw [locs] at hn'
      exact post D p3.heap.objs.size p6 m G5 J7 qq hn' (J3.fpOk (Nat.le_refl _) nC)
    · refine thnF (T.item (X.blk p3 G3 sc ce fp) rfl rfl rfl hc i [] p5 _ G5 (fun _ _ => False) J5 (here J5 n5) st5 go) ?_
      rintro r p6 ⟨u, rfl, h6⟩
      refine thnF h6 ?_
      rintro _ p7 ⟨x, G7, J7, r7, y7, st7, n7⟩
      have K7 := J7.pinned (here J7 n7) (T.obj _ _ st7)
      refine thnF (pG.run _ p7 _ G7 x u _ K7 r7 (step x G7 y7)) ?_
      rintro _ p8 ⟨σ8, G8, J8, hw8, q8⟩
      refine thnF (pT.run _ p8 σ8 G8 _ J8 q8) ?_
      rintro b p9 ⟨G9, J9, q9⟩
      have fin : ∀ {s' : Shared} {H' : Hp}, L2.Inv (X.blk p3 G3 sc ce fp) ([] ++ pinsAt fp p7.heap) σ8 H' s' → Nx H' →
          ∃ m, m < n ∧ ∃ i H', L2.Inv (X.blk p3 G3 sc ce fp) [] (wipe σ (own.map (·.2))) H' s' ∧ tn i s'.heap ∧ (∀ b ∈ fp, H' b = none) ∧ W i m H' := by
        intro s' H' Z nx
        obtain ⟨m', hm, w'⟩ := hNx H' nx
        have pin : ∀ b ∈ fp, ∀ o, p7.heap.get? b = some o → s'.heap.get? b = some o ∧ H' b = none := fun b hb o e =>
          let z := Z.pin (b, o) (List.mem_append_right _ (List.mem_append_right _ (mem_pinsAt hb e)))
          ⟨z.1, z.2.1⟩
        have len : (wipe σ (own.map (·.2))).length = σ8.length := by rw [← hw8, wipe_length]
        have back : L2.Inv (X.blk p3 G3 sc ce fp) [] (wipe σ (own.map (·.2))) H' s' := (Z.unpinned (pins := [])).weak len fun j v e => by
          rw [← hw8] at e
          exact (wipe_some e).1
        exact ⟨m', hm, i + 1, H', back, T.keep _ _ _ st7 fun b hb o e => (pin b hb o e).1, fun b hb => let ⟨o, e, _⟩ := T.obj _ _ st7 b hb; (pin b hb o e).2, w'⟩
      cases b with
      | false =>
        simp only [Bool.false_eq_true, if_false] at q9 ⊢
        exact fin J9 q9
      | true =>
        simp only [if_true] at q9 ⊢
        refine thnF (pK.run _ p9 σ8 G9 _ J9 q9) ?_
        rintro z p10 ⟨yk, G10, J10, r10, q10⟩
        refine thnF (pV.run _ p10 σ8 G10 _ J10 q10) ?_
        rintro z2 p11 ⟨yv, G11, J11, r11, kvs, k, kb, rfl, eb, eD11, lz, nx⟩
        cases (show z = Value.ref kb from r10)
        exact dictSetT (X := X.blk p3 G3 sc ce fp) hu J11 eD11 eb lz r11 fun p12 J12 => fin J12 nx
  exact codeAny_compStart_dict loop (T.self X.A 0 _ _ _ st4 loop)
theorem ps_setDcT {i : Nat} {y : Str} {py : Pos} {kx vx tg it : Expr} {ifs : List Expr} {scope : Scope} {own : List (Str × Nat)} {pos sp : Pos} {wi : TI} {g : TG} {tt : TT} {tk tv : TE} (hu : X.A.units + 1 < cLine) (hc : X.calm = true) (hN : X.N.Nodup)
    (hy : X.N[i]? = some y) (hyl : X.env.scope.names.lookup y = some .local) (hsw : swapsWith (.DictComp kx vx [⟨tg, it, ifs, 0⟩] scope pos) (some (.Name y py)) sp.line X.env = pure true)
    (hi : PI X tg it wi) (ok : BlkOk X.N X.env.scope scope own)
    (hg : ∀ (s : Shared) (H : Hp) (C : Addr) (cl : List (Str × Addr)) (fp : List Addr), PG (X.blk s H scope (compEnvC scope cl C X.env) fp) tg g)
    (ht : ∀ (s : Shared) (H : Hp) (C : Addr) (cl : List (Str × Addr)) (fp : List Addr), PTs (X.blk s H scope (compEnvC scope cl C X.env) fp) ifs tt)
    (hk : ∀ (s : Shared) (H : Hp) (C : Addr) (cl : List (Str × Addr)) (fp : List Addr), PE (X.blk s H scope (compEnvC scope cl C X.env) fp) kx tk)
    (hv : ∀ (s : Shared) (H : Hp) (C : Addr) (cl : List (Str × Addr)) (fp : List Addr), PE (X.blk s H scope (compEnvC scope cl C X.env) fp) vx tv)
    (hs : ∀ x, foldedSetIterable it X.env x = pure x := by intro _; rfl) :
    PS X (.Assign [.Name y py] (.DictComp kx vx [⟨tg, it, ifs, 0⟩] scope pos) sp) (tAsg (tDcT wi g tt tk tv (own.map (·.2))) (gName i)) := by
  constructor
  intro pins s σ H D I h
  rw [exec_Assign_Name_used _ _ _ _ hsw]
  refine wpAny_bind (wpAny_standAt (wpAny_bind ?_))
  show wpAny _ X.A (do let _ ← comprehension (.DictComp kx vx [⟨tg, it, ifs, 0⟩] scope pos) scope X.env (firstIterPos [⟨tg, it, ifs, 0⟩] pos) newDict false (eval it X.env) (some (assign (.Name y py) X.env))) _ _ s
  have h' : tDcT wi g tt tk tv (own.map (·.2)) σ H (fun x H1 => gName i x σ H1 D.nx) := h
  refine wpAny_bind (thn (dcT_core (Qf := fun _ s' => SP X pins D .next s') hu hc hN I hi ok hg ht hk hv hs h' ?_) fun _ s' hq => wpAny_pure (wpAny_pure hq))
  intro L C s' m H' I' q hn f
  show wpAny _ _ (assign (.Name y py) X.env (.ref L)) _ _ _
  refine wpAny_assign_Name (store_ok2 (v := V.ref L) I' hN hy (.inl hyl) rfl ?_ (.inr hyl))
  rintro s2 I2 ⟨a, sb, ha⟩
  obtain ⟨f0, f1, f2, f3, f4, f5⟩ := f
  have ne : C ≠ a := by
    rcases ha with z | z
    · rw [z]; exact f1
    · exact fun e => f4 y a z e.symm
  exact ⟨m, hn.sameBut sb ne, fun h3 sb3 => ⟨_, H', I2.turned (t' := s2.toks) (fun b o hb e => (sb3.2 b hb).trans e) f0 f1 f3 f4 f5, q⟩⟩
theorem pe_dcT {kx vx tg it : Expr} {ifs : List Expr} {scope : Scope} {own : List (Str × Nat)} {pos : Pos} {wi : TI} {g : TG} {tt : TT} {tk tv : TE} (hu : X.A.units + 1 < cLine) (hc : X.calm = true) (hN : X.N.Nodup) (hi : PI X tg it wi) (ok : BlkOk X.N X.env.scope scope own) (hg : ∀ (s : Shared) (H : Hp) (C : Addr) (cl : List (Str × Addr)) (fp : List Addr), PG (X.blk s H scope (compEnvC scope cl C X.env) fp) tg g) (ht : ∀ (s : Shared) (H : Hp) (C : Addr) (cl : List (Str × Addr)) (fp : List Addr), PTs (X.blk s H scope (compEnvC scope cl C X.env) fp) ifs tt) (hk : ∀ (s : Shared) (H : Hp) (C : Addr) (cl : List (Str × Addr)) (fp : List Addr), PE (X.blk s H scope (compEnvC scope cl C X.env) fp) kx tk) (hv : ∀ (s : Shared) (H : Hp) (C : Addr) (cl : List (Str × Addr)) (fp : List Addr), PE (X.blk s H scope (compEnvC scope cl C X.env) fp) vx tv) (hs : ∀ x, foldedSetIterable it X.env x = pure x := by intro _; rfl) :
    PE X (.DictComp kx vx [⟨tg, it, ifs, 0⟩] scope pos) (tDcT wi g tt tk tv (own.map (·.2))) := by
  constructor
  intro pins s σ H Q I h
  rw [arm_eval_DictComp]
  refine dcT_core hu hc hN I hi ok hg ht hk hv hs h ?_
  intro D C s' m H' I' q hn f
  refine ⟨m, hn, fun h3 sb => ?_⟩
  obtain ⟨f0, f1, f2, f3, f4, f5⟩ := f
  exact ⟨.ref D, H', I'.turned (t' := s'.toks) (fun b o hb e => (sb.2 b hb).trans e) f0 f1 f3 f4 f5, rfl, q⟩
/-- over a tuple that stays -/
theorem dcT_tup {K : PySem.W.Frag} {a : Addr} {xs : List V} {g : TG} {tt : TT} {tk tv : TE} {vs : List Nat} {σ : L2.St} {H1 : Hp} {D : Addr} {Qd : Hp → Prop} (Pv : Nat → Hp → Prop) (h0 : Pv 0 (upd H1 D (.dT [])))
    (hl : ∀ i H, i ≤ xs.length → Pv i H → SqT K H a xs)
    (hs : ∀ i x H, xs[i]? = some x → Pv i H → g x (wipe σ vs) H fun σ2 H2 => wipe σ2 vs = wipe σ vs ∧ tt σ2 H2 fun b H3 =>
      if b = true then tk σ2 H3 fun y H4 => tv σ2 H4 fun z H5 => ∃ kvs k b, y = .ref b ∧ H5 b = some (.tup (k.map kV)) ∧ H5 D = some (.dT kvs) ∧ kvs.length < sizeLine ∧ Pv (i + 1) (upd H5 D (.dT (putK kvs k z))) else Pv (i + 1) H3)
    (hd : ∀ H, Pv xs.length H → Qd H) :
    ∃ W : Nat → Nat → Hp → Prop, (∃ m, W 0 m (upd H1 D (.dT []))) ∧ ∀ i m H, W i m H → ((Itt K a).stop i H ∧ Qd H) ∨
      ((Itt K a).go i H ∧ ∃ Nx : Hp → Prop, (∀ H', Nx H' → ∃ m', m' < m ∧ W (i + 1) m' H') ∧ ∀ x H', (Itt K a).yld i H x H' → g x (wipe σ vs) H' fun σ2 H2 => wipe σ2 vs = wipe σ vs ∧ tt σ2 H2 fun b H3 =>
        if b = true then tk σ2 H3 fun y H4 => tv σ2 H4 fun z H5 => ∃ kvs k b, y = .ref b ∧ H5 b = some (.tup (k.map kV)) ∧ H5 D = some (.dT kvs) ∧ kvs.length < sizeLine ∧ Nx (upd H5 D (.dT (putK kvs k z))) else Nx H3) := by
  refine ⟨fun i m H => m + i = xs.length ∧ Pv i H, ⟨xs.length, by simp, h0⟩, fun i m H ⟨em, hP⟩ => ?_⟩
  have sq := hl i H (by omega) hP
  by_cases c : i < xs.length
  · refine .inr ⟨⟨xs, xs[i], sq, List.getElem?_eq_getElem c⟩, Pv (i + 1), fun H' z => ⟨m - 1, by omega, by omega, z⟩, ?_⟩
    rintro x H' ⟨rfl, hx⟩
    exact hs i x _ (hx xs sq) hP
  · have e : i = xs.length := by omega
    exact .inl ⟨⟨xs, sq, by omega⟩, hd H (e ▸ hP)⟩
theorem k_dcT {wi : TI} {g : TG} {tt : TT} {tk tv : TE} {vs : List Nat} {σ : L2.St} {H : Hp} {Q : VK} (h : wi σ H fun J H1 => ∀ D, H1 D = none → ∃ W : Nat → Nat → Hp → Prop, (∃ m, W 0 m (upd H1 D (.dT []))) ∧ ∀ i m H, W i m H →
  (J.stop i H ∧ Q (.ref D) H) ∨ (J.go i H ∧ ∃ Nx : Hp → Prop, (∀ H', Nx H' → ∃ m', m' < m ∧ W (i + 1) m' H') ∧ ∀ x H', J.yld i H x H' → g x (wipe σ vs) H' fun σ2 H2 => wipe σ2 vs = wipe σ vs ∧ tt σ2 H2 fun b H3 =>
    if b = true then tk σ2 H3 fun y H4 => tv σ2 H4 fun z H5 => ∃ kvs k b, y = .ref b ∧ H5 b = some (.tup (k.map kV)) ∧ H5 D = some (.dT kvs) ∧ kvs.length < sizeLine ∧ Nx (upd H5 D (.dT (putK kvs k z))) else Nx H3)) : tDcT wi g tt tk tv vs σ H Q := h
end
/-! ### where a row leads -/
def mkey (b c : Nat) : List Key := [.inl (b : Int), .inr ⟨#[c]⟩]
theorem mkey_inj {b c b' c' : Nat} : mkey b c = mkey b' c' ↔ b = b' ∧ c = c' := by
  constructor
  · intro h
    unfold mkey at h
    injection h with h1 h2
    injection h2 with h2 _
    injection h1 with h1
    injection h2 with h2
    injection h2 with h2
    exact ⟨by omega, by simpa using h2⟩
  · rintro ⟨rfl, rfl⟩
    rfl
def MvOk (K : PySem.W.Frag) (H : Hp) (kvs : List (List Key × V)) (ss : List Stp) : Prop := ∀ b c : Nat, ((∀ s ∈ ss, ¬ (s.b = b ∧ s.c = c)) → valV kvs (mkey b c) = none) ∧
  ∀ s ∈ ss, s.b = b → s.c = c → ∃ p, valV kvs (mkey b c) = some (.ref p) ∧ SqT K H p [.int (s.e : Nat), .int s.g]
theorem MvOk.tups {K : PySem.W.Frag} {H H' : Hp} {kvs : List (List Key × V)} {ss : List Stp} (h : MvOk K H kvs ss) (t : Tups H H') : MvOk K H' kvs ss := fun b c => ⟨(h b c).1, fun s hs e1 e2 => let ⟨p, q, z⟩ := (h b c).2 s hs e1 e2; ⟨p, q, t.sq z⟩⟩
theorem Tups.dT {p : Addr} {H : Hp} {kvs : List (List Key × V)} {o : HO} (h : H p = some (.dT kvs)) : Tups H (upd H p o) :=
  ⟨fun b xs e => by rw [upd_ne (fun z => by rw [z, h] at e; cases e)]; exact e, fun b _ xs e => by rw [upd_ne (fun z => by rw [z, h] at e; cases e)]; exact e⟩
theorem MvOk.snoc {K : PySem.W.Frag} {H : Hp} {kvs : List (List Key × V)} {ss : List Stp} {s : Stp} {p : Addr} (h : MvOk K H kvs ss) (hp : SqT K H p [.int (s.e : Nat), .int s.g]) (new : ∀ t ∈ ss, ¬ (t.b = s.b ∧ t.c = s.c)) : MvOk K H (putK kvs (mkey s.b s.c) (.ref p)) (ss ++ [s]) := by
  intro b c
  rw [valV_put]
  by_cases e : mkey b c = mkey s.b s.c
  · rw [if_pos e]
    obtain ⟨rfl, rfl⟩ := mkey_inj.mp e
    refine ⟨fun q => absurd ⟨rfl, rfl⟩ (q s (by simp)), fun t ht e1 e2 => ?_⟩
    rcases List.mem_append.mp ht with ht | ht
    · exact absurd ⟨e1, e2⟩ (new t ht)
    · rw [List.mem_singleton.mp ht]
      exact ⟨p, rfl, hp⟩
  · rw [if_neg e]
    refine ⟨fun q => (h b c).1 fun t ht => q t (List.mem_append_left _ ht), fun t ht e1 e2 => ?_⟩
    rcases List.mem_append.mp ht with ht | ht
    · exact (h b c).2 t ht e1 e2
    · rw [List.mem_singleton.mp ht] at e1 e2
      exact absurd (mkey_inj.mpr ⟨e1.symm, e2.symm⟩) e
/-- what is known of a value that is no text -/
def NotStr (K : PySem.W.Frag) (H : Hp) (v : V) : Prop := ∃ t, TyX K H v t ∧ PySem.W.kitOne K t (.type "str") = some false
def sp_moves (K : PySem.W.Frag) (C : Addr) : Sp := fun vs H Q _ => ∃ (x : Addr) (m : MD), vs = [.ref x] ∧ MAt K C H x m ∧ m.Ok ∧
  ∀ p kvs H', Same H H' → H p = none → H' p = some (.dT kvs) → MvOk K H' kvs m.ss → Q (.ref p) H'
def intsV (xs : List Int) : List V := xs.map V.int
/-- the sums of all beginnings -/
def SumsOf (m : MD) (b : Nat) (w : Wd) (xs : List Int) : Prop := xs.length = w.length + 1 ∧ ∀ j, j ≤ w.length → ∃ s t, runW m (b, 0) (w.take j) = some (s, t) ∧ xs[j]? = some t
theorem SumsOf.last {m : MD} {b : Nat} {w : Wd} {xs : List Int} {n : Nat} {t : Int} (h : SumsOf m b w xs) (e : runW m (b, 0) w = some (n, t)) : atI (intsV xs) (-1) = some (.int t) := by
  obtain ⟨s, t', e1, e2⟩ := h.2 w.length (Nat.le_refl _)
  rw [List.take_length, e] at e1
  cases e1
  have hl : (intsV xs).length = w.length + 1 := by unfold intsV; rw [List.length_map, h.1]
  unfold atI
  have : ixN (intsV xs).length (-1) = some w.length := by
    rw [hl]
    unfold ixN
    simp
    omega
  rw [this]
  show (intsV xs)[w.length]? = _
  unfold intsV
  rw [List.getElem?_map, e2]
  rfl
theorem SumsOf.snoc {m : MD} {b : Nat} {w : Wd} {c : Nat} {xs : List Int} {n : Nat} {t : Int} (h : SumsOf m b w xs) (e : runW m (b, 0) (w ++ [c]) = some (n, t)) : SumsOf m b (w ++ [c]) (xs ++ [t]) := by
  refine ⟨by rw [List.length_append, List.length_append, h.1]; rfl, fun j hj => ?_⟩
  rw [List.length_append, List.length_singleton] at hj
  by_cases cj : j ≤ w.length
  · obtain ⟨s, t', e1, e2⟩ := h.2 j cj
    refine ⟨s, t', ?_, ?_⟩
    · rw [List.take_append_of_le_length cj]; exact e1
    · rw [List.getElem?_append_left (by rw [h.1]; omega)]; exact e2
  · have ej : j = w.length + 1 := by omega
    refine ⟨n, t, ?_, ?_⟩
    · rw [List.take_of_length_le (by rw [List.length_append, List.length_singleton]; omega)]; exact e
    · rw [ej, ← h.1, List.getElem?_append_right (Nat.le_refl _), Nat.sub_self]
      rfl
def sp_way (K : PySem.W.Frag) (C : Addr) : Sp := fun vs H Q _ => ∃ (x : Addr) (b : Nat) (v : V) (m : MD), vs = [.ref x, .int (b : Nat), v] ∧ MAt K C H x m ∧ m.Ok ∧
  ((NotStr K H v ∧ Q .non H) ∨ ∃ z : Str, v = .str z ∧ z.cps.size ≤ 1000 ∧ (runW m (b, 0) z.cps.toList = none → ∀ H', Same H H' → Q .non H') ∧
    ∀ n t, runW m (b, 0) z.cps.toList = some (n, t) → ∀ p q xs H', Same H H' → H p = none → H' p = some (.tup [.int (n : Nat), .ref q]) → H' q = some (.lst (intsV xs)) → SumsOf m b z.cps.toList xs → Q (.ref p) H')
section
variable {P : Program} {w : World} {K : PySem.W.Frag} {mg : Str → Option Value} {base : Heap}
theorem ok_moves_of (T : Txt K mg) : FnOk P w K mg base (L2.CX P w) 3 T.a_moves_of T.fd_moves_of ["machine"] (sp_moves K T.c_Machine) := by
  refine T.F_moves_of.okX sc_moves_of (fun vs H Q E h => ?_) (fun cdv A outer s H vs Q E hr h => ?_)
  · obtain ⟨x, m, rfl, _⟩ := h
    rfl
  · obtain ⟨x, m, rfl, ⟨dx, t, u, hx, ⟨us, ht, hs⟩, hu⟩, o, k⟩ := h
    refine ⟨_, (PSs.nox (pss_one (ps_ret (pe_dcT (own := [("begun", 1), ("letter", 2), ("end", 3), ("gain", 4)]) (g := (gTup K 4 (gCons (gName 1) (gCons (gName 2) (gCons (gName 3) (gCons (gName 4) gNil)))))) (tt := tYes) (hu_of hr) rfl sc_moves_of.nd (pi_tup (pe_prop (pv 0) T.cl_Machine T.p_steps (ok_Machine_steps T) (hr.mono (by decide)) T.b_Machine_steps .nil passL rfl)) (blkOk_by (own := [("begun", 1), ("letter", 2), ("end", 3), ("gain", 4)]) (N := ["machine", "begun", "letter", "end", "gain"]) (sc := defScope s_moves_of) (by decide +kernel)) (fun _ _ _ _ _ => (pg_tup rfl (pgs_cons (pg_name (i := 1) sc_moves_of.nd rfl (Or.inl rfl)) (pgs_cons (pg_name (i := 2) sc_moves_of.nd rfl (Or.inl rfl)) (pgs_cons (pg_name (i := 3) sc_moves_of.nd rfl (Or.inl rfl)) (pgs_cons (pg_name (i := 4) sc_moves_of.nd rfl (Or.inl rfl)) pgs_nil)))))) (fun _ _ _ _ _ => pts_nil) (fun _ _ _ _ _ => (pe_tup (pa_cons (pv 1) (pa_cons (pv 2) pa_nil)))) (fun _ _ _ _ _ => (pe_tup (pa_cons (pv 3) (pa_cons (pv 4) pa_nil)))))))), ?_⟩
    walk_at "begin"
    refine k_ret ?_
    refine k_dcT ?_
    walk_at "go"
    refine ⟨x, dx, _, rfl, hx, x, dx, _, .ref t, rfl, hx, rfl, t, rfl, ⟨us, ht⟩, fun D hD => ?_⟩
    refine dcT_tup (xs := us) (fun i H' => Same H H' ∧ ∃ kvs, H' D = some (.dT kvs) ∧ MvOk K H' kvs (m.ss.take i) ∧ kvs.length ≤ i) ⟨Same.new hD, [], upd_same, fun b c => ⟨fun _ => rfl, fun s hs => by simp at hs⟩, Nat.le_refl _⟩
      (fun i H' _ ⟨z, _⟩ => (same_tups z).sq ht) ?_ ?_
    · rintro i y H1 hy ⟨z1, kvs, eD, mv, len⟩
      have il : i < m.ss.length := by rw [← hs.1]; exact (List.getElem?_eq_some_iff.mp hy).1
      have ei : m.ss[i]? = some (m.ss[i]'il) := List.getElem?_eq_getElem il
      obtain ⟨q, eq, hq⟩ := hs.2 i _ ei
      rw [hy] at eq
      cases eq
      have new : ∀ s ∈ m.ss.take i, ¬ (s.b = (m.ss[i]'il).b ∧ s.c = (m.ss[i]'il).c) := fun s h e => by
        obtain ⟨j, hj, ej⟩ := List.getElem_of_mem h
        rw [List.length_take] at hj
        rw [List.getElem_take] at ej
        have := List.pairwise_iff_getElem.mp o.up j i (by omega) il (by omega)
        rw [ej] at this
        rcases this with q | q <;> omega
      have tk : m.ss.take (i + 1) = m.ss.take i ++ [m.ss[i]'il] := by rw [List.take_add_one, ei]; rfl
      have l32 := o.len
      rw [tk]
      generalize m.ss[i]'il = s0 at hq new
      refine k_gt ((same_tups z1).sq hq) rfl ?_
      unfold stpV
      walk_at "go"
      refine ⟨rfl, ?_⟩
      walk_at "go"
      refine iteT ?_
      walk_at "go"
      refine ⟨(by decide : 2 ≤ sizeLine), fun pk hpk => ?_⟩
      walk_at "go"
      refine ⟨(by decide : 2 ≤ sizeLine), fun pv hpv => ?_⟩
      have zk := z1.trans (Same.new (o := .tup [.int (s0.b : Nat), .str ⟨#[s0.c]⟩]) hpk)
      have zv := zk.trans (Same.new (o := .tup [.int (s0.e : Nat), .int s0.g]) hpv)
      have npk : D ≠ pk := ne_of_none eD hpk
      have eDk : (upd H1 pk (.tup [.int (s0.b : Nat), .str ⟨#[s0.c]⟩])) D = some (.dT kvs) := by rw [upd_ne npk]; exact eD
      have npv : D ≠ pv := ne_of_none eDk hpv
      have eDv : (upd (upd H1 pk (.tup [.int (s0.b : Nat), .str ⟨#[s0.c]⟩])) pv (.tup [.int (s0.e : Nat), .int s0.g])) D = some (.dT kvs) := by rw [upd_ne npv]; exact eDk
      refine ⟨kvs, mkey s0.b s0.c, pk, rfl, Same.new hpv _ _ upd_same, eDv, Nat.lt_of_le_of_lt len (Nat.lt_trans (show i < 100 by omega) (by decide)), Same.mut zv hD, _, upd_same, ?_, ?_⟩
      · exact ((mv.tups ((Tups.new hpk).trans (Tups.new hpv))).snoc (SqT.of upd_same) new).tups (Tups.dT eDv)
      · have := length_putK kvs (mkey s0.b s0.c) (V.ref pv)
        omega
    · rintro H1 ⟨z1, kvs, eD, mv, len⟩
      rw [hs.1, List.take_length] at mv
      exact k D kvs H1 z1 hD eD mv
theorem ok_way (T : Txt K mg) : FnOk P w K mg base (L2.CX P w) 5 T.a_way T.fd_way ["machine", "stand", "value"] (sp_way K T.c_Machine) := by
  refine T.F_way.okX sc_way (fun vs H Q E h => ?_) (fun cdv A outer s H vs Q E hr h => ?_)
  · obtain ⟨x, b, v, m, rfl, _⟩ := h
    rfl
  · obtain ⟨x, b, v, m, rfl, hm, o, k⟩ := h
    refine ⟨_, (PSs.nox (pss_cons (ps_if (pt_not (pt_val (pe_callB call_isi (by rfl) T.z_isinstance (by decide +kernel) (pa_cons (pv 2) (pa_cons (pe_bltn (v := .ty "str") (by rfl) T.z_str (by decide +kernel) rfl) pa_nil)))))
  (pss_one (ps_ret pe_non))
  pss_nil)
  (pss_cons (ps_set (i := 3) sc_way.nd rfl (Or.inl rfl) (pe_call (ok_moves_of T) (hr.mono (by decide)) (by rfl) T.m_moves_of T.k_moves_of T.b_moves_of .nil passL (pa_cons (pv 0) pa_nil)))
  (pss_cons (ps_set (i := 4) sc_way.nd rfl (Or.inl rfl) (pe_lst (pa_cons pe_int pa_nil)))
  (pss_cons (ps_for PassesOwn.never rfl (pi_str (pv 2)) (pg_name (i := 5) sc_way.nd rfl (Or.inl rfl))
  (pss_cons (ps_if (pt_cmp (pc_dnotin (hu_of hr) (pe_tup (pa_cons (pv 1) (pa_cons (pv 5) pa_nil))) (pv 3)) (by rfl))
  (pss_one (ps_ret pe_non))
  pss_nil)
  (pss_cons (ps_asg (pe_dget (hu_of hr) (pv 3) (pe_tup (pa_cons (pv 1) (pa_cons (pv 5) pa_nil))) (fun _ _ => rfl)) (pg_tup rfl (pgs_cons (pg_name (i := 1) sc_way.nd rfl (Or.inl rfl)) (pgs_cons (pg_name (i := 6) sc_way.nd rfl (Or.inl rfl)) pgs_nil))))
  (pss_one (ps_expr (pe_bm PySem.F.plainAttrs_list PySem.F.slot_list_append PySem.F.type_list_append mt_append (pv 4) (pa_cons (pe_op op_add (pe_ix ix_list (pv 4) (pe_un un_neg pe_int) (fun _ _ => rfl)) (pv 6)) pa_nil)))))))
  (pss_one (ps_ret (pe_tup (pa_cons (pv 1) (pa_cons (pv 4) pa_nil)))))))))), ?_⟩
    walk_at "begin"
    walk_at "go"
    rcases k with ⟨⟨tv, h1, h2⟩, k⟩ | ⟨z, rfl, z1000, k0, k1⟩
    · refine k_isi (.ty _) h1 h2 ?_
      walk_at "go"
      refine iteT ?_
      walk_at "go"
      exact k
    · refine k_isi (.ty _) (.base (.str z)) (kit_ty (b := "str") (r := true) (by decide +kernel)) ?_
      walk_at "go"
      refine iteF ?_
      walk_at "go"
      refine ⟨x, m, rfl, hm, o, fun D kvs H0 z0 hD eD0 mv0 => ?_⟩
      walk_at "go"
      refine ⟨(by show 1 ≤ sizeLine; decide), fun B hB => ?_⟩
      walk_at "go"
      have nDB : D ≠ B := ne_of_none eD0 hB
      have hB0 : H B = none := by
        cases e : H B with
        | none => rfl
        | some ob => rw [z0 _ _ e] at hB; cases hB
      obtain ⟨l, hl⟩ : ∃ l, l = z.cps.toList := ⟨_, rfl⟩
      rw [← hl] at k0 k1
      have zs : z.cps.size = l.length := by rw [hl]; simp
      refine ⟨z, rfl, for_it walk_str (fun j σ H' => ∃ (st : Nat) (tl : Int) (xs : List Int) (a5 a6 : Option V), Same H H' ∧ H' D = some (.dT kvs) ∧ MvOk K H' kvs m.ss ∧ H' B = some (.lst (intsV xs)) ∧ runW m (b, 0) (l.take j) = some (st, tl) ∧ SumsOf m b (l.take j) xs ∧
        σ = [some (.ref x), some (.int (st : Nat)), some (.str z), some (.ref D), some (.ref B), a5, a6])
        ⟨b, 0, [0], none, none, z0.trans (Same.new hB), by rw [upd_ne nDB]; exact eD0, mv0.tups (Tups.new hB), upd_same, rfl, ⟨rfl, fun j hj => ⟨b, 0, by simp at hj; rw [hj]; rfl, by simp at hj; rw [hj]; rfl⟩⟩, rfl⟩ (fun _ _ _ _ _ => trivial) ?_ ?_⟩
      · rintro j y σ H2' H2 hj ⟨st, tl, xs, a5, a6, z2, eD2, mv2, eB2, hrun, sm, rfl⟩ ⟨rfl, c, hc, rfl⟩
        have hc' : l[j]? = some c := by rw [hl]; simpa using hc
        have jl : j < l.length := (List.getElem?_eq_some_iff.mp hc').1
        have tk : l.take (j + 1) = l.take j ++ [c] := by rw [List.take_add_one, hc']; rfl
        have dec : l = (l.take j ++ [c]) ++ l.drop (j + 1) := by rw [← tk, List.take_append_drop]
        walk_at "go"
        refine ⟨(by decide : 2 ≤ sizeLine), fun p1 n1 => ?_⟩
        have eD3 : (upd H2 p1 (.tup [.int (st : Nat), .str ⟨#[c]⟩])) D = some (.dT kvs) := by rw [upd_ne (ne_of_none eD2 n1)]; exact eD2
        have mv3 := mv2.tups (Tups.new (o := .tup [.int (st : Nat), .str ⟨#[c]⟩]) n1)
        have z3 := z2.trans (Same.new (o := .tup [.int (st : Nat), .str ⟨#[c]⟩]) n1)
        have eB3 : (upd H2 p1 (.tup [.int (st : Nat), .str ⟨#[c]⟩])) B = some (.lst (intsV xs)) := by rw [upd_ne (ne_of_none eB2 n1)]; exact eB2
        have dg : DGet (upd H2 p1 (.tup [.int (st : Nat), .str ⟨#[c]⟩])) D (.ref p1) (valV kvs (mkey st c)) := DGet.t (k := mkey st c) eD3 upd_same
        walk_at "go"
        refine ⟨D, _, rfl, dg, ?_⟩
        walk_at "go"
        cases es : stepOf m st c with
        | none =>
          have nn : ∀ s ∈ m.ss, ¬ (s.b = st ∧ s.c = c) := fun s h e => by
            have := List.find?_eq_none.mp es s h
            rw [e.1, e.2] at this
            simp at this
          rw [(mv3 st c).1 nn]
          refine iteT ?_
          walk_at "go"
          refine k0 ?_ _ z3
          rw [dec]
          have rs : runW m (b, 0) (l.take j ++ [c]) = none := by
            rw [runW_snoc, hrun]
            show (stepOf m st c).map _ = none
            rw [es]
            rfl
          rw [runW_append, rs]
          rfl
        | some s0 =>
          obtain ⟨hs0, hb, hcc⟩ := stepOf_mem es
          obtain ⟨p0, ep0, sp0⟩ := (mv3 st c).2 s0 hs0 hb hcc
          rw [ep0]
          refine iteF ?_
          walk_at "go"
          refine ⟨(by decide : 2 ≤ sizeLine), fun p2 n2 => ?_⟩
          have eD4 : (upd (upd H2 p1 (.tup [.int (st : Nat), .str ⟨#[c]⟩])) p2 (.tup [.int (st : Nat), .str ⟨#[c]⟩])) D = some (.dT kvs) := by rw [upd_ne (ne_of_none eD3 n2)]; exact eD3
          have eB4 : (upd (upd H2 p1 (.tup [.int (st : Nat), .str ⟨#[c]⟩])) p2 (.tup [.int (st : Nat), .str ⟨#[c]⟩])) B = some (.lst (intsV xs)) := by rw [upd_ne (ne_of_none eB3 n2)]; exact eB3
          have dg2 : DGet (upd (upd H2 p1 (.tup [.int (st : Nat), .str ⟨#[c]⟩])) p2 (.tup [.int (st : Nat), .str ⟨#[c]⟩])) D (.ref p2) (valV kvs (mkey st c)) := DGet.t (k := mkey st c) eD4 upd_same
          rw [ep0] at dg2
          have t4 := Tups.new (o := .tup [.int (st : Nat), .str ⟨#[c]⟩]) n2
          have z4 := z3.trans (Same.new (o := .tup [.int (st : Nat), .str ⟨#[c]⟩]) n2)
          refine ⟨D, _, rfl, dg2, ?_⟩
          refine k_gt (t4.sq sp0) rfl ?_
          have r1 : runW m (b, 0) (l.take j ++ [c]) = some (s0.e, tl + s0.g) := by
            rw [runW_snoc, hrun]
            show (stepOf m st c).map _ = _
            rw [es]
            rfl
          walk_at "go"
          refine ⟨.inl ⟨rfl, _, SqL.of eB4⟩, ?_⟩
          walk_at "go"
          refine k_ixL (SqL.of eB4) (sm.last hrun) ?_
          walk_at "go"
          refine k_append eB4 ?_ ?_
          · have : (intsV xs).length < 2000 := by unfold intsV; rw [List.length_map, sm.1, List.length_take]; omega
            exact Nat.lt_trans this (by decide)
          · have ei : intsV xs ++ [V.int (tl + s0.g)] = intsV (xs ++ [tl + s0.g]) := by unfold intsV; rw [List.map_append]; rfl
            rw [ei]
            refine ⟨s0.e, tl + s0.g, xs ++ [tl + s0.g], _, _, Same.mut z4 hB0, by rw [upd_ne nDB]; exact eD4, (mv3.tups t4).tups (Tups.lst eB4), upd_same, ?_, ?_, rfl⟩
            · rw [tk]; exact r1
            · rw [tk]; exact sm.snoc r1
      · rintro σ H2 ⟨st, tl, xs, a5, a6, z2, eD2, mv2, eB2, hrun, sm, rfl⟩
        rw [zs, List.take_length] at hrun sm
        walk_at "go"
        refine ⟨(by decide : 2 ≤ sizeLine), fun p hp => ?_⟩
        have hp0 : H p = none := by
          cases e : H p with
          | none => rfl
          | some ob => rw [z2 _ _ e] at hp; cases hp
        exact k1 _ _ hrun p B xs _ (z2.trans (Same.new hp)) hp0 upd_same (by rw [upd_ne (ne_of_none eB2 hp)]; exact eB2) sm
end
/-! ### rings -/
def LoopAt (m : MD) (b : Nat) (v : Wd) (g : Int) : Prop := v ≠ [] ∧ runW m (b, 0) v = some (b, g)
def NoRing (sg : Int) (m : MD) : Prop := ∀ b v g, Reach m.ss [0] b → LoopAt m b v g → v.length ≤ m.n → sg * g ≤ 0
theorem ring_cut {sg : Int} {m : MD} (o : m.Ok) (nr : NoRing sg m) {w : Wd} {k : Nat} {t : Int} (h : run m w = some (k, t)) (hl : m.n ≤ w.length) :
    ∃ w' t', w'.length < w.length ∧ run m w' = some (k, t') ∧ sg * t ≤ sg * t' := by
  have st : ∀ i, ∃ v, ∃ tv, run m (w.take i) = some (v, tv) ∧ runW m (v, tv) (w.drop i) = some (k, t) := run_cut h
  let f : Nat → Nat := fun i => (st i).choose
  have hf : ∀ i, ∃ tv, run m (w.take i) = some (f i, tv) ∧ runW m (f i, tv) (w.drop i) = some (k, t) := fun i => (st i).choose_spec
  have n1 := o.n1
  obtain ⟨i, j, hi, hj, hij, e⟩ := not_nodup (l := (List.range (m.n + 1)).map f) (n := m.n) (fun v hv => by
    obtain ⟨i, _, rfl⟩ := List.mem_map.mp hv
    obtain ⟨tv, q, _⟩ := hf i
    exact runW_lt o _ 0 0 _ _ (by omega) q) (by rw [List.length_map, List.length_range]; omega)
  rw [List.length_map, List.length_range] at hi hj
  rw [List.getElem_map, List.getElem_map, List.getElem_range, List.getElem_range] at e
  obtain ⟨ti, a1, a2⟩ := hf i
  obtain ⟨tj, b1, b2⟩ := hf j
  rw [← e] at b1 b2
  have rv := run_reach _ _ _ _ rfl a1
  have mid : runW m (f i, ti) ((w.take j).drop i) = some (f i, tj) := by
    have s : run m (w.take i ++ (w.take j).drop i) = some (f i, tj) := by
      have : w.take i = (w.take j).take i := by rw [List.take_take, Nat.min_eq_left (by omega)]
      rw [this, List.take_append_drop]
      exact b1
    unfold run at s a1
    rw [runW_append, a1] at s
    exact s
  have lv : ((w.take j).drop i).length = j - i := by rw [List.length_drop, List.length_take]; omega
  have gain := nr (f i) ((w.take j).drop i) (tj - ti) rv ⟨fun z => by rw [z] at lv; simp at lv; omega, by
    have q := runW_shift m (-ti) _ _ _ _ _ mid
    rw [show ti + -ti = 0 by omega] at q
    exact q⟩ (by rw [lv]; omega)
  refine ⟨w.take i ++ w.drop j, t + (ti - tj), ?_, ?_, ?_⟩
  · rw [List.length_append, List.length_take, List.length_drop]
    omega
  · unfold run at a1 ⊢
    rw [runW_append, a1]
    have q := runW_shift m (ti - tj) _ _ _ _ _ b2
    rw [show tj + (ti - tj) = ti by omega] at q
    exact q
  · have e1 : sg * (t + (ti - tj)) = sg * t - sg * (tj - ti) := by rw [← Int.mul_sub]; congr 1; omega
    omega
theorem ring_short {sg : Int} {m : MD} (o : m.Ok) (nr : NoRing sg m) {k : Nat} : ∀ (L : Nat) (w : Wd) (t : Int), w.length ≤ L → run m w = some (k, t) → ∃ w' t', w'.length < m.n ∧ run m w' = some (k, t') ∧ sg * t ≤ sg * t'
  | 0, w, t, hl, h => ⟨w, t, by have := o.n1; omega, h, Int.le_refl _⟩
  | L + 1, w, t, hl, h => by
    by_cases c : w.length < m.n
    · exact ⟨w, t, c, h, Int.le_refl _⟩
    · obtain ⟨w1, t1, h1, h2, h3⟩ := ring_cut o nr h (by omega)
      obtain ⟨w2, t2, q1, q2, q3⟩ := ring_short o nr L w1 t1 (by omega) h2
      exact ⟨w2, t2, q1, q2, Int.le_trans h3 q3⟩
theorem no_ring {sg : Int} {m : MD} (o : m.Ok) (hsg : sg = 1 ∨ sg = -1) (nr : NoRing sg m) : ∀ k, ¬ Endl sg m k := fun k h => by
  induction h with
  | base h =>
    rename_i k
    have q := (mem_impL o k).mp h
    unfold impr at q
    cases ex : lvl sg m.ss m.n k with
    | none => rw [ex] at q; cases q
    | some x =>
      rw [ex] at q
      have hr := lvl_run o hsg _ _ _ ex
      obtain ⟨w', t', h1, h2, h3⟩ := ring_short o nr x.2.length x.2 _ (Nat.le_refl _) hr
      obtain ⟨y, ey, hy⟩ := best_short o hsg h1 h2
      rw [ey] at q
      have q : y.1 < x.1 := of_decide_eq_true q
      rcases hsg with rfl | rfl <;> omega
  | step _ _ ih => exact ih
/-- the tallies of all rows stay -/
def CanP (m : MD) (lo hi : Int) : Prop := ∀ k, Reach m.ss [0] k → ¬ Endl 1 m k ∧ ¬ Endl (-1) m k ∧ (∀ y, bst 1 m.ss m.n k = some y → y.1 ≤ hi) ∧ ∀ y, bst (-1) m.ss m.n k = some y → lo ≤ -y.1
theorem can_rows {m : MD} {lo hi : Int} (o : m.Ok) (c : CanP m lo hi) {w : Wd} {k : Nat} {t : Int} (h : run m w = some (k, t)) : lo ≤ t ∧ t ≤ hi := by
  obtain ⟨h1, h2, h3, h4⟩ := c k (run_reach _ _ _ _ rfl h)
  obtain ⟨y, ey, hy⟩ := no_better o (.inl rfl) _ _ _ _ rfl h h1
  obtain ⟨z, ez, hz⟩ := no_better o (.inr rfl) _ _ _ _ rfl h h2
  have := h3 y ey
  have := h4 z ez
  omega
def rep (v : Wd) : Nat → Wd
  | 0 => []
  | n + 1 => rep v n ++ v
theorem rep_run {m : MD} {b : Nat} {v : Wd} {g : Int} (h : runW m (b, 0) v = some (b, g)) (a : Int) : ∀ N, runW m (b, a) (rep v N) = some (b, a + N * g)
  | 0 => by show some (b, a) = _; congr 2; omega
  | N + 1 => by
    show runW m (b, a) (rep v N ++ v) = _
    rw [runW_append, rep_run h a N]
    have q := runW_shift m (a + N * g) v b 0 b g h
    rw [show (0 : Int) + (a + N * g) = a + N * g by omega] at q
    show runW m (b, a + N * g) v = _
    rw [q]
    congr 2
    rw [show ((N + 1 : Nat) : Int) = (N : Int) + 1 from rfl, Int.add_mul]
    omega
theorem can_no_ring {m : MD} {lo hi : Int} (o : m.Ok) (c : CanP m lo hi) {b : Nat} {v : Wd} {g : Int} (hb : Reach m.ss [0] b) (h : runW m (b, 0) v = some (b, g)) : g = 0 := by
  obtain ⟨u, t, hu⟩ := reach_run o hb
  have all : ∀ N : Nat, lo ≤ t + N * g ∧ t + N * g ≤ hi := fun N => by
    have r : run m (u ++ rep v N) = some (b, t + N * g) := by
      unfold run at hu ⊢
      rw [runW_append, hu]
      exact rep_run h t N
    exact can_rows o c r
  have a0 := all 0
  apply Classical.byContradiction
  intro ne
  have big := all (hi - lo + 1).toNat
  have e0 : (((hi - lo + 1).toNat : Nat) : Int) = hi - lo + 1 := Int.toNat_of_nonneg (by omega)
  rw [e0] at big
  have z0 : t + ((0 : Nat) : Int) * g = t := by omega
  rw [z0] at a0
  have d0 : 0 ≤ hi - lo + 1 := by omega
  by_cases gp : 0 < g
  · have : (hi - lo + 1) * 1 ≤ (hi - lo + 1) * g := Int.mul_le_mul_of_nonneg_left (by omega) d0
    omega
  · have : (hi - lo + 1) * g ≤ (hi - lo + 1) * (-1) := Int.mul_le_mul_of_nonneg_left (by omega) d0
    omega
/-! ### the best rows from a stand -/
def lvlS (s0 : Nat) (sg : Int) (ss : List Stp) : Nat → RF
  | 0 => fun n => if n = s0 then some (0, []) else none
  | i + 1 => longer sg (lvlS s0 sg ss i) ss
theorem lvlS_len {s0 : Nat} {sg : Int} {ss : List Stp} : ∀ i n y, lvlS s0 sg ss i n = some y → y.2.length = i
  | 0, n, y, e => by
    unfold lvlS at e
    split at e
    · cases e; rfl
    · cases e
  | i + 1, n, y, e => longer_ind (P := fun n y => y.2.length = i + 1) (fun s hs v ev => by rw [List.length_append, lvlS_len i _ _ ev]; rfl) n y e
theorem lvlS_run {s0 : Nat} {sg : Int} {m : MD} (o : m.Ok) : ∀ i n y, lvlS s0 sg m.ss i n = some y → ∃ t, runW m (s0, 0) y.2 = some (n, t) ∧ y.1 = sg * t
  | 0, n, y, e => by
    unfold lvlS at e
    split at e
    · rename_i q
      cases e
      exact ⟨0, by rw [q]; rfl, by rw [Int.mul_zero]⟩
    · cases e
  | i + 1, n, y, e => longer_ind (P := fun n y => ∃ t, runW m (s0, 0) y.2 = some (n, t) ∧ y.1 = sg * t) (fun s hs v ev => by
      obtain ⟨t, h1, h2⟩ := lvlS_run o i _ _ ev
      refine ⟨t + s.g, ?_, by rw [h2, Int.mul_add]⟩
      rw [runW_snoc, h1]
      show (stepOf m s.b s.c).map _ = _
      rw [stepOf_self o hs]
      rfl) n y e
theorem lvlS_best {s0 : Nat} {sg : Int} {m : MD} : ∀ i (w : Wd) n t, w.length = i → runW m (s0, 0) w = some (n, t) → ∃ y, lvlS s0 sg m.ss i n = some y ∧ sg * t ≤ y.1 := by
  intro i
  induction i with
  | zero =>
    intro w n t hl hr
    have : w = [] := List.eq_nil_of_length_eq_zero hl
    subst this
    cases hr
    exact ⟨(0, []), if_pos rfl, by rw [Int.mul_zero]; exact Int.le_refl _⟩
  | succ i ih =>
    intro w n t hl hr
    rcases List.eq_nil_or_concat w with rfl | ⟨w', c, e⟩
    · cases hl
    · rw [List.concat_eq_append] at e
      subst e
      have hl' : w'.length = i := by simpa using hl
      rw [runW_snoc] at hr
      cases e1 : runW m (s0, 0) w' with
      | none => rw [e1] at hr; cases hr
      | some q =>
        rw [e1] at hr
        have hr' : (stepOf m q.1 c).map (fun x => (x.e, q.2 + x.g)) = some (n, t) := hr
        cases e2 : stepOf m q.1 c with
        | none => rw [e2] at hr'; cases hr'
        | some s =>
          rw [e2] at hr'
          cases hr'
          obtain ⟨hs, hb, hc⟩ := stepOf_mem e2
          obtain ⟨v, ev, nv⟩ := ih w' q.1 q.2 hl' e1
          rw [← hb] at ev
          obtain ⟨z, ez, nz⟩ := longer_has (sg := sg) ev m.ss hs fun _ => none
          refine ⟨z, ez, ?_⟩
          have := nz.le
          dsimp only at this
          rw [Int.mul_add]
          omega
/-- the best loops at a stand, of 1 to n letters -/
def loopsAt (m : MD) (s0 : Nat) (sg : Int) : List (Int × Wd) := (List.range m.n).filterMap fun i => lvlS s0 sg m.ss (i + 1) s0
theorem loops_true {m : MD} (o : m.Ok) {s0 : Nat} {sg : Int} {x : Int × Wd} (h : x ∈ loopsAt m s0 sg) : x.2.length ≤ m.n ∧ ∃ g, LoopAt m s0 x.2 g ∧ x.1 = sg * g := by
  obtain ⟨i, hi, e⟩ := List.mem_filterMap.mp h
  have li := lvlS_len _ _ _ e
  obtain ⟨g, h1, h2⟩ := lvlS_run o _ _ _ e
  refine ⟨by rw [li]; exact List.mem_range.mp hi, g, ⟨(fun z => by rw [z] at li; cases li), h1⟩, h2⟩
theorem loops_all {m : MD} {s0 : Nat} {sg : Int} {v : Wd} {g : Int} (h : LoopAt m s0 v g) (hl : v.length ≤ m.n) : ∃ x ∈ loopsAt m s0 sg, sg * g ≤ x.1 := by
  obtain ⟨y, ey, hy⟩ := lvlS_best (sg := sg) v.length v s0 g rfl h.2
  have h0 : v.length ≠ 0 := fun z => h.1 (List.eq_nil_of_length_eq_zero z)
  refine ⟨y, List.mem_filterMap.mpr ⟨v.length - 1, List.mem_range.mpr (by omega), ?_⟩, hy⟩
  rw [show v.length - 1 + 1 = v.length by omega]
  exact ey
/-- with the sign 0 all tallies are alike -/
theorem lvl_eq (sg : Int) (ss : List Stp) : ∀ i, lvl sg ss i = lvlS 0 sg ss i
  | 0 => rfl
  | i + 1 => by show longer sg (lvl sg ss i) ss = longer sg (lvlS 0 sg ss i) ss; rw [lvl_eq sg ss i]
theorem bst0 {m : MD} (o : m.Ok) (k : Nat) : (Reach m.ss [0] k → ∃ y, bst 0 m.ss m.n k = some y) ∧ ∀ y, bst 0 m.ss m.n k = some y → ∃ t, run m y.2 = some (k, t) ∧ y.2.length < m.n := by
  constructor
  · intro h
    obtain ⟨w, t, hw, hr⟩ := short_row o h
    obtain ⟨y, ey, _⟩ := lvlS_best (sg := 0) w.length w k t rfl hr
    rw [← lvl_eq] at ey
    exact bst_has m.n _ _ hw ey
  · intro y h
    obtain ⟨j, hj, ej⟩ := bst_of _ _ _ h
    have lj := (lvl_ok o _ _ _ ej).2
    rw [lvl_eq] at ej
    obtain ⟨t, h1, _⟩ := lvlS_run o _ _ _ ej
    exact ⟨t, h1, by omega⟩
theorem endl0 {m : MD} (o : m.Ok) : ∀ k, ¬ Endl 0 m k := fun k h => by
  induction h with
  | base h =>
    rename_i k
    have q := (mem_impL o k).mp h
    unfold impr at q
    cases ex : lvl 0 m.ss m.n k with
    | none => rw [ex] at q; cases q
    | some x =>
      rw [ex] at q
      have ex' := ex
      rw [lvl_eq] at ex'
      obtain ⟨t, hr, e1⟩ := lvlS_run o _ _ _ ex'
      obtain ⟨y, ey⟩ := (bst0 o k).1 (run_reach _ _ _ _ rfl hr)
      rw [ey] at q
      have q : y.1 < x.1 := of_decide_eq_true q
      obtain ⟨j, _, ej⟩ := bst_of _ _ _ ey
      rw [lvl_eq] at ej
      obtain ⟨t', _, e2⟩ := lvlS_run o _ _ _ ej
      omega
  | step _ _ ih => exact ih
/-! ### the best loops at a stand; the shortest rows -/
/-- a list of pairs of a tally and a row -/
def PrAt (K : PySem.W.Frag) (H : Hp) (us : List V) (L : List (Int × Wd)) : Prop := us.length = L.length ∧ ∀ (i : Nat) (x : Int × Wd), L[i]? = some x → ∃ p, us[i]? = some (.ref p) ∧ SqT K H p (ent2 x)
theorem PrAt.tups {K : PySem.W.Frag} {H H' : Hp} {us : List V} {L : List (Int × Wd)} (h : PrAt K H us L) (t : Tups H H') : PrAt K H' us L := ⟨h.1, fun i x e => let ⟨p, q, z⟩ := h.2 i x e; ⟨p, q, t.sq z⟩⟩
theorem PrAt.snoc {K : PySem.W.Frag} {H : Hp} {us : List V} {L : List (Int × Wd)} {p : Addr} {x : Int × Wd} (h : PrAt K H us L) (q : SqT K H p (ent2 x)) : PrAt K H (us ++ [.ref p]) (L ++ [x]) := by
  refine ⟨by rw [List.length_append, List.length_append, h.1]; rfl, fun i y e => ?_⟩
  by_cases c : i < L.length
  · rw [List.getElem?_append_left c] at e
    obtain ⟨r, e1, q1⟩ := h.2 i y e
    exact ⟨r, by rw [List.getElem?_append_left (by rw [h.1]; exact c)]; exact e1, q1⟩
  · rw [List.getElem?_append_right (by omega)] at e
    have z : i - L.length = 0 := by
      have := (List.getElem?_eq_some_iff.mp e).1
      simp at this
      omega
    rw [z] at e
    cases e
    exact ⟨p, by rw [List.getElem?_append_right (by rw [h.1]; omega), h.1, z]; rfl, q⟩
def loopsTo (m : MD) (s0 : Nat) (sg : Int) (i : Nat) : List (Int × Wd) := (List.range i).filterMap fun i => lvlS s0 sg m.ss (i + 1) s0
theorem loopsTo_succ (m : MD) (s0 : Nat) (sg : Int) (i : Nat) : loopsTo m s0 sg (i + 1) = loopsTo m s0 sg i ++ (lvlS s0 sg m.ss (i + 1) s0).toList := by
  unfold loopsTo
  rw [List.range_succ, List.filterMap_append]
  congr 1
def sp_bloops (K : PySem.W.Frag) : Sp := fun vs H Q _ => ∃ (t : Addr) (sg : Int) (s0 : Nat) (m : MD), vs = [.int (m.n : Nat), .ref t, .int (s0 : Nat), .int sg] ∧ StAt K H t m.ss ∧ m.Ok ∧ Sgn sg ∧ s0 < m.n ∧
  ∀ p us H', Same H H' → H p = none → H' p = some (.lst us) → PrAt K H' us (loopsAt m s0 sg) → Q (.ref p) H'
section
variable {P : Program} {w : World} {K : PySem.W.Frag} {mg : Str → Option Value} {base : Heap}
theorem ok_best_loops (T : Txt K mg) : FnOk P w K mg base (L2.CX P w) 4 T.a_best_loops T.fd_best_loops ["many", "steps", "stand", "sign"] (sp_bloops K) := by
  refine T.F_best_loops.okX sc_best_loops (fun vs H Q E h => ?_) (fun cdv A outer s H vs Q E hr h => ?_)
  · obtain ⟨t, sg, s0, m, rfl, _⟩ := h
    rfl
  · obtain ⟨t, sg, s0, m, rfl, hm, o, hsg, hs0, k⟩ := h
    refine ⟨_, (PSs.nox (pss_cons (ps_set (i := 4) sc_best_loops.nd rfl (Or.inl rfl) (pe_lst pa_nil))
  (pss_cons (ps_set (i := 5) sc_best_loops.nd rfl (Or.inl rfl) (pe_disp (pps_cons (pv 2) (pe_tup (pa_cons pe_int (pa_cons pe_str pa_nil))) pps_nil) (by rfl) (by rfl) (fun z => by cases z) (by decide)))
  (pss_cons (ps_for PassesOwn.never rfl (pi_range1 (by rfl) T.z_range (pa_cons (pv 0) pa_nil)) (pg_name (i := 6) sc_best_loops.nd rfl (Or.inl rfl))
  (pss_cons (ps_set (i := 5) sc_best_loops.nd rfl (Or.inl rfl) (pe_call (ok_longer_rows T) (hr.mono (by decide)) (by rfl) T.m_longer_rows T.k_longer_rows T.b_longer_rows .nil passL (pa_cons (pv 1) (pa_cons (pv 3) (pa_cons (pv 5) pa_nil)))))
  (pss_one (ps_if (pt_cmp (pc_din (hu_of hr) (pv 2) (pv 5)) (by rfl))
  (pss_one (ps_expr (pe_bm PySem.F.plainAttrs_list PySem.F.slot_list_append PySem.F.type_list_append mt_append (pv 4) (pa_cons (pe_dget (hu_of hr) (pv 5) (pv 2) (fun _ _ => rfl)) pa_nil))))
  pss_nil))))
  (pss_one (ps_ret (pv 4))))))), ?_⟩
    walk_at "begin"
    walk_at "go"
    refine ⟨by decide, fun D hD => ?_⟩
    walk_at "go"
    intro r hr0
    walk_at "go"
    refine ⟨(by decide : 2 ≤ sizeLine), fun q hq => ?_⟩
    walk_at "go"
    have nDr : D ≠ r := ne_of_none (upd_same (H := H) (o := .lst [])) hr0
    have nrq : r ≠ q := ne_of_none upd_same hq
    have nDq : D ≠ q := fun e => by rw [← e, upd_ne nDr, upd_same] at hq; cases hq
    have hr1 : H r = none := by rw [upd_ne nDr.symm] at hr0; exact hr0
    have z1 : Same H (upd (upd (upd H D (.lst [])) r (.dK [])) q (.tup [.int 0, .str ""])) := ((Same.new hD).trans (Same.new hr0)).trans (Same.new hq)
    refine ⟨by rw [upd_ne nrq, upd_same], [(.inl (s0 : Int), .ref q)], rfl, (by decide : 1 ≤ 15), ?_⟩
    have em : mergeK [] [((.inl (s0 : Int) : Key), V.ref q)] = [(.inl (s0 : Int), .ref q)] := rfl
    rw [em]
    have z2 := Same.mut (o := .dK [(.inl (s0 : Int), .ref q)]) z1 hr1
    generalize hH1 : upd (upd (upd (upd H D (.lst [])) r (.dK [])) q (.tup [.int 0, .str ""])) r (.dK [(.inl (s0 : Int), .ref q)]) = H1 at z2 ⊢
    have eD1 : H1 D = some (.lst []) := by rw [← hH1, upd_ne nDr, upd_ne nDq, upd_ne nDr, upd_same]
    have er1 : H1 r = some (.dK [(.inl (s0 : Int), .ref q)]) := by rw [← hH1, upd_same]
    have eq1 : H1 q = some (.tup [.int 0, .str ""]) := by rw [← hH1, upd_ne nrq.symm, upd_same]
    have ok0 : KvOk K H1 [(.inl (s0 : Int), .ref q)] (E2 (lvlS s0 sg m.ss 0)) := by
      have := KvOk.put (n := s0) (KvOk.nil (K := K) (H := H1)) (l := ent2 (0, [])) (SqT.of eq1)
      refine KvOk.congr this fun n => ?_
      unfold E2 lvlS
      by_cases c : n = s0
      · rw [if_pos c, if_pos c]; rfl
      · rw [if_neg c, if_neg c]; rfl
    clear hH1 z1 em hq hr0 nrq nDq eq1
    have n8 := o.n8
    walk_at "go"
    refine k_rg (by omega) (by omega) ?_
    refine for_range (lo := 0) (n := (((m.n : Nat) : Int)).toNat) (fun i σ H' => ∃ us kvR r a6, Same H H' ∧ H' D = some (.lst us) ∧ PrAt K H' us (loopsTo m s0 sg i) ∧ us.length ≤ i ∧ H' r = some (.dK kvR) ∧ KvOk K H' kvR (E2 (lvlS s0 sg m.ss i)) ∧ r ≠ D ∧
        σ = [some (.int (m.n : Nat)), some (.ref t), some (.int (s0 : Nat)), some (.int sg), some (.ref D), some (.ref r), a6])
      ⟨[], _, r, none, z2, eD1, ⟨rfl, fun i x e => by simp [loopsTo] at e⟩, Nat.le_refl _, er1, ok0, nDr.symm, rfl⟩ ?_ ?_
    · clear z2 eD1 er1 ok0 nDr hr1
      rintro i σ H2 hi ⟨us, kvR, r, a6, z, eD, pr, lu, er, okR, ne, rfl⟩
      have im : i < m.n := hi
      walk_at "go"
      refine ⟨t, r, sg, m.n, m.ss, _, kvR, rfl, .of ((same_tups z).stAt hm), o.sok, er, okR, hsg, fun n y e => by have := lvlS_len i n y e; omega, fun p' kvs' H5 z5 hp5 ep5 ok5 l5 => ?_⟩
      have eD5 := z5 _ _ eD
      have pr5 := pr.tups (same_tups z5)
      have nDp : D ≠ p' := ne_of_none eD hp5
      walk_at "go"
      have dg : DGet H5 p' (.int (s0 : Nat)) (valV kvs' (.inl (s0 : Int))) := DGet.k (k := .inl (s0 : Int)) ep5
      refine ⟨p', _, rfl, dg, ?_⟩
      walk_at "go"
      have ok5' : KvOk K H5 kvs' (E2 (lvlS s0 sg m.ss (i + 1))) := ok5
      rw [loopsTo_succ]
      cases el : lvlS s0 sg m.ss (i + 1) s0 with
      | none =>
        rw [(ok5'.2 s0).1 (by unfold E2; rw [el]; rfl)]
        refine iteF ?_
        walk_at "go"
        exact ⟨us, kvs', p', _, z.trans z5, eD5, by rw [show (none : Option (Int × Wd)).toList = [] from rfl, List.append_nil]; exact pr5, by omega, ep5, ok5', nDp.symm, rfl⟩
      | some y =>
        obtain ⟨pe, epe, spe⟩ := (ok5'.2 s0).2 (ent2 y) (by unfold E2; rw [el]; rfl)
        rw [epe] at dg ⊢
        refine iteT ?_
        walk_at "go"
        refine ⟨.inl ⟨rfl, _, SqL.of eD5⟩, ?_⟩
        walk_at "go"
        refine ⟨p', _, rfl, dg, ?_⟩
        walk_at "go"
        refine k_append eD5 (Nat.lt_trans (show us.length < 100 by omega) (by decide)) ?_
        have tD := Tups.lst (o := .lst (us ++ [V.ref pe])) eD5
        exact ⟨_, kvs', p', _, Same.mut (z.trans z5) hD, upd_same, (pr5.snoc spe).tups tD, by rw [List.length_append]; show us.length + 1 ≤ i + 1; omega, by rw [upd_ne nDp.symm]; exact ep5, ok5'.tups tD, nDp.symm, rfl⟩
    · rintro σ H2 ⟨us, kvR, r, a6, z, eD, pr, lu, er, okR, ne, rfl⟩
      walk_at "go"
      exact k D us H2 z hD eD pr
end
/-! ### the shortest rows -/
theorem dc_by {J : It} {n : Nat} {G : Hp → Prop} {Y : Nat → Hp → V → Hp → Prop} (w : Walk J n G Y) {g : TG} {tt : TT} {tk tv : TE} {vs : List Nat} {σ : L2.St} {H1 : Hp} {D : Addr} {Qd : Hp → Prop} (Pv : Nat → Hp → Prop) (h0 : Pv 0 (upd H1 D (.dK []))) (hG : ∀ i H, i ≤ n → Pv i H → G H)
    (hs : ∀ i x H H', i < n → Pv i H → Y i H x H' → g x (wipe σ vs) H' fun σ2 H2 => wipe σ2 vs = wipe σ vs ∧ tt σ2 H2 fun b H3 => if b = true then tk σ2 H3 fun y H4 => tv σ2 H4 fun z H5 => ∃ kvs k, y = kV k ∧ H5 D = some (.dK kvs) ∧ kvs.length < sizeLine ∧ Pv (i + 1) (upd H5 D (.dK (putK kvs k z))) else Pv (i + 1) H3) (hd : ∀ H, Pv n H → Qd H) :
    ∃ W : Nat → Nat → Hp → Prop, (∃ m, W 0 m (upd H1 D (.dK []))) ∧ ∀ i m H, W i m H → (J.stop i H ∧ Qd H) ∨ (J.go i H ∧ ∃ Nx : Hp → Prop, (∀ H', Nx H' → ∃ m', m' < m ∧ W (i + 1) m' H') ∧ ∀ x H', J.yld i H x H' → g x (wipe σ vs) H' fun σ2 H2 => wipe σ2 vs = wipe σ vs ∧ tt σ2 H2 fun b H3 =>
      if b = true then tk σ2 H3 fun y H4 => tv σ2 H4 fun z H5 => ∃ kvs k, y = kV k ∧ H5 D = some (.dK kvs) ∧ kvs.length < sizeLine ∧ Nx (upd H5 D (.dK (putK kvs k z))) else Nx H3) := by
  refine ⟨fun i m H => m + i = n ∧ Pv i H, ⟨n, by simp, h0⟩, fun i m H ⟨em, hP⟩ => ?_⟩
  have gG := hG i H (by omega) hP
  by_cases c : i < n
  · refine .inr ⟨w.goes i H c gG, Pv (i + 1), fun H' z => ⟨m - 1, by omega, by omega, z⟩, fun x H' y => hs i x H H' c hP (w.yields i H x H' c gG y)⟩
  · have e : i = n := by omega
    subst e
    exact .inl ⟨w.stops H gG, hd H hP⟩
def sp_short (K : PySem.W.Frag) : Sp := fun vs H Q _ => ∃ (t : Addr) (m : MD), vs = [.int (m.n : Nat), .ref t] ∧ StAt K H t m.ss ∧ m.Ok ∧
  ∀ p kvs (f : Nat → Option Wd) H', Same H H' → H p = none → H' p = some (.dK kvs) → KvG kvs (fun n => (f n).map fun w => V.str (sOf w)) → (kvs.map (·.1)).Nodup → (∀ n, f n ≠ none ↔ Reach m.ss [0] n) → (∀ n w, f n = some w → w.length < m.n ∧ ∃ t, run m w = some (n, t)) → Q (.ref p) H'
section
variable {P : Program} {w : World} {K : PySem.W.Frag} {mg : Str → Option Value} {base : Heap}
theorem ok_shortest_rows (T : Txt K mg) : FnOk P w K mg base (L2.CX P w) 5 T.a_shortest_rows T.fd_shortest_rows ["many", "steps"] (sp_short K) := by
  refine T.F_shortest_rows.okX sc_shortest_rows (fun vs H Q E h => ?_) (fun cdv A outer s H vs Q E hr h => ?_)
  · obtain ⟨t, m, rfl, _⟩ := h
    rfl
  · obtain ⟨t, m, rfl, hm, o, k⟩ := h
    refine ⟨_, (PSs.nox (pss_cons (ps_set (i := 2) sc_shortest_rows.nd rfl (Or.inr rfl) (pe_call (ok_best_rows T) (hr.mono (by decide)) (by rfl) T.m_best_rows T.k_best_rows T.b_best_rows .nil passL (pa_cons (pv 0) (pa_cons (pv 1) (pa_cons pe_int pa_nil)))))
  (pss_one (ps_ret (pe_lock (pe_dc (own := [("stand", 3)]) (g := (gName 3)) (tt := tYes) rfl sc_shortest_rows.nd (pi_keys (pv 2)) (blkOk_by (own := [("stand", 3)]) (N := ["many", "steps", "best", "stand"]) (sc := defScope s_shortest_rows) (by decide +kernel)) (fun _ _ _ _ _ => (pg_name (i := 3) sc_shortest_rows.nd rfl (Or.inl rfl))) (fun _ _ _ _ _ => pts_nil) (fun _ _ _ _ _ => (pv 3)) (fun _ _ _ _ _ => (pe_ix (show IxR _ (rIxT K) from ix_tup) (pe_dget (hu_of hr) (pv 2) (pv 3) (fun _ _ => rfl)) pe_int (fun _ _ => rfl))))))))), ?_⟩
    walk_at "begin"
    walk_at "go"
    refine ⟨t, 0, m.n, m.ss, rfl, .of hm, o.sok, .inr (.inr rfl), fun p kvs H1 l L z _ ep hl hL ok => ?_⟩
    rw [bestE_of o hl hL] at ok
    walk_at "go"
    refine ⟨p, _, ep, trivial, fun od => ?_⟩
    obtain ⟨HL, eHL⟩ : ∃ z, z = upd H1 p (.frz od (.dK kvs)) := ⟨_, rfl⟩
    rw [← eHL]
    have tL : Tups H1 HL := by rw [eHL]; exact Tups.dk ep
    have pL : HL p = some (.frz od (.dK kvs)) := by rw [eHL, upd_same]
    walk_at "go"
    refine ⟨_, rfl, p, od, rfl, .inl ⟨kvs, pL, fun D hD => ?_⟩⟩
    have b0 : ∀ n, bestE 0 m n = E2 (bst 0 m.ss m.n) n := fun n => by unfold bestE; rw [if_neg (endl0 o n)]
    refine dc_by walk_keys (fun i H' => Same HL H' ∧ ∃ (kv : List (Key × V)) (f : Nat → Option Wd), H' D = some (.dK kv) ∧ KvG kv (fun n => (f n).map fun w => V.str (sOf w)) ∧ (kv.map (·.1)).Nodup ∧ (∀ n w, f n = some w → ∃ y, bst 0 m.ss m.n n = some y ∧ y.2 = w) ∧ ∀ n, f n ≠ none ↔ ∃ (j : Nat) (v : V), j < i ∧ kvs[j]? = some ((Sum.inl (n : Int) : Key), v))
      ⟨Same.new hD, [], fun _ => none, upd_same, ⟨fun p hp => absurd hp (by simp), fun n => rfl⟩, by simp, (fun n w (e : (none : Option Wd) = some w) => nomatch e), fun n => ⟨fun z => absurd rfl z, fun ⟨j, _, hj, _⟩ => absurd hj (Nat.not_lt_zero _)⟩⟩ (fun i H' _ ⟨z, _⟩ => z _ _ pL) ?_ ?_
    · rintro i x H3 H4 hi ⟨z4, kv, f, eD, ok4, nd, fx, fm⟩ ⟨rfl, key, v, hk, rfl⟩
      obtain ⟨n, rfl⟩ := ok.1 (key, v) (List.mem_of_getElem? hk)
      have inK : valV kvs (.inl (n : Int)) ≠ none := fun q => by
        have a := valV_any (.inl (n : Int) : Key) kvs
        rw [q] at a
        have : kvs.any (fun kv => decide (kv.1 = (.inl (n : Int) : Key))) = true := List.any_eq_true.mpr ⟨_, List.mem_of_getElem? hk, decide_eq_true rfl⟩
        rw [this] at a
        cases a
      obtain ⟨y, ey⟩ : ∃ y, bst 0 m.ss m.n n = some y := by
        cases e : bst 0 m.ss m.n n with
        | some y => exact ⟨y, rfl⟩
        | none => exact absurd ((ok.2 n).1 (by rw [b0]; unfold E2; rw [e]; rfl)) inK
      obtain ⟨q, eq, sq⟩ := (ok.2 n).2 (ent2 y) (by rw [b0]; unfold E2; rw [ey]; rfl)
      have dg : DGet H4 p (.int (n : Nat)) (valV kvs (.inl (n : Int))) := .inl ⟨kvs, .inl (n : Int), .inr ⟨od, z4 _ _ pL⟩, rfl, rfl⟩
      rw [eq] at dg
      walk_at "go"
      refine ⟨rfl, ?_⟩
      walk_at "go"
      refine iteT ?_
      walk_at "go"
      refine ⟨p, _, rfl, dg, ?_⟩
      walk_at "go"
      refine k_ixT ((same_tups z4).sq (tL.sq sq)) (v := .str (sOf y.2)) rfl ?_
      have rl : ∀ k, f k ≠ none → k < m.n := fun k hk2 => by
        cases e : f k with
        | none => exact absurd e hk2
        | some w =>
          obtain ⟨y2, e2, _⟩ := fx k w e
          obtain ⟨t2, h2, _⟩ := (bst0 o k).2 y2 e2
          exact reach_lt o (run_reach _ _ _ _ rfl h2)
      have lk : kv.length ≤ 8 := Nat.le_trans (ok4.len nd (N := m.n) fun k (hk2 : (f k).map (fun w => V.str (sOf w)) ≠ none) => rl k fun z => hk2 (by rw [z]; rfl)) o.n8
      refine ⟨kv, .inl (n : Int), rfl, eD, Nat.lt_of_le_of_lt lk (by decide), Same.mut z4 hD, _, fun j => if j = n then some y.2 else f j, upd_same, ?_, putK_nodup _ _ nd, fun k w e => ?_, fun k => ?_⟩
      · have q4 := ok4.put n (.str (sOf y.2))
        have eqf : (fun j => if j = n then some (V.str (sOf y.2)) else (f j).map fun w => V.str (sOf w)) = fun j => (if j = n then some y.2 else f j).map fun w => V.str (sOf w) := by
          funext j
          by_cases c : j = n
          · rw [if_pos c, if_pos c]; rfl
          · rw [if_neg c, if_neg c]
        rw [← eqf]
        exact q4
      · by_cases c : k = n
        · have e' : some y.2 = some w := by rw [← e]; exact (if_pos c).symm
          cases e'
          exact ⟨y, by rw [c]; exact ey, rfl⟩
        · exact fx k w (by rw [← e]; exact (if_neg c).symm)
      · show (if k = n then some y.2 else f k) ≠ none ↔ _
        by_cases c : k = n
        · rw [if_pos c]
          exact ⟨fun _ => ⟨i, v, by omega, by rw [c]; exact hk⟩, fun _ => by simp⟩
        · rw [if_neg c, fm k]
          constructor
          · rintro ⟨j, u, hj, e⟩
            exact ⟨j, u, by omega, e⟩
          · rintro ⟨j, u, hj, e⟩
            by_cases cj : j = i
            · rw [cj, hk] at e
              have e' : ((Sum.inl (n : Int) : Key), v) = (.inl (k : Int), u) := Option.some.inj e
              exact absurd ((key_eq n k).mp (congrArg Prod.fst e')).symm c
            · exact ⟨j, u, by omega, e⟩
    · rintro H4 ⟨z4, kv, f, eD, ok4, nd, fx, fm⟩
      have nDp : D ≠ p := fun z => by rw [z, pL] at hD; cases hD
      have hD1 : H1 D = none := by
        rw [eHL, upd_ne nDp] at hD
        exact hD
      refine ⟨z4 _ _ pL, k D kv f _ (z.trans ?_) (free_of z hD1) (by rw [upd_ne nDp]; exact eD) ok4 nd (fun n => ?_) fun n w e => ?_⟩
      · rw [eHL] at z4
        exact unlock_same ep z4
      · rw [fm n]
        constructor
        · rintro ⟨j, u, hj, e⟩
          have inK : valV kvs (.inl (n : Int)) ≠ none := fun q => by
            have a := valV_any (.inl (n : Int) : Key) kvs
            rw [q] at a
            have : kvs.any (fun kv => decide (kv.1 = (.inl (n : Int) : Key))) = true := List.any_eq_true.mpr ⟨_, List.mem_of_getElem? e, decide_eq_true rfl⟩
            rw [this] at a
            cases a
          cases e2 : bst 0 m.ss m.n n with
          | none => exact absurd ((ok.2 n).1 (by rw [b0]; unfold E2; rw [e2]; rfl)) inK
          | some y =>
            obtain ⟨t2, h2, _⟩ := (bst0 o n).2 y e2
            exact run_reach _ _ _ _ rfl h2
        · intro hr
          obtain ⟨y, ey⟩ := (bst0 o n).1 hr
          obtain ⟨q, eq, _⟩ := (ok.2 n).2 (ent2 y) (by rw [b0]; unfold E2; rw [ey]; rfl)
          have a := valV_any (.inl (n : Int) : Key) kvs
          rw [eq] at a
          obtain ⟨kv, hm2, hd⟩ := List.any_eq_true.mp (a.trans rfl)
          obtain ⟨j, hj, ej⟩ := List.getElem_of_mem hm2
          have hd' : kv.1 = .inl (n : Int) := of_decide_eq_true hd
          exact ⟨j, kv.2, hj, by rw [List.getElem?_eq_getElem hj, ej, ← hd']⟩
      · obtain ⟨y, ey, e2⟩ := fx n w e
        obtain ⟨t2, h2, h3⟩ := (bst0 o n).2 y ey
        rw [e2] at h2 h3
        exact ⟨h3, t2, h2⟩
end
/-! ### bounds are two integers -/
def sp_cbounds (K : PySem.W.Frag) : Sp := fun vs H Q _ => ∃ lo hi M : Int, vs = [.int lo, .int hi, .int M] ∧ -M ≤ lo ∧ lo ≤ hi ∧ hi ≤ M ∧ Q .non H
section
variable {P : Program} {w : World} {K : PySem.W.Frag} {mg : Str → Option Value} {base : Heap}
theorem ok_check_bounds (T : Txt K mg) : FnOk P w K mg base (L2.CX P w) 3 T.a_check_bounds T.fd_check_bounds ["low", "high", "most"] (sp_cbounds K) := by
  refine T.F_check_bounds.okX sc_check_bounds (fun vs H Q E h => ?_) (fun cdv A outer s H vs Q E hr h => ?_)
  · obtain ⟨lo, hi, M, rfl, _⟩ := h
    rfl
  · obtain ⟨lo, hi, M, rfl, h1, h2, h3, k⟩ := h
    refine ⟨_, (PSs.nox (pss_one (ps_if (PW.pt (pw_or (pt_not (pt_val (pe_call (ok_is_integer_between T) (hr.mono (by decide)) (by rfl) T.m_is_integer_between T.k_is_integer_between T.b_is_integer_between .nil passL (pa_cons (pv 0) (pa_cons (pe_un un_neg (pv 2)) (pa_cons (pv 2) pa_nil)))))) (pw_or1 (pt_not (pt_val (pe_call (ok_is_integer_between T) (hr.mono (by decide)) (by rfl) T.m_is_integer_between T.k_is_integer_between T.b_is_integer_between .nil passL (pa_cons (pv 1) (pa_cons (pv 0) (pa_cons (pv 2) pa_nil)))))))))
  (pss_one ps_never)
  pss_nil))), ?_⟩
    walk_at "begin"
    walk_at "go"
    refine ⟨_, _, _, rfl, .inl ⟨lo, rfl, ?_⟩⟩
    rw [decide_eq_true (show -M ≤ lo ∧ lo ≤ M from ⟨h1, by omega⟩)]
    walk_at "go"
    refine iteF ?_
    walk_at "go"
    refine ⟨_, _, _, rfl, .inl ⟨hi, rfl, ?_⟩⟩
    rw [decide_eq_true (show lo ≤ hi ∧ hi ≤ M from ⟨h2, h3⟩)]
    walk_at "go"
    refine iteF ?_
    walk_at "go"
    exact k
end
/-! ### what bars -/
def ringV (lead v : Wd) : List V := [.str "ring", .str (sOf lead), .str (sOf v)]
def rowV (w : Wd) : List V := [.str "row", .str (sOf w)]
def sp_ring (K : PySem.W.Frag) (C : Addr) : Sp := fun vs H Q _ => ∃ (x : Addr) (m : MD), vs = [.ref x] ∧ MAt K C H x m ∧ m.Ok ∧ (NoRing 1 m → NoRing (-1) m → ∀ H', Same H H' → Q .non H') ∧
  ∀ b lead v t g, run m lead = some (b, t) → lead.length ≤ 8 → LoopAt m b v g → g ≠ 0 → v.length ≤ 8 → ∀ p H', Same H H' → H p = none → H' p = some (.tup (ringV lead v)) → Q (.ref p) H'
def sp_outside (K : PySem.W.Frag) (C : Addr) : Sp := fun vs H Q _ => ∃ (x : Addr) (lo hi : Int) (m : MD), vs = [.ref x, .int lo, .int hi] ∧ MAt K C H x m ∧ m.Ok ∧ (∀ k, ¬ Endl 1 m k) ∧ (∀ k, ¬ Endl (-1) m k) ∧ (CanP m lo hi → ∀ H', Same H H' → Q .non H') ∧
  ∀ k w t, run m w = some (k, t) → ¬ (lo ≤ t ∧ t ≤ hi) → w.length ≤ 8 → ∀ p H', Same H H' → H p = none → H' p = some (.tup (rowV w)) → Q (.ref p) H'
/-- what is told as a bar -/
def BarOf (m : MD) (lo hi : Int) (xs : List V) : Prop := (∃ k w t, xs = rowV w ∧ w.length ≤ 8 ∧ run m w = some (k, t) ∧ ¬ (lo ≤ t ∧ t ≤ hi)) ∨
  ∃ b lead v t g, xs = ringV lead v ∧ lead.length ≤ 8 ∧ v.length ≤ 8 ∧ run m lead = some (b, t) ∧ LoopAt m b v g ∧ g ≠ 0
def sp_bar (K : PySem.W.Frag) (C : Addr) : Sp := fun vs H Q _ => ∃ (x : Addr) (lo hi : Int) (m : MD), vs = [.ref x, .int lo, .int hi] ∧ MAt K C H x m ∧ m.Ok ∧ -(10 ^ 40) ≤ lo ∧ lo ≤ hi ∧ hi ≤ 10 ^ 40 ∧ (CanP m lo hi → ∀ H', Same H H' → Q .non H') ∧
  (¬ CanP m lo hi → ∀ p xs H', Same H H' → H p = none → H' p = some (.tup xs) → BarOf m lo hi xs → Q (.ref p) H')
section
variable {P : Program} {w : World} {K : PySem.W.Frag} {mg : Str → Option Value} {base : Heap}
theorem ok_ring (T : Txt K mg) : FnOk P w K mg base (L2.CX P w) 6 T.a_ring T.fd_ring ["machine"] (sp_ring K T.c_Machine) := by
  refine T.F_ring.okX sc_ring (fun vs H Q E h => ?_) (fun cdv A outer s H vs Q E hr h => ?_)
  · obtain ⟨x, m, rfl, _⟩ := h
    rfl
  · obtain ⟨x, m, rfl, hm, o, k0, k1⟩ := h
    obtain ⟨dx, t, u, hx, hp⟩ := id hm
    refine ⟨_, (PSs.nox (pss_cons (ps_set (i := 1) sc_ring.nd rfl (Or.inl rfl) (pe_call (ok_shortest_rows T) (hr.mono (by decide)) (by rfl) T.m_shortest_rows T.k_shortest_rows T.b_shortest_rows .nil passL (pa_cons (pe_prop (pv 0) T.cl_Machine T.p_stands (ok_Machine_stands T) (hr.mono (by decide)) T.b_Machine_stands .nil passL rfl) (pa_cons (pe_prop (pv 0) T.cl_Machine T.p_steps (ok_Machine_steps T) (hr.mono (by decide)) T.b_Machine_steps .nil passL rfl) pa_nil))))
  (pss_cons (ps_lock (ps_for PassesOwn.never rfl (pi_keys (pv 1)) (pg_name (i := 2) sc_ring.nd rfl (Or.inl rfl))
  (pss_one (ps_for PassesOwn.never rfl (pi_tup (pe_tup (pa_cons pe_int (pa_cons (pe_un un_neg pe_int) pa_nil)))) (pg_name (i := 3) sc_ring.nd rfl (Or.inl rfl))
  (pss_one (ps_for PassesOwn.never rfl (pi_list (pe_call (ok_best_loops T) (hr.mono (by decide)) (by rfl) T.m_best_loops T.k_best_loops T.b_best_loops .nil passL (pa_cons (pe_prop (pv 0) T.cl_Machine T.p_stands (ok_Machine_stands T) (hr.mono (by decide)) T.b_Machine_stands .nil passL rfl) (pa_cons (pe_prop (pv 0) T.cl_Machine T.p_steps (ok_Machine_steps T) (hr.mono (by decide)) T.b_Machine_steps .nil passL rfl) (pa_cons (pv 2) (pa_cons (pv 3) pa_nil)))))) (pg_tup rfl (pgs_cons (pg_name (i := 4) sc_ring.nd rfl (Or.inl rfl)) (pgs_cons (pg_name (i := 5) sc_ring.nd rfl (Or.inl rfl)) pgs_nil)))
  (pss_one (ps_if (pt_cmpR op_gt (pv 4) pe_int (nomark _))
  (pss_one (ps_ret (pe_tup (pa_cons pe_str (pa_cons (pe_dget (hu_of hr) (pv 1) (pv 2) (fun _ _ => rfl)) (pa_cons (pv 5) pa_nil))))))
  pss_nil))))))))
  (pss_one (ps_ret pe_non))))), ?_⟩
    walk_at "begin"
    walk_at "go"
    refine ⟨x, dx, _, rfl, hx, x, dx, _, .int (m.n : Nat), rfl, hx, rfl, ?_⟩
    walk_at "go"
    refine ⟨x, dx, _, rfl, hx, x, dx, _, .ref t, rfl, hx, rfl, ?_⟩
    walk_at "go"
    refine ⟨t, m, rfl, hp.1, o, fun q kvs f H1 z1 hq eq ok nd fr fx => ?_⟩
    have n8 := o.n8
    walk_at "go"
    refine ⟨q, _, eq, trivial, fun od => ?_⟩
    obtain ⟨HL, eHL⟩ : ∃ z, z = upd H1 q (.frz od (.dK kvs)) := ⟨_, rfl⟩
    rw [← eHL]
    have qL : HL q = some (.frz od (.dK kvs)) := by rw [eHL, upd_same]
    have back : ∀ {H' : Hp}, Same HL H' → Same H (upd H' q (.dK kvs)) := fun {H'} z => by
      rw [eHL] at z
      exact z1.trans (unlock_same eq z)
    have hxL : HL x = some (.ins T.c_Machine dx (mfs m.n t u)) := by
      rw [eHL, upd_ne (fun z => by rw [z] at hx; rw [hx] at hq; cases hq)]
      exact z1 _ _ hx
    have stL : StAt K HL t m.ss := by
      rw [eHL]
      exact ((same_tups z1).trans (Tups.dk eq)).stAt hp.1
    walk_at "go"
    refine ⟨_, rfl, q, od, rfl, .inl ⟨kvs, qL, ?_⟩⟩
    refine for_it walk_keys (fun j σ H' => ∃ (a2 a3 a4 a5 : Option V), Same HL H' ∧ (∀ (j' : Nat) (v : V) (n : Nat), j' < j → kvs[j']? = some ((Sum.inl (n : Int) : Key), v) → (∀ y ∈ loopsAt m n 1, y.1 ≤ 0) ∧ ∀ y ∈ loopsAt m n (-1), y.1 ≤ 0) ∧
        σ = [some (.ref x), some (.ref q), a2, a3, a4, a5])
      ⟨_, _, _, _, Same.refl _, fun j' v n h => absurd h (Nat.not_lt_zero _), rfl⟩ (fun _ _ _ _ ⟨_, _, _, _, z, _⟩ => z _ _ qL) ?_ ?_
    · rintro j y σ H3 H4 hj ⟨a2, a3, a4, a5, z4, al, rfl⟩ ⟨rfl, key, v, hk, rfl⟩
      obtain ⟨n, rfl⟩ := ok.1 (key, v) (List.mem_of_getElem? hk)
      have fn : f n ≠ none := fun z => by
        have q := ok.2 n
        have q' : valV kvs (.inl (n : Int)) = (f n).map fun w => V.str (sOf w) := q
        rw [z] at q'
        have a := valV_any (.inl (n : Int) : Key) kvs
        rw [q'] at a
        have : kvs.any (fun kv => decide (kv.1 = (.inl (n : Int) : Key))) = true := List.any_eq_true.mpr ⟨_, List.mem_of_getElem? hk, decide_eq_true rfl⟩
        rw [this] at a
        cases a
      have rn := (fr n).mp fn
      have nn := reach_lt o rn
      walk_at "go"
      refine ⟨(by decide : 2 ≤ sizeLine), fun ts hts => ?_⟩
      have zs := z4.trans (Same.new (o := .tup [.int 1, .int (-1)]) hts)
      refine ⟨ts, rfl, ⟨_, SqT.of upd_same⟩, ?_⟩
      refine for_tup (xs := [V.int 1, .int (-1)]) (fun c σ H' => ∃ (a3 a4 a5 : Option V), Same HL H' ∧ H' ts = some (.tup [.int 1, .int (-1)]) ∧ (1 ≤ c → ∀ y ∈ loopsAt m n 1, y.1 ≤ 0) ∧ (2 ≤ c → ∀ y ∈ loopsAt m n (-1), y.1 ≤ 0) ∧
          σ = [some (.ref x), some (.ref q), some (.int (n : Nat)), a3, a4, a5])
        ⟨_, _, _, zs, upd_same, fun h => absurd h (by omega), fun h => absurd h (by omega), rfl⟩ (fun _ _ _ _ ⟨_, _, _, _, e, _⟩ => SqT.of e) ?_ ?_
      · rintro c y σ H5 hc ⟨a3, a4, a5, z5, ets, d1, d2, rfl⟩
        obtain ⟨sg, rfl, hsg⟩ : ∃ sg : Int, y = .int sg ∧ ((c = 0 ∧ sg = 1) ∨ (c = 1 ∧ sg = -1)) := by
          match c, hc with
          | 0, hc => cases hc; exact ⟨1, rfl, .inl ⟨rfl, rfl⟩⟩
          | 1, hc => cases hc; exact ⟨-1, rfl, .inr ⟨rfl, rfl⟩⟩
          | n + 2, hc => cases hc
        walk_at "go"
        refine ⟨x, dx, _, rfl, z5 _ _ hxL, x, dx, _, .int (m.n : Nat), rfl, z5 _ _ hxL, rfl, ?_⟩
        walk_at "go"
        refine ⟨x, dx, _, rfl, z5 _ _ hxL, x, dx, _, .ref t, rfl, z5 _ _ hxL, rfl, ?_⟩
        walk_at "go"
        refine ⟨t, sg, n, m, rfl, (same_tups z5).stAt stL, o, (by rcases hsg with ⟨_, h⟩ | ⟨_, h⟩; exact .inl h; exact .inr (.inl h)), nn, fun pl us H6 z6 hpl epl pr => ?_⟩
        refine ⟨pl, rfl, ⟨_, SqL.of epl⟩, for_list (xs := us) (fun e σ H' => ∃ (a4 a5 : Option V), Same HL H' ∧ H' ts = some (.tup [.int 1, .int (-1)]) ∧ H' pl = some (.lst us) ∧ PrAt K H' us (loopsAt m n sg) ∧ (∀ y ∈ (loopsAt m n sg).take e, y.1 ≤ 0) ∧
            σ = [some (.ref x), some (.ref q), some (.int (n : Nat)), some (.int sg), a4, a5])
          ⟨_, _, z5.trans z6, z6 _ _ ets, epl, pr, fun y hy => by simp at hy, rfl⟩ (fun _ _ _ _ ⟨_, _, _, _, e, _⟩ => SqL.of e) ?_ ?_⟩
        · rintro e y σ H7 he ⟨a4, a5, z7, ets7, epl7, pr7, al7, rfl⟩
          have el : e < (loopsAt m n sg).length := by rw [← pr7.1]; exact (List.getElem?_eq_some_iff.mp he).1
          have es : (loopsAt m n sg)[e]? = some ((loopsAt m n sg)[e]'el) := List.getElem?_eq_getElem el
          have hs : (loopsAt m n sg)[e]'el ∈ loopsAt m n sg := List.getElem_mem el
          have tk : (loopsAt m n sg).take (e + 1) = (loopsAt m n sg).take e ++ [(loopsAt m n sg)[e]'el] := by rw [List.take_add_one, es]; rfl
          rw [tk]
          generalize (loopsAt m n sg)[e]'el = y0 at es hs
          obtain ⟨pq, eq1, hq1⟩ := pr7.2 _ _ es
          rw [he] at eq1
          cases eq1
          refine k_gt hq1 rfl ?_
          unfold ent2
          walk_at "go"
          refine k_ite (fun cc => ?_) (fun cc => ?_)
          · walk_at "go"
            have dg : DGet H7 q (.int (n : Nat)) (valV kvs (.inl (n : Int))) := .inl ⟨kvs, .inl (n : Int), .inr ⟨od, z7 _ _ qL⟩, rfl, rfl⟩
            have q2 : valV kvs (.inl (n : Int)) = (f n).map fun w => V.str (sOf w) := ok.2 n
            cases fw : f n with
            | none => exact absurd fw fn
            | some lead =>
              rw [fw] at q2
              rw [q2] at dg
              obtain ⟨ll, tl, hrun⟩ := fx n lead fw
              refine ⟨q, _, rfl, dg, ?_⟩
              walk_at "go"
              refine ⟨(by decide : 3 ≤ sizeLine), fun pt hpt => ?_⟩
              obtain ⟨lv, g, hl, hg⟩ := loops_true o hs
              have z8 := z7.trans (Same.new (o := .tup (ringV lead y0.2)) hpt)
              have nq : pt ≠ q := fun z => by rw [z, z7 _ _ qL] at hpt; cases hpt
              refine ⟨z8 _ _ qL, ?_⟩
              refine k1 n lead y0.2 tl g hrun (by omega) hl (fun z => ?_) (by omega) pt _ (back z8) ?_ (by rw [upd_ne nq]; exact upd_same)
              · rw [z, Int.mul_zero] at hg
                omega
              · have := free_of z7 hpt
                rw [eHL, upd_ne nq] at this
                exact free_of z1 this
          · walk_at "go"
            refine ⟨_, _, z7, ets7, epl7, pr7, fun y hy => ?_, rfl⟩
            rcases List.mem_append.mp hy with hy | hy
            · exact al7 y hy
            · rw [List.mem_singleton.mp hy]
              omega
        · rintro σ H7 ⟨a4, a5, z7, ets7, epl7, pr7, al7, rfl⟩
          rw [pr7.1, List.take_length] at al7
          refine ⟨_, _, _, z7, ets7, fun _ => ?_, fun h => ?_, rfl⟩
          · rcases hsg with ⟨rfl, rfl⟩ | ⟨rfl, rfl⟩
            · exact al7
            · exact d1 (Nat.le_refl _)
          · rcases hsg with ⟨rfl, rfl⟩ | ⟨rfl, rfl⟩
            · omega
            · exact al7
      · rintro σ H5 ⟨a3, a4, a5, z5, ets, d1, d2, rfl⟩
        refine ⟨_, _, _, _, z5, fun j' v' n' hj' e => ?_, rfl⟩
        by_cases cj : j' = j
        · rw [cj, hk] at e
          have e' : ((Sum.inl (n : Int) : Key), v) = (.inl (n' : Int), v') := Option.some.inj e
          have := (key_eq n n').mp (congrArg Prod.fst e')
          rw [← this]
          exact ⟨d1 (by show 1 ≤ 2; omega), d2 (by show 2 ≤ 2; omega)⟩
        · exact al j' v' n' (by omega) e
    · rintro σ H4 ⟨a2, a3, a4, a5, z4, al, rfl⟩
      refine ⟨z4 _ _ qL, ?_⟩
      walk_at "go"
      have all : ∀ n, Reach m.ss [0] n → (∀ y ∈ loopsAt m n 1, y.1 ≤ 0) ∧ ∀ y ∈ loopsAt m n (-1), y.1 ≤ 0 := fun n hn => by
        have fn := (fr n).mpr hn
        obtain ⟨l, el, _, ml⟩ := ok.keys nd
        have hl : n ∈ l := (ml n).mpr (fun (z : (f n).map (fun w => V.str (sOf w)) = none) => fn (by cases e : f n with | none => rfl | some w => rw [e] at z; cases z))
        obtain ⟨i, hi, ei⟩ := List.getElem_of_mem hl
        have e2 : (kvs.map (·.1))[i]? = some (.inl (n : Int)) := by rw [el, List.getElem?_map, List.getElem?_eq_getElem hi, ei]; rfl
        rw [List.getElem?_map] at e2
        cases e3 : kvs[i]? with
        | none => rw [e3] at e2; cases e2
        | some p =>
          rw [e3] at e2
          have e4 : p.1 = .inl (n : Int) := Option.some.inj e2
          exact al i p.2 n (List.getElem?_eq_some_iff.mp e3).1 (by rw [e3, ← e4])
      refine k0 (fun b v g hb hl lv => ?_) (fun b v g hb hl lv => ?_) _ (back z4)
      · obtain ⟨y, hy, le⟩ := loops_all (sg := 1) hl lv
        have := (all b hb).1 y hy
        omega
      · obtain ⟨y, hy, le⟩ := loops_all (sg := -1) hl lv
        have := (all b hb).2 y hy
        omega
end
/-! ### a row outside the bounds; bar -/
section
variable {P : Program} {w : World} {K : PySem.W.Frag} {mg : Str → Option Value} {base : Heap}
theorem ok_row_outside (T : Txt K mg) : FnOk P w K mg base (L2.CX P w) 6 T.a_row_outside T.fd_row_outside ["machine", "low", "high"] (sp_outside K T.c_Machine) := by
  refine T.F_row_outside.okX sc_row_outside (fun vs H Q E h => ?_) (fun cdv A outer s H vs Q E hr h => ?_)
  · obtain ⟨x, lo, hi, m, rfl, _⟩ := h
    rfl
  · obtain ⟨x, lo, hi, m, rfl, hm, o, ne1, ne2, k0, k1⟩ := h
    obtain ⟨dx, t, u, hx, hp⟩ := id hm
    have n8 := o.n8
    refine ⟨_, (PSs.nox (pss_cons (ps_for PassesOwn.never rfl (pi_tup (pe_tup (pa_cons pe_int (pa_cons (pe_un un_neg pe_int) pa_nil)))) (pg_name (i := 3) sc_row_outside.nd rfl (Or.inl rfl))
  (pss_cons (ps_set (i := 4) sc_row_outside.nd rfl (Or.inl rfl) (pe_call (ok_best_rows T) (hr.mono (by decide)) (by rfl) T.m_best_rows T.k_best_rows T.b_best_rows .nil passL (pa_cons (pe_prop (pv 0) T.cl_Machine T.p_stands (ok_Machine_stands T) (hr.mono (by decide)) T.b_Machine_stands .nil passL rfl) (pa_cons (pe_prop (pv 0) T.cl_Machine T.p_steps (ok_Machine_steps T) (hr.mono (by decide)) T.b_Machine_steps .nil passL rfl) (pa_cons (pv 3) pa_nil)))))
  (pss_one (ps_lock (ps_for PassesOwn.never rfl (pi_keys (pv 4)) (pg_name (i := 5) sc_row_outside.nd rfl (Or.inl rfl))
  (pss_cons (ps_asg (pe_dget (hu_of hr) (pv 4) (pv 5) (fun _ _ => rfl)) (pg_tup rfl (pgs_cons (pg_name (i := 6) sc_row_outside.nd rfl (Or.inl rfl)) (pgs_cons (pg_name (i := 7) sc_row_outside.nd rfl (Or.inl rfl)) pgs_nil))))
  (pss_one (ps_if (pt_not (pt_chain op_le op_le (pv 1) (pe_op op_mulW (pv 3) (pv 6)) (pv 2)))
  (pss_one (ps_ret (pe_tup (pa_cons pe_str (pa_cons (pv 7) pa_nil)))))
  pss_nil))))))))
  (pss_one (ps_ret pe_non)))), ?_⟩
    walk_at "begin"
    walk_at "go"
    refine ⟨(by decide : 2 ≤ sizeLine), fun ts hts => ?_⟩
    have zs := Same.new (o := .tup [.int 1, .int (-1)]) hts
    refine ⟨ts, rfl, ⟨_, SqT.of upd_same⟩, ?_⟩
    refine for_tup (xs := [V.int 1, .int (-1)]) (fun c σ H' => ∃ (a3 a4 a5 a6 a7 : Option V), Same H H' ∧ H' ts = some (.tup [.int 1, .int (-1)]) ∧ (1 ≤ c → ∀ k y, bst 1 m.ss m.n k = some y → lo ≤ y.1 ∧ y.1 ≤ hi) ∧ (2 ≤ c → ∀ k y, bst (-1) m.ss m.n k = some y → lo ≤ -y.1 ∧ -y.1 ≤ hi) ∧
        σ = [some (.ref x), some (.int lo), some (.int hi), a3, a4, a5, a6, a7])
      ⟨_, _, _, _, _, zs, upd_same, fun h => absurd h (by omega), fun h => absurd h (by omega), rfl⟩ (fun _ _ _ _ ⟨_, _, _, _, _, _, e, _⟩ => SqT.of e) ?_ ?_
    · rintro c y σ H5 hc ⟨a3, a4, a5, a6, a7, z5, ets, d1, d2, rfl⟩
      obtain ⟨sg, rfl, hsg⟩ : ∃ sg : Int, y = .int sg ∧ ((c = 0 ∧ sg = 1) ∨ (c = 1 ∧ sg = -1)) := by
        match c, hc with
        | 0, hc => cases hc; exact ⟨1, rfl, .inl ⟨rfl, rfl⟩⟩
        | 1, hc => cases hc; exact ⟨-1, rfl, .inr ⟨rfl, rfl⟩⟩
        | n + 2, hc => cases hc
      have s1 : sg = 1 ∨ sg = -1 := by rcases hsg with ⟨_, h⟩ | ⟨_, h⟩; exact .inl h; exact .inr h
      have nE : ∀ k, ¬ Endl sg m k := by rcases s1 with rfl | rfl; exact ne1; exact ne2
      walk_at "go"
      refine ⟨x, dx, _, rfl, z5 _ _ hx, x, dx, _, .int (m.n : Nat), rfl, z5 _ _ hx, rfl, ?_⟩
      walk_at "go"
      refine ⟨x, dx, _, rfl, z5 _ _ hx, x, dx, _, .ref t, rfl, z5 _ _ hx, rfl, ?_⟩
      walk_at "go"
      refine ⟨t, sg, m.n, m.ss, rfl, .of ((same_tups z5).stAt hp.1), o.sok, .of s1, fun p kvs H1 l L z6 hp0 ep hl hL ok => ?_⟩
      rw [bestE_of o hl hL] at ok
      have b0 : ∀ n, bestE sg m n = E2 (bst sg m.ss m.n) n := fun n => by unfold bestE; rw [if_neg (nE n)]
      have ets1 := z6 _ _ ets
      walk_at "go"
      refine ⟨p, _, ep, trivial, fun od => ?_⟩
      obtain ⟨HL, eHL⟩ : ∃ z, z = upd H1 p (.frz od (.dK kvs)) := ⟨_, rfl⟩
      rw [← eHL]
      have tL : Tups H1 HL := by rw [eHL]; exact Tups.dk ep
      have pL : HL p = some (.frz od (.dK kvs)) := by rw [eHL, upd_same]
      have back : ∀ {H' : Hp}, Same HL H' → Same H1 (upd H' p (.dK kvs)) := fun {H'} z => by
        rw [eHL] at z
        exact unlock_same ep z
      walk_at "go"
      refine ⟨_, rfl, p, od, rfl, .inl ⟨kvs, pL, ?_⟩⟩
      refine for_it walk_keys (fun j σ H' => ∃ (a5 a6 a7 : Option V), Same HL H' ∧ (∀ (j' : Nat) (v : V) (n : Nat), j' < j → kvs[j']? = some ((Sum.inl (n : Int) : Key), v) → ∀ y, bst sg m.ss m.n n = some y → lo ≤ sg * y.1 ∧ sg * y.1 ≤ hi) ∧
          σ = [some (.ref x), some (.int lo), some (.int hi), some (.int sg), some (.ref p), a5, a6, a7])
        ⟨_, _, _, Same.refl _, fun j' v n h => absurd h (Nat.not_lt_zero _), rfl⟩ (fun _ _ _ _ ⟨_, _, _, z, _⟩ => z _ _ pL) ?_ ?_
      · rintro j y σ H3 H4 hj ⟨a5, a6, a7, z4, al, rfl⟩ ⟨rfl, key, v, hk, rfl⟩
        obtain ⟨n, rfl⟩ := ok.1 (key, v) (List.mem_of_getElem? hk)
        have inK : valV kvs (.inl (n : Int)) ≠ none := fun q => by
          have a := valV_any (.inl (n : Int) : Key) kvs
          rw [q] at a
          have : kvs.any (fun kv => decide (kv.1 = (.inl (n : Int) : Key))) = true := List.any_eq_true.mpr ⟨_, List.mem_of_getElem? hk, decide_eq_true rfl⟩
          rw [this] at a
          cases a
        obtain ⟨y, ey⟩ : ∃ y, bst sg m.ss m.n n = some y := by
          cases e : bst sg m.ss m.n n with
          | some y => exact ⟨y, rfl⟩
          | none => exact absurd ((ok.2 n).1 (by rw [b0]; unfold E2; rw [e]; rfl)) inK
        obtain ⟨q, eq, sq⟩ := (ok.2 n).2 (ent2 y) (by rw [b0]; unfold E2; rw [ey]; rfl)
        have dg : DGet H4 p (.int (n : Nat)) (valV kvs (.inl (n : Int))) := .inl ⟨kvs, .inl (n : Int), .inr ⟨od, z4 _ _ pL⟩, rfl, rfl⟩
        rw [eq] at dg
        obtain ⟨jj, hj', ej⟩ := bst_of _ _ _ ey
        have hrun := lvl_run o s1 jj _ _ ej
        have hlen := (lvl_ok o jj _ _ ej).2
        have sm := lvl_small o s1 jj _ _ ej
        walk_at "go"
        refine ⟨p, _, rfl, dg, ?_⟩
        refine k_gt ((same_tups z4).sq (tL.sq sq)) rfl ?_
        unfold ent2
        walk_at "go"
        have out : ¬ (lo ≤ sg * y.1 ∧ sg * y.1 ≤ hi) → tRet (tTup (tCons (tC (V.str (Str.ofString "row"))) (tCons (tVar 7) tNil))) { nx := fun _ _ => False, rt := fun v H' => H' p = some (.frz od (.dK kvs)) ∧ Q v (upd H' p (.dK kvs)) }
            [some (.ref x), some (.int lo), some (.int hi), some (.int sg), some (.ref p), some (.int (n : Nat)), some (.int y.1), some (.str (sOf y.2))] H4 := fun bad => by
          walk_at "go"
          refine ⟨(by decide : 2 ≤ sizeLine), fun pt hpt => ?_⟩
          have nq : pt ≠ p := fun z => by rw [z, z4 _ _ pL] at hpt; cases hpt
          have z8 := z4.trans (Same.new (o := .tup (rowV y.2)) hpt)
          refine ⟨z8 _ _ pL, k1 n y.2 _ hrun bad (by omega) pt _ ((z5.trans z6).trans (back z8)) ?_ (by rw [upd_ne nq]; exact upd_same)⟩
          have := free_of z4 hpt
          rw [eHL, upd_ne nq] at this
          exact free_of (z5.trans z6) this
        have keep : lo ≤ sg * y.1 ∧ sg * y.1 ≤ hi → ∀ (j' : Nat) (v : V) (n : Nat), j' < j + 1 → kvs[j']? = some ((Sum.inl (n : Int) : Key), v) → ∀ y, bst sg m.ss m.n n = some y → lo ≤ sg * y.1 ∧ sg * y.1 ≤ hi := fun ok1 j' v' n' hj2 e y2 ey2 => by
          by_cases cj : j' = j
          · rw [cj, hk] at e
            have e' : ((Sum.inl (n : Int) : Key), v) = (.inl (n' : Int), v') := Option.some.inj e
            have := (key_eq n n').mp (congrArg Prod.fst e')
            rw [← this, ey] at ey2
            cases ey2
            exact ok1
          · exact al j' v' n' (by omega) e y2 ey2
        refine k_chain ?_
        walk_at "go"
        refine k_I (wide_mul (a := 1) (b := 110) (by rcases s1 with rfl | rfl <;> decide) ?_ (by decide) (by decide) (by decide)) ?_
        · have : (jj : Int) * 10 ^ 30 ≤ 8 * 10 ^ 30 := by omega
          omega
        walk_at "go"
        refine k_ite (fun c1 => ?_) (fun c1 => ?_)
        · walk_at "go"
          by_cases c2 : sg * y.1 ≤ hi
          · rw [decide_eq_true c2]
            refine iteF ?_
            walk_at "go"
            exact ⟨_, _, _, z4, keep ⟨c1, c2⟩, rfl⟩
          · rw [decide_eq_false c2]
            refine iteT ?_
            exact out fun z => c2 z.2
        · walk_at "go"
          refine iteT ?_
          exact out fun z => c1 z.1
      · rintro σ H4 ⟨a5, a6, a7, z4, al, rfl⟩
        refine ⟨z4 _ _ pL, ?_⟩
        have all : ∀ k y, bst sg m.ss m.n k = some y → lo ≤ sg * y.1 ∧ sg * y.1 ≤ hi := fun n y ey => by
          obtain ⟨q, eq, _⟩ := (ok.2 n).2 (ent2 y) (by rw [b0]; unfold E2; rw [ey]; rfl)
          have a := valV_any (.inl (n : Int) : Key) kvs
          rw [eq] at a
          obtain ⟨kv, hm2, hd⟩ := List.any_eq_true.mp (a.trans rfl)
          obtain ⟨j, hj, ej⟩ := List.getElem_of_mem hm2
          have hd' : kv.1 = .inl (n : Int) := of_decide_eq_true hd
          exact al j kv.2 n hj (by rw [List.getElem?_eq_getElem hj, ej, ← hd']) y ey
        have nts : ts ≠ p := ne_of_none ets hp0
        refine ⟨_, _, _, _, _, z5.trans (z6.trans (back z4)), (back z4) _ _ ets1, fun _ => ?_, fun h => ?_, rfl⟩
        · rcases hsg with ⟨rfl, rfl⟩ | ⟨rfl, rfl⟩
          · intro k y ey
            have := all k y ey
            omega
          · exact d1 (Nat.le_refl _)
        · rcases hsg with ⟨rfl, rfl⟩ | ⟨rfl, rfl⟩
          · omega
          · intro k y ey
            have := all k y ey
            omega
    · rintro σ H5 ⟨a3, a4, a5, a6, a7, z5, ets, d1, d2, rfl⟩
      walk_at "go"
      exact k0 (fun k _ => ⟨ne1 k, ne2 k, fun y ey => (d1 (by show 1 ≤ 2; omega) k y ey).2, fun y ey => (d2 (by show 2 ≤ 2; omega) k y ey).1⟩) _ z5
theorem ok_bar (T : Txt K mg) : FnOk P w K mg base (L2.CX P w) 8 T.a_bar T.fd_bar ["machine", "low", "high"] (sp_bar K T.c_Machine) := by
  refine T.F_bar.okX sc_bar (fun vs H Q E h => ?_) (fun cdv A outer s H vs Q E hr h => ?_)
  · obtain ⟨x, lo, hi, m, rfl, _⟩ := h
    rfl
  · obtain ⟨x, lo, hi, m, rfl, hm, o, h1, h2, h3, k0, k1⟩ := h
    obtain ⟨dx, t, u, hx, hp⟩ := id hm
    refine ⟨_, (PSs.nox (pss_cons (ps_expr (pe_call (ok_check_machine T) (hr.mono (by decide)) (by rfl) T.m_check_machine T.k_check_machine T.b_check_machine .nil passL (pa_cons (pv 0) pa_nil)))
  (pss_cons (ps_expr (pe_call (ok_check_bounds T) (hr.mono (by decide)) (by rfl) T.m_check_bounds T.k_check_bounds T.b_check_bounds .nil passL (pa_cons (pv 1) (pa_cons (pv 2) (pa_cons (pe_glob (by rfl) T.m_MOST_NUMBER T.r_MOST_NUMBER) pa_nil)))))
  (pss_cons (ps_set (i := 3) sc_bar.nd rfl (Or.inl rfl) (pe_call (ok_ring T) (hr.mono (by decide)) (by rfl) T.m_ring T.k_ring T.b_ring .nil passL (pa_cons (pv 0) pa_nil)))
  (pss_one (ps_ret (pe_ifExp (pt_cmp (pc_isN (pv 3))) (pe_call (ok_row_outside T) (hr.mono (by decide)) (by rfl) T.m_row_outside T.k_row_outside T.b_row_outside .nil passL (pa_cons (pv 0) (pa_cons (pv 1) (pa_cons (pv 2) pa_nil)))) (pv 3)))))))), ?_⟩
    walk_at "begin"
    walk_at "go"
    refine ⟨x, dx, _, rfl, hx, ?_⟩
    walk_at "go"
    refine ⟨lo, hi, _, rfl, by omega, h2, by omega, ?_⟩
    walk_at "go"
    refine ⟨x, m, rfl, hm, o, fun r1 r2 H1 z1 => ?_, fun b lead v t' g hl l8 hv g0 v8 p H1 z1 hp1 ep1 => ?_⟩
    · walk_at "go"
      refine k_yes (by rfl) ?_
      walk_at "go"
      refine ⟨x, lo, hi, m, rfl, hm.same z1, o, no_ring o (.inl rfl) r1, no_ring o (.inr rfl) r2, fun c H2 z2 => k0 c _ (z1.trans z2), fun k w t2 hw bad w8 p H2 z2 hp2 ep2 => ?_⟩
      exact k1 (fun c => bad (can_rows o c hw)) p _ _ (z1.trans z2) (free_of z1 hp2) ep2 (.inl ⟨k, w, t2, rfl, w8, hw, bad⟩)
    · walk_at "go"
      refine k_no (by rfl) ?_
      walk_at "go"
      exact k1 (fun c => g0 (can_no_ring o c (run_reach _ _ _ _ rfl hl) hv.2)) p _ _ z1 hp1 ep1 (.inr ⟨b, lead, v, t', g, rfl, l8, v8, hl, hv, g0⟩)
end
/-! ### whether a value bars -/
def StrOr (K : PySem.W.Frag) (H : Hp) (v : V) : Prop := (∃ z : Str, v = .str z ∧ z.cps.size ≤ 1000) ∨ ((∀ H', Same H H' → NotStr K H' v) ∧ ∀ z, v ≠ .str z)
theorem StrOr.same {K : PySem.W.Frag} {H H' : Hp} {v : V} (h : StrOr K H v) (z : Same H H') : StrOr K H' v := by
  rcases h with h | ⟨h, n⟩
  · exact .inl h
  · exact .inr ⟨fun H2 z2 => h H2 (z.trans z2), n⟩
def gainS (m : MD) (a b : Str) : V := match run m a.cps.toList with
  | none => .non
  | some q => match runW m (q.1, 0) b.cps.toList with
    | none => .non
    | some r => if r.1 = q.1 ∧ b ≠ "" then .int r.2 else .non
def gainV (m : MD) : V → V → V
  | .str a, .str b => gainS m a b
  | _, _ => .non
def rowS (m : MD) (lo hi : Int) (z : Str) : Bool := match run m z.cps.toList with
  | none => false
  | some q => !decide (lo ≤ q.2 ∧ q.2 ≤ hi)
def rowB (m : MD) (lo hi : Int) : V → Bool
  | .str z => rowS m lo hi z
  | _ => false
def ringB (m : MD) (v u : V) : Bool := match gainV m v u with
  | .int g => !decide (g = 0)
  | _ => false
def barB (m : MD) (lo hi : Int) : List V → Bool
  | [a, v] => decide (a = .str "row") && rowB m lo hi v
  | [a, v, u] => decide (a = .str "ring") && ringB m v u
  | _ => false
theorem gain_none {m : MD} {v u : V} (h : ∀ z, v ≠ .str z) : gainV m v u = .non := by
  unfold gainV
  split
  · exact absurd rfl (h _)
  · rfl
theorem gain_none2 {m : MD} {v u : V} (h : ∀ z, u ≠ .str z) : gainV m v u = .non := by
  unfold gainV
  split
  · exact absurd rfl (h _)
  · rfl
theorem gain_row {m : MD} {z : Str} {u : V} (h : run m z.cps.toList = none) : gainV m (.str z) u = .non := by
  cases u with
  | str y =>
    show gainS m z y = .non
    unfold gainS
    rw [h]
  | _ => rfl
theorem gain_two0 {m : MD} {z y : Str} {s : Nat} {t : Int} (h : run m z.cps.toList = some (s, t)) (h2 : runW m (s, 0) y.cps.toList = none) : gainV m (.str z) (.str y) = .non := by
  show gainS m z y = .non
  unfold gainS
  rw [h]
  dsimp only
  rw [h2]
theorem gain_two {m : MD} {z y : Str} {s e : Nat} {t g : Int} (h : run m z.cps.toList = some (s, t)) (h2 : runW m (s, 0) y.cps.toList = some (e, g)) : gainV m (.str z) (.str y) = if e = s ∧ y ≠ "" then .int g else .non := by
  show gainS m z y = _
  unfold gainS
  rw [h]
  dsimp only
  rw [h2]
theorem row_none {m : MD} {lo hi : Int} {z : Str} (h : run m z.cps.toList = none) : rowB m lo hi (.str z) = false := by
  show rowS m lo hi z = false
  unfold rowS
  rw [h]
theorem row_some {m : MD} {lo hi : Int} {z : Str} {s : Nat} {t : Int} (h : run m z.cps.toList = some (s, t)) : rowB m lo hi (.str z) = !decide (lo ≤ t ∧ t ≤ hi) := by
  show rowS m lo hi z = _
  unfold rowS
  rw [h]
def sp_gain (K : PySem.W.Frag) (C : Addr) : Sp := fun vs H Q _ => ∃ (x : Addr) (v u : V) (m : MD), vs = [.ref x, v, u] ∧ MAt K C H x m ∧ m.Ok ∧ StrOr K H v ∧ StrOr K H u ∧ ∀ H', Same H H' → Q (gainV m v u) H'
def sp_brow (K : PySem.W.Frag) (C : Addr) : Sp := fun vs H Q _ => ∃ (x : Addr) (lo hi : Int) (v : V) (m : MD), vs = [.ref x, .int lo, .int hi, v] ∧ MAt K C H x m ∧ m.Ok ∧ StrOr K H v ∧ ∀ H', Same H H' → Q (.bl (rowB m lo hi v)) H'
def sp_bring (K : PySem.W.Frag) (C : Addr) : Sp := fun vs H Q _ => ∃ (x : Addr) (v u : V) (m : MD), vs = [.ref x, v, u] ∧ MAt K C H x m ∧ m.Ok ∧ StrOr K H v ∧ StrOr K H u ∧ ∀ H', Same H H' → Q (.bl (ringB m v u)) H'
def BarArgs (K : PySem.W.Frag) (H : Hp) (xs : List V) : Prop := (∀ a v, xs = [a, v] → (∃ z, a = .str z) ∧ StrOr K H v) ∧ ∀ a v u, xs = [a, v, u] → (∃ z, a = .str z) ∧ StrOr K H v ∧ StrOr K H u
def sp_rbar (K : PySem.W.Frag) (C : Addr) : Sp := fun vs H Q _ => ∃ (x : Addr) (lo hi : Int) (v : V) (m : MD), vs = [.ref x, .int lo, .int hi, v] ∧ MAt K C H x m ∧ m.Ok ∧ -(10 ^ 40) ≤ lo ∧ lo ≤ hi ∧ hi ≤ 10 ^ 40 ∧
  (((∃ t, TyX K H v t ∧ PySem.W.kitOne K t (.type "tuple") = some false) ∧ Q (.bl false) H) ∨ ∃ p xs, v = .ref p ∧ SqT K H p xs ∧ BarArgs K H xs ∧ ∀ H', Same H H' → Q (.bl (barB m lo hi xs)) H')
section
variable {P : Program} {w : World} {K : PySem.W.Frag} {mg : Str → Option Value} {base : Heap}
theorem ok_gain_of_loop (T : Txt K mg) : FnOk P w K mg base (L2.CX P w) 6 T.a_gain_of_loop T.fd_gain_of_loop ["machine", "lead", "loop"] (sp_gain K T.c_Machine) := by
  refine T.F_gain_of_loop.okX sc_gain_of_loop (fun vs H Q E h => ?_) (fun cdv A outer s H vs Q E hr h => ?_)
  · obtain ⟨x, v, u, m, rfl, _⟩ := h
    rfl
  · obtain ⟨x, v, u, m, rfl, hm, o, hv, hu, k⟩ := h
    refine ⟨_, (PSs.nox (pss_cons (ps_set (i := 3) sc_gain_of_loop.nd rfl (Or.inl rfl) (pe_call (ok_way T) (hr.mono (by decide)) (by rfl) T.m_way T.k_way T.b_way .nil passL (pa_cons (pv 0) (pa_cons pe_int (pa_cons (pv 1) pa_nil)))))
  (pss_cons (ps_if (pt_cmp (pc_isN (pv 3)))
  (pss_one (ps_ret pe_non))
  pss_nil)
  (pss_cons (ps_set (i := 4) sc_gain_of_loop.nd rfl (Or.inl rfl) (pe_call (ok_way T) (hr.mono (by decide)) (by rfl) T.m_way T.k_way T.b_way .nil passL (pa_cons (pv 0) (pa_cons (pe_ix ix_tup (pv 3) pe_int (fun _ _ => rfl)) (pa_cons (pv 2) pa_nil)))))
  (pss_cons (ps_if (PW.pt (pw_or (pt_cmp (pc_isN (pv 4))) (pw_or (pt_cmpR op_ne (pe_ix ix_tup (pv 4) pe_int (fun _ _ => rfl)) (pe_ix ix_tup (pv 3) pe_int (fun _ _ => rfl)) (nomark _)) (pw_or1 (pt_cmpR op_eq (pv 2) pe_str (nomark _))))))
  (pss_one (ps_ret pe_non))
  pss_nil)
  (pss_one (ps_ret (pe_ix ix_list (pe_ix ix_tup (pv 4) pe_int (fun _ _ => rfl)) (pe_un un_neg pe_int) (fun _ _ => rfl))))))))), ?_⟩
    walk_at "begin"
    walk_at "go"
    rcases hv with ⟨z, rfl, zk⟩ | ⟨hn, hz⟩
    · refine ⟨x, 0, _, m, rfl, hm, o, .inr ⟨z, rfl, zk, fun e H1 z1 => ?_, fun b t e p q xs H1 z1 hp ep eq sm => ?_⟩⟩
      · walk_at "go"
        refine k_yes (by rfl) ?_
        walk_at "go"
        have := k H1 z1
        rw [gain_row e] at this
        exact this
      · walk_at "go"
        refine k_no (by rfl) ?_
        walk_at "go"
        refine k_ixT (SqT.of ep) (v := .int (b : Nat)) rfl ?_
        walk_at "go"
        rcases hu.same z1 with ⟨y, rfl, yk⟩ | ⟨hn, hz⟩
        · refine ⟨x, b, _, m, rfl, hm.same z1, o, .inr ⟨y, rfl, yk, fun e2 H2 z2 => ?_, fun b2 g e2 p2 q2 xs2 H2 z2 hp2 ep2 eq2 sm2 => ?_⟩⟩
          · walk_at "go"
            refine k_yes (by rfl) ?_
            walk_at "go"
            have := k H2 (z1.trans z2)
            rw [gain_two0 e e2] at this
            exact this
          · have kk := k H2 (z1.trans z2)
            rw [gain_two e e2] at kk
            walk_at "go"
            refine k_no (by rfl) ?_
            walk_at "go"
            refine k_ixT (SqT.of ep2) (v := .int (b2 : Nat)) rfl ?_
            walk_at "go"
            refine k_ixT (SqT.of (z2 _ _ ep)) (v := .int (b : Nat)) rfl ?_
            walk_at "go"
            by_cases c1 : b2 = b
            · refine k_no (by rw [c1]; simp) ?_
              walk_at "go"
              refine k_ite (fun c2 => ?_) (fun c2 => ?_)
              · have c2' : y = "" := by injection c2
                rw [if_neg fun z => z.2 c2'] at kk
                walk_at "go"
                exact kk
              · have c2' : y ≠ "" := fun z => c2 (by rw [z])
                rw [if_pos ⟨c1, c2'⟩] at kk
                walk_at "go"
                refine k_ixT (SqT.of ep2) (v := .ref q2) rfl ?_
                walk_at "go"
                exact k_ixL (SqL.of eq2) (sm2.last e2) kk
            · refine k_yes (by simp; omega) ?_
              rw [if_neg fun z => c1 z.1] at kk
              walk_at "go"
              exact kk
        · refine ⟨x, b, _, m, rfl, hm.same z1, o, .inl ⟨hn _ (Same.refl _), ?_⟩⟩
          walk_at "go"
          refine k_yes (by rfl) ?_
          walk_at "go"
          have := k H1 z1
          rw [gain_none2 hz] at this
          exact this
    · refine ⟨x, 0, v, m, rfl, hm, o, .inl ⟨hn _ (Same.refl _), ?_⟩⟩
      walk_at "go"
      refine k_yes (by rfl) ?_
      walk_at "go"
      have := k H (Same.refl _)
      rw [gain_none hz] at this
      exact this
theorem ok_bars_as_row (T : Txt K mg) : FnOk P w K mg base (L2.CX P w) 6 T.a_bars_as_row T.fd_bars_as_row ["machine", "low", "high", "row"] (sp_brow K T.c_Machine) := by
  refine T.F_bars_as_row.okX sc_bars_as_row (fun vs H Q E h => ?_) (fun cdv A outer s H vs Q E hr h => ?_)
  · obtain ⟨x, lo, hi, v, m, rfl, _⟩ := h
    rfl
  · obtain ⟨x, lo, hi, v, m, rfl, hm, o, hv, k⟩ := h
    refine ⟨_, (PSs.nox (pss_cons (ps_set (i := 4) sc_bars_as_row.nd rfl (Or.inl rfl) (pe_call (ok_way T) (hr.mono (by decide)) (by rfl) T.m_way T.k_way T.b_way .nil passL (pa_cons (pv 0) (pa_cons pe_int (pa_cons (pv 3) pa_nil)))))
  (pss_one (ps_ret (pe_and (pe_cmp (pc_notN (pv 4))) (pe_one (pe_not (pe_chain op_le op_le (pv 1) (pe_ix ix_list (pe_ix ix_tup (pv 4) pe_int (fun _ _ => rfl)) (pe_un un_neg pe_int) (fun _ _ => rfl)) (pv 2))))))))), ?_⟩
    walk_at "begin"
    walk_at "go"
    rcases hv with ⟨z, rfl, zk⟩ | ⟨hn, hz⟩
    · refine ⟨x, 0, _, m, rfl, hm, o, .inr ⟨z, rfl, zk, fun e H1 z1 => ?_, fun b t e p q xs H1 z1 hp ep eq sm => ?_⟩⟩
      · walk_at "go"
        refine k_no (by rfl) ?_
        have := k H1 z1
        rw [row_none e] at this
        exact this
      · have kk := k H1 z1
        rw [row_some e] at kk
        walk_at "go"
        refine k_yes (by rfl) ?_
        walk_at "go"
        refine k_chain ?_
        walk_at "go"
        refine k_ixT (SqT.of ep) (v := .ref q) rfl ?_
        walk_at "go"
        refine k_ixL (SqL.of eq) (sm.last e) ?_
        walk_at "go"
        refine k_ite (fun c1 => ?_) (fun c1 => ?_)
        · walk_at "go"
          rw [decide_eq_decide.mpr (show lo ≤ t ∧ t ≤ hi ↔ t ≤ hi from ⟨fun z => z.2, fun z => ⟨c1, z⟩⟩)] at kk
          exact kk
        · walk_at "go"
          rw [decide_eq_false (show ¬ (lo ≤ t ∧ t ≤ hi) from fun z => c1 z.1)] at kk
          exact kk
    · refine ⟨x, 0, v, m, rfl, hm, o, .inl ⟨hn _ (Same.refl _), ?_⟩⟩
      walk_at "go"
      refine k_no (by rfl) ?_
      have := k H (Same.refl _)
      have e0 : rowB m lo hi v = false := by
        cases v with
        | str y => exact absurd rfl (hz y)
        | _ => rfl
      rw [e0] at this
      exact this
theorem ok_bars_as_ring (T : Txt K mg) : FnOk P w K mg base (L2.CX P w) 7 T.a_bars_as_ring T.fd_bars_as_ring ["machine", "lead", "loop"] (sp_bring K T.c_Machine) := by
  refine T.F_bars_as_ring.okX sc_bars_as_ring (fun vs H Q E h => ?_) (fun cdv A outer s H vs Q E hr h => ?_)
  · obtain ⟨x, v, u, m, rfl, _⟩ := h
    rfl
  · obtain ⟨x, v, u, m, rfl, hm, o, hv, hu, k⟩ := h
    refine ⟨_, (PSs.nox (pss_cons (ps_set (i := 3) sc_bars_as_ring.nd rfl (Or.inl rfl) (pe_call (ok_gain_of_loop T) (hr.mono (by decide)) (by rfl) T.m_gain_of_loop T.k_gain_of_loop T.b_gain_of_loop .nil passL (pa_cons (pv 0) (pa_cons (pv 1) (pa_cons (pv 2) pa_nil)))))
  (pss_one (ps_ret (pe_and (pe_cmp (pc_notN (pv 3))) (pe_one (pe_cmpR op_ne (pv 3) pe_int (nomark _)))))))), ?_⟩
    walk_at "begin"
    walk_at "go"
    refine ⟨x, v, u, m, rfl, hm, o, hv, hu, fun H1 z1 => ?_⟩
    have kk := k H1 z1
    unfold ringB at kk
    have gs : (∃ g, gainV m v u = .int g) ∨ gainV m v u = .non := by
      unfold gainV
      split
      · unfold gainS
        split
        · exact .inr rfl
        · split
          · exact .inr rfl
          · split
            · exact .inl ⟨_, rfl⟩
            · exact .inr rfl
      · exact .inr rfl
    rcases gs with ⟨g, e⟩ | e
    · rw [e] at kk ⊢
      walk_at "go"
      refine k_yes (by rfl) ?_
      walk_at "go"
      have e2 : decide (V.int g = V.int 0) = decide (g = 0) := decide_eq_decide.mpr ⟨fun z => by injection z, fun z => by rw [z]⟩
      rw [e2]
      exact kk
    · rw [e] at kk ⊢
      walk_at "go"
      refine k_no (by rfl) ?_
      exact kk
theorem ok_right_bar (T : Txt K mg) : FnOk P w K mg base (L2.CX P w) 8 T.a_right_bar T.fd_right_bar ["machine", "low", "high", "value"] (sp_rbar K T.c_Machine) := by
  refine T.F_right_bar.okX sc_right_bar (fun vs H Q E h => ?_) (fun cdv A outer s H vs Q E hr h => ?_)
  · obtain ⟨x, lo, hi, v, m, rfl, _⟩ := h
    rfl
  · obtain ⟨x, lo, hi, v, m, rfl, hm, o, h1, h2, h3, k⟩ := h
    obtain ⟨dx, t, u, hx, _⟩ := id hm
    refine ⟨_, (PSs.nox (pss_cons (ps_expr (pe_call (ok_check_machine T) (hr.mono (by decide)) (by rfl) T.m_check_machine T.k_check_machine T.b_check_machine .nil passL (pa_cons (pv 0) pa_nil)))
  (pss_cons (ps_expr (pe_call (ok_check_bounds T) (hr.mono (by decide)) (by rfl) T.m_check_bounds T.k_check_bounds T.b_check_bounds .nil passL (pa_cons (pv 1) (pa_cons (pv 2) (pa_cons (pe_glob (by rfl) T.m_MOST_NUMBER T.r_MOST_NUMBER) pa_nil)))))
  (pss_cons (ps_if (pt_not (pt_val (pe_callB call_isi (by rfl) T.z_isinstance (by decide +kernel) (pa_cons (pv 3) (pa_cons (pe_bltn (v := .ty "tuple") (by rfl) T.z_tuple (by decide +kernel) rfl) pa_nil)))))
  (pss_one (ps_ret pe_bl))
  pss_nil)
  (pss_cons (ps_if (PW.pt (pw_and (pt_cmpR op_eq (pe_callB call_len_seq (by rfl) T.z_len PySem.boot_len (pa_cons (pv 3) pa_nil)) pe_int (nomark _)) (pw_and1 (pt_cmpR op_eq (pe_ix ix_tup (pv 3) pe_int (fun _ _ => rfl)) pe_str (nomark _)))))
  (pss_one (ps_ret (pe_call (ok_bars_as_row T) (hr.mono (by decide)) (by rfl) T.m_bars_as_row T.k_bars_as_row T.b_bars_as_row .nil passL (pa_cons (pv 0) (pa_cons (pv 1) (pa_cons (pv 2) (pa_cons (pe_ix ix_tup (pv 3) pe_int (fun _ _ => rfl)) pa_nil)))))))
  pss_nil)
  (pss_cons (ps_if (PW.pt (pw_and (pt_cmpR op_eq (pe_callB call_len_seq (by rfl) T.z_len PySem.boot_len (pa_cons (pv 3) pa_nil)) pe_int (nomark _)) (pw_and1 (pt_cmpR op_eq (pe_ix ix_tup (pv 3) pe_int (fun _ _ => rfl)) pe_str (nomark _)))))
  (pss_one (ps_ret (pe_call (ok_bars_as_ring T) (hr.mono (by decide)) (by rfl) T.m_bars_as_ring T.k_bars_as_ring T.b_bars_as_ring .nil passL (pa_cons (pv 0) (pa_cons (pe_ix ix_tup (pv 3) pe_int (fun _ _ => rfl)) (pa_cons (pe_ix ix_tup (pv 3) pe_int (fun _ _ => rfl)) pa_nil))))))
  pss_nil)
  (pss_one (ps_ret pe_bl)))))))), ?_⟩
    walk_at "begin"
    walk_at "go"
    refine ⟨x, dx, _, rfl, hx, ?_⟩
    walk_at "go"
    refine ⟨lo, hi, _, rfl, by omega, h2, by omega, ?_⟩
    walk_at "go"
    rcases k with ⟨⟨tv, hv1, hv2⟩, k⟩ | ⟨p, xs, rfl, hp, ba, k⟩
    · refine k_isi (.ty _) hv1 hv2 ?_
      walk_at "go"
      refine iteT ?_
      walk_at "go"
      exact k
    · refine k_isi (.ty _) (ty_tup hp) (kit_ty (b := "tuple") (r := true) (by decide +kernel)) ?_
      walk_at "go"
      refine iteF ?_
      walk_at "go"
      refine k_len (.inr hp) ?_
      walk_at "go"
      match xs, hp, ba, k with
      | [a, v], hp, ba, k =>
        obtain ⟨⟨z, rfl⟩, hv⟩ := ba.1 _ _ rfl
        refine k_yes (by rfl) ?_
        walk_at "go"
        refine k_ixT hp (v := .str z) rfl ?_
        walk_at "go"
        refine k_ite (fun c => ?_) (fun c => ?_)
        · walk_at "go"
          refine k_ixT hp (v := v) rfl ?_
          refine ⟨x, lo, hi, v, m, rfl, hm, o, hv, fun H1 z1 => ?_⟩
          have kk := k H1 z1
          rw [show barB m lo hi [.str z, v] = rowB m lo hi v by show (decide (V.str z = .str "row") && rowB m lo hi v) = _; rw [c]; rfl] at kk
          exact kk
        · walk_at "go"
          refine k_len (.inr hp) ?_
          walk_at "go"
          refine k_no (by rfl) ?_
          refine iteF ?_
          walk_at "go"
          have kk := k _ (Same.refl _)
          rw [show barB m lo hi [.str z, v] = false by show (decide (V.str z = .str "row") && rowB m lo hi v) = _; rw [decide_eq_false c]; rfl] at kk
          exact kk
      | [a, v, u], hp, ba, k =>
        obtain ⟨⟨z, rfl⟩, hv, hu⟩ := ba.2 _ _ _ rfl
        refine k_no (by rfl) ?_
        refine iteF ?_
        walk_at "go"
        refine k_len (.inr hp) ?_
        walk_at "go"
        refine k_yes (by rfl) ?_
        walk_at "go"
        refine k_ixT hp (v := .str z) rfl ?_
        walk_at "go"
        refine k_ite (fun c => ?_) (fun c => ?_)
        · walk_at "go"
          refine k_ixT hp (v := v) rfl ?_
          walk_at "go"
          refine k_ixT hp (v := u) rfl ?_
          refine ⟨x, v, u, m, rfl, hm, o, hv, hu, fun H1 z1 => ?_⟩
          have kk := k H1 z1
          rw [show barB m lo hi [.str z, v, u] = ringB m v u by show (decide (V.str z = .str "ring") && ringB m v u) = _; rw [c]; rfl] at kk
          exact kk
        · walk_at "go"
          have kk := k _ (Same.refl _)
          rw [show barB m lo hi [.str z, v, u] = false by show (decide (V.str z = .str "ring") && ringB m v u) = _; rw [decide_eq_false c]; rfl] at kk
          exact kk
      | [], hp, ba, k =>
        refine k_no (by rfl) ?_
        refine iteF ?_
        walk_at "go"
        refine k_len (.inr hp) ?_
        walk_at "go"
        refine k_no (by rfl) ?_
        refine iteF ?_
        walk_at "go"
        exact k _ (Same.refl _)
      | [a], hp, ba, k =>
        refine k_no (by rfl) ?_
        refine iteF ?_
        walk_at "go"
        refine k_len (.inr hp) ?_
        walk_at "go"
        refine k_no (by rfl) ?_
        refine iteF ?_
        walk_at "go"
        exact k _ (Same.refl _)
      | a :: b :: c :: d :: r, hp, ba, k =>
        have l4 : ∀ n : Int, n ≤ 3 → decide (V.int ((a :: b :: c :: d :: r).length : Nat) = V.int n) = false := fun n hn => decide_eq_false fun z => by
          injection z with z
          rw [List.length_cons, List.length_cons, List.length_cons, List.length_cons] at z
          omega
        refine k_no (l4 _ (by decide)) ?_
        refine iteF ?_
        walk_at "go"
        refine k_len (.inr hp) ?_
        walk_at "go"
        refine k_no (l4 _ (by decide)) ?_
        refine iteF ?_
        walk_at "go"
        exact k _ (Same.refl _)
end
/-! ### a <= b <= c <= d in a test -/
def tChain3 (r r' r2 : R2) (ta tb tc td : TE) : TE := fun σ H Q => ta σ H fun x H1 => tb σ H1 fun y H2 => r x y H2 fun z H3 => ∃ k, z = .bl k ∧ if k = true then (tc σ H3 fun u H4 => r' y u H4 fun z' H5 => ∃ k', z' = .bl k' ∧ if k' = true then (td σ H5 fun v H6 => r2 u v H6 Q) else Q (.bl false) H5) else Q (.bl false) H3
theorem k_chain3 {r r' r2 : R2} {ta tb tc td : TE} {σ : L2.St} {H : Hp} {Q : VK} (h : ta σ H fun x H1 => tb σ H1 fun y H2 => r x y H2 fun z H3 => ∃ k, z = .bl k ∧ if k = true then (tc σ H3 fun u H4 => r' y u H4 fun z' H5 => ∃ k', z' = .bl k' ∧ if k' = true then (td σ H5 fun v H6 => r2 u v H6 Q) else Q (.bl false) H5) else Q (.bl false) H3) : tChain3 r r' r2 ta tb tc td σ H Q := h
open PySem.Spec PyProof.Rows in
theorem pt_chain3 {X : Cx} {a b c d : Expr} {ta tb tc td : TE} {pos : Pos} {op op' op2 : CmpOp} {r r' r2 : R2} (ho : OpR X (compareOp op) r) (ho' : OpR X (compareOp op') r') (ho2 : OpR X (compareOp op2) r2) (ha : PE X a ta) (hb : PE X b tb) (hc : PE X c tc) (hd : PE X d td)
    (hm : lastMarks [op, op', op2] [b, c, d] = false := by with_unfolding_all rfl) : PT X (.Compare a [op, op', op2] [b, c, d] pos) (tTest (tChain3 r r' r2 ta tb tc td)) := by
  constructor
  intro pins s σ H Q I h
  refine isTrue_chain (thn (ha.run pins s σ H _ I h) ?_) hm
  rintro v s1 ⟨x, H1, I1, e1, q1⟩
  refine test_link (thn (hb.run pins s1 σ H1 _ I1 q1) ?_)
  rintro u s2 ⟨y, H2, I2, e2, q2⟩
  refine thn (ho pins s2 σ H2 x y v u _ I2 e1 e2 q2) ?_
  rintro d1 s3 ⟨z, H3, I3, e3, k, rfl, q3⟩
  cases e3
  refine wpAny_truthy_bool ?_
  cases k with
  | false =>
    obtain ⟨k', e', q'⟩ := q3
    cases e'
    exact ite_ff ⟨H3, I3, q'⟩
  | true =>
    refine ite_tt (test_link (thn (hc.run pins s3 σ H3 _ I3 q3) ?_))
    rintro w4 s4 ⟨y4, H4, I4, e4, q4⟩
    refine thn (ho' pins s4 σ H4 y y4 u w4 _ I4 e2 e4 q4) ?_
    rintro d2 s5 ⟨z5, H5, I5, e5, k5, rfl, q5⟩
    cases e5
    refine wpAny_truthy_bool ?_
    cases k5 with
    | false =>
      obtain ⟨k', e', q'⟩ := q5
      cases e'
      exact ite_ff ⟨H5, I5, q'⟩
    | true =>
      refine ite_tt (test_last (thn (hd.run pins s5 σ H5 _ I5 q5) ?_))
      rintro w6 s6 ⟨y6, H6, I6, e6, q6⟩
      refine thn (ho2 pins s6 σ H6 y4 y6 w4 w6 _ I6 e4 e6 q6) ?_
      rintro d7 s7 ⟨z7, H7, I7, e7, k7, rfl, q7⟩
      cases e7
      exact wpAny_truthy_bool ⟨H7, I7, q7⟩
/-! ### spans and papers -/
abbrev Sn := Option (Int × Int)
def SpanAt (K : PySem.W.Frag) (H : Hp) (v : V) : Sn → Prop
  | none => v = .non
  | some q => ∃ p, v = .ref p ∧ SqT K H p [.int q.1, .int q.2]
def SpansAt (K : PySem.W.Frag) (H : Hp) (xs : List V) (S : List Sn) : Prop := xs.length = S.length ∧ ∀ (i : Nat) (s : Sn), S[i]? = some s → ∃ v, xs[i]? = some v ∧ SpanAt K H v s
theorem SpanAt.tups {K : PySem.W.Frag} {H H' : Hp} {v : V} {s : Sn} (h : SpanAt K H v s) (t : Tups H H') : SpanAt K H' v s := by
  cases s with
  | none => exact h
  | some q => obtain ⟨p, e, z⟩ := h; exact ⟨p, e, t.sq z⟩
theorem SpansAt.tups {K : PySem.W.Frag} {H H' : Hp} {xs : List V} {S : List Sn} (h : SpansAt K H xs S) (t : Tups H H') : SpansAt K H' xs S := ⟨h.1, fun i s e => let ⟨v, a, b⟩ := h.2 i s e; ⟨v, a, b.tups t⟩⟩
theorem SpansAt.snoc {K : PySem.W.Frag} {H : Hp} {xs : List V} {S : List Sn} {v : V} {s : Sn} (h : SpansAt K H xs S) (q : SpanAt K H v s) : SpansAt K H (xs ++ [v]) (S ++ [s]) := by
  refine ⟨by rw [List.length_append, List.length_append, h.1]; rfl, fun i t e => ?_⟩
  by_cases c : i < S.length
  · rw [List.getElem?_append_left c] at e
    obtain ⟨r, e1, q1⟩ := h.2 i t e
    exact ⟨r, by rw [List.getElem?_append_left (by rw [h.1]; exact c)]; exact e1, q1⟩
  · rw [List.getElem?_append_right (by omega)] at e
    have z : i - S.length = 0 := by
      have := (List.getElem?_eq_some_iff.mp e).1
      simp at this
      omega
    rw [z] at e
    cases e
    exact ⟨v, by rw [List.getElem?_append_right (by rw [h.1]; omega), h.1, z]; rfl, q⟩
def covB : Sn → Int → Int → Bool
  | none, _, _ => false
  | some q, lo, hi => decide (q.1 ≤ lo) && decide (hi ≤ q.2)
def spanB (lo hi : Int) : Sn → Bool
  | none => true
  | some q => decide (lo ≤ q.1 ∧ q.1 ≤ hi) && decide (q.1 ≤ q.2 ∧ q.2 ≤ hi)
def leadB (S : List Sn) (s : Stp) : Bool := match (S[s.b]?).getD none with
  | none => true
  | some q => covB ((S[s.e]?).getD none) (q.1 + s.g) (q.2 + s.g)
def paperB (m : MD) (lo hi : Int) (S : List Sn) : Bool := S.all (spanB lo hi) && (covB ((S[0]?).getD none) 0 0 && m.ss.all (leadB S))
def NotTup (K : PySem.W.Frag) (H : Hp) (v : V) : Prop := ∃ t, TyX K H v t ∧ PySem.W.kitOne K t (.type "tuple") = some false
/-- what is no span, whatever the bounds -/
def BadSpan (K : PySem.W.Frag) (H : Hp) (v : V) : Prop := v ≠ .non ∧ (NotTup K H v ∨ ∃ p xs, v = .ref p ∧ SqT K H p xs ∧ (xs.length ≠ 2 ∨ ∃ x y, xs = [x, y] ∧ NotInt K H x))
def sp_within (K : PySem.W.Frag) : Sp := fun vs H Q _ => ∃ (p : Addr) (lo hi : Int) (r1 r2 : V), vs = [.ref p, .int lo, .int hi] ∧ SqT K H p [r1, r2] ∧ ((r1 = .non ∨ r2 = .non) ∧ Q (.bl false) H ∨ ∃ a b, r1 = .int a ∧ r2 = .int b ∧ Q (.bl (decide (lo ≤ a ∧ b ≤ hi))) H)
open Classical in
noncomputable def canB (m : MD) (lo hi : Int) : Bool := decide (CanP m lo hi)
def sp_stays (K : PySem.W.Frag) (C : Addr) : Sp := fun vs H Q _ => ∃ (x : Addr) (lo hi : Int) (m : MD), vs = [.ref x, .int lo, .int hi] ∧ MAt K C H x m ∧ m.Ok ∧ -(10 ^ 40) ≤ lo ∧ lo ≤ hi ∧ hi ≤ 10 ^ 40 ∧ ∀ H', Same H H' → Q (.bl (canB m lo hi)) H'
open Classical in
theorem can_t {m : MD} {lo hi : Int} (c : CanP m lo hi) : canB m lo hi = true := decide_eq_true c
open Classical in
theorem can_f {m : MD} {lo hi : Int} (c : ¬ CanP m lo hi) : canB m lo hi = false := decide_eq_false c
theorem can_iff {m : MD} {lo hi : Int} {p : Prop} [Decidable p] (c : CanP m lo hi ↔ p) : canB m lo hi = decide p := by
  by_cases h : p
  · rw [can_t (c.mpr h), decide_eq_true h]
  · rw [can_f fun z => h (c.mp z), decide_eq_false h]
open Classical in
noncomputable def spanOf (m : MD) (k : Nat) : Sn := if Reach m.ss [0] k then some (-(bst1 (-1) m k), bst1 1 m k) else none
def sp_spanat (K : PySem.W.Frag) (C : Addr) : Sp := fun vs H Q _ => ∃ (x : Addr) (n : Nat) (m : MD), vs = [.ref x, .int (n : Nat)] ∧ MAt K C H x m ∧ m.Ok ∧ n < m.n ∧ (∀ k, Reach m.ss [0] k → ¬ Endl 1 m k ∧ ¬ Endl (-1) m k) ∧ ∀ v H', Same H H' → SpanAt K H' v (spanOf m n) → Q v H'
def sp_paper (K : PySem.W.Frag) (C : Addr) : Sp := fun vs H Q _ => ∃ (x : Addr) (lo hi : Int) (m : MD), vs = [.ref x, .int lo, .int hi] ∧ MAt K C H x m ∧ m.Ok ∧ -(10 ^ 40) ≤ lo ∧ lo ≤ hi ∧ hi ≤ 10 ^ 40 ∧ (¬ CanP m lo hi → ∀ H', Same H H' → Q .non H') ∧
  (CanP m lo hi → ∀ p xs H', Same H H' → H p = none → H' p = some (.tup xs) → SpansAt K H' xs ((List.range m.n).map (spanOf m)) → Q (.ref p) H')
def sp_isspan (K : PySem.W.Frag) : Sp := fun vs H Q _ => ∃ (v : V) (lo hi : Int), vs = [v, .int lo, .int hi] ∧ ((BadSpan K H v ∧ Q (.bl false) H) ∨ ∃ a b, SpanAt K H v (some (a, b)) ∧ Q (.bl (spanB lo hi (some (a, b)))) H)
def sp_covers (K : PySem.W.Frag) : Sp := fun vs H Q _ => ∃ (v : V) (lo hi : Int) (s : Sn), vs = [v, .int lo, .int hi] ∧ SpanAt K H v s ∧ Q (.bl (covB s lo hi)) H
def sp_leads (K : PySem.W.Frag) : Sp := fun vs H Q _ => ∃ (p q : Addr) (xs : List V) (S : List Sn) (s : Stp), vs = [.ref p, .ref q] ∧ SqT K H p xs ∧ SpansAt K H xs S ∧ s.b < S.length ∧ s.e < S.length ∧ SqT K H q (stpV s) ∧ Q (.bl (leadB S s)) H
def sp_rpaper (K : PySem.W.Frag) (C : Addr) : Sp := fun vs H Q _ => ∃ (x : Addr) (lo hi : Int) (v : V) (m : MD), vs = [.ref x, .int lo, .int hi, v] ∧ MAt K C H x m ∧ m.Ok ∧ -(10 ^ 40) ≤ lo ∧ lo ≤ hi ∧ hi ≤ 10 ^ 40 ∧
  ((NotTup K H v ∧ Q (.bl false) H) ∨ ∃ p xs, v = .ref p ∧ SqT K H p xs ∧ ((xs.length ≠ m.n ∧ Q (.bl false) H) ∨ (xs.length = m.n ∧ (∀ y ∈ xs, ∀ H', Same H H' → BadSpan K H' y) ∧ ∀ H', Same H H' → Q (.bl false) H') ∨
    ∃ S, S.length = m.n ∧ SpansAt K H xs S ∧ ∀ H', Same H H' → Q (.bl (paperB m lo hi S)) H'))
theorem can_edges {m : MD} {lo hi : Int} (o : m.Ok) {l : List Nat} (ml : ∀ n, n ∈ l ↔ Reach m.ss [0] n) {r1 r2 : V} (h1 : EdgeOf (-1) m l r1) (h2 : EdgeOf 1 m l r2) :
    ((r1 = .non ∨ r2 = .non) ∧ ¬ CanP m lo hi) ∨ ∃ a b, r1 = .int a ∧ r2 = .int b ∧ (CanP m lo hi ↔ lo ≤ a ∧ b ≤ hi) := by
  rcases h1 with ⟨e1, k, hk, z⟩ | ⟨u, e1, n1, ⟨k1, hk1, y1, ey1, hy1⟩, x1⟩
  · exact .inl ⟨.inl e1, fun c => (c k ((ml k).mp hk)).2.1 z⟩
  · rcases h2 with ⟨e2, k, hk, z⟩ | ⟨v, e2, n2, ⟨k2, hk2, y2, ey2, hy2⟩, x2⟩
    · exact .inl ⟨.inr e2, fun c => (c k ((ml k).mp hk)).1 z⟩
    · refine .inr ⟨-1 * u, 1 * v, e1, e2, fun c => ?_, fun c k hk => ?_⟩
      · have a1 := (c k1 ((ml k1).mp hk1)).2.2.2 y1 ey1
        have a2 := (c k2 ((ml k2).mp hk2)).2.2.1 y2 ey2
        omega
      · refine ⟨n2 k ((ml k).mpr hk), n1 k ((ml k).mpr hk), fun y ey => ?_, fun y ey => ?_⟩
        · have := x2 k ((ml k).mpr hk) y ey
          omega
        · have := x1 k ((ml k).mpr hk) y ey
          omega
section
variable {P : Program} {w : World} {K : PySem.W.Frag} {mg : Str → Option Value} {base : Heap}
theorem ok_is_within (T : Txt K mg) : FnOk P w K mg base (L2.CX P w) 1 T.a_is_within T.fd_is_within ["pair", "low", "high"] (sp_within K) := by
  refine T.F_is_within.okX sc_is_within (fun vs H Q E h => ?_) (fun cdv A outer s H vs Q E hr h => ?_)
  · obtain ⟨p, lo, hi, r1, r2, rfl, _⟩ := h
    rfl
  · obtain ⟨p, lo, hi, r1, r2, rfl, hp, k⟩ := h
    refine ⟨_, (PSs.nox (pss_cons (ps_asg (pv 0) (pg_tup rfl (pgs_cons (pg_name (i := 3) sc_is_within.nd rfl (Or.inl rfl)) (pgs_cons (pg_name (i := 4) sc_is_within.nd rfl (Or.inl rfl)) pgs_nil))))
  (pss_one (ps_ret (pe_and (pe_cmp (pc_notN (pv 3))) (pe_and (pe_cmp (pc_notN (pv 4))) (pe_and (pe_cmpR op_le (pv 1) (pv 3) (nomark _)) (pe_one (pe_cmpR op_le (pv 4) (pv 2) (nomark _)))))))))), ?_⟩
    walk_at "begin"
    walk_at "go"
    refine k_gt hp rfl ?_
    walk_at "go"
    rcases k with ⟨hn, k⟩ | ⟨a, b, rfl, rfl, k⟩
    · by_cases c : r1 = .non
      · subst c
        refine k_no (by rfl) ?_
        exact k
      · refine k_yes (by simp [c]) ?_
        have e2 : r2 = .non := by
          rcases hn with h | h
          · exact absurd h c
          · exact h
        subst e2
        walk_at "go"
        refine k_no (by rfl) ?_
        exact k
    · refine k_yes (by rfl) ?_
      walk_at "go"
      refine k_yes (by rfl) ?_
      walk_at "go"
      refine k_ite (fun c => ?_) (fun c => ?_)
      · walk_at "go"
        rw [decide_eq_decide.mpr (show lo ≤ a ∧ b ≤ hi ↔ b ≤ hi from ⟨fun z => z.2, fun z => ⟨c, z⟩⟩)] at k
        exact k
      · rw [decide_eq_false (show ¬ (lo ≤ a ∧ b ≤ hi) from fun z => c z.1)] at k
        exact k
theorem ok_stays (T : Txt K mg) : FnOk P w K mg base (L2.CX P w) 8 T.a_stays T.fd_stays ["machine", "low", "high"] (sp_stays K T.c_Machine) := by
  refine T.F_stays.okX sc_stays (fun vs H Q E h => ?_) (fun cdv A outer s H vs Q E hr h => ?_)
  · obtain ⟨x, lo, hi, m, rfl, _⟩ := h
    rfl
  · obtain ⟨x, lo, hi, m, rfl, hm, o, h1, h2, h3, k⟩ := h
    obtain ⟨dx, t, u, hx, _⟩ := id hm
    refine ⟨_, (PSs.nox (pss_cons (ps_expr (pe_call (ok_check_machine T) (hr.mono (by decide)) (by rfl) T.m_check_machine T.k_check_machine T.b_check_machine .nil passL (pa_cons (pv 0) pa_nil)))
  (pss_cons (ps_expr (pe_call (ok_check_bounds T) (hr.mono (by decide)) (by rfl) T.m_check_bounds T.k_check_bounds T.b_check_bounds .nil passL (pa_cons (pv 1) (pa_cons (pv 2) (pa_cons (pe_glob (by rfl) T.m_MOST_NUMBER T.r_MOST_NUMBER) pa_nil)))))
  (pss_one (ps_ret (pe_call (ok_is_within T) (hr.mono (by decide)) (by rfl) T.m_is_within T.k_is_within T.b_is_within .nil passL (pa_cons (pe_call (ok_bounds T) (hr.mono (by decide)) (by rfl) T.m_bounds T.k_bounds T.b_bounds .nil passL (pa_cons (pv 0) pa_nil)) (pa_cons (pv 1) (pa_cons (pv 2) pa_nil))))))))), ?_⟩
    walk_at "begin"
    walk_at "go"
    refine ⟨x, dx, _, rfl, hx, ?_⟩
    walk_at "go"
    refine ⟨lo, hi, _, rfl, by omega, h2, by omega, ?_⟩
    walk_at "go"
    refine ⟨x, m, rfl, hm, o, fun l r1 r2 q H1 ml z1 hq eq e1 e2 => ?_⟩
    walk_at "go"
    have kk := k H1 z1
    refine ⟨q, lo, hi, r1, r2, rfl, SqT.of eq, ?_⟩
    rcases can_edges (lo := lo) (hi := hi) o ml e1 e2 with ⟨c, nc⟩ | ⟨a, b, rfl, rfl, c⟩
    · rw [can_f nc] at kk
      exact .inl ⟨c, kk⟩
    · rw [can_iff c] at kk
      exact .inr ⟨a, b, rfl, rfl, kk⟩
theorem ok_span_at (T : Txt K mg) : FnOk P w K mg base (L2.CX P w) 7 T.a_span_at T.fd_span_at ["machine", "stand"] (sp_spanat K T.c_Machine) := by
  refine T.F_span_at.okX sc_span_at (fun vs H Q E h => ?_) (fun cdv A outer s H vs Q E hr h => ?_)
  · obtain ⟨x, n, m, rfl, _⟩ := h
    rfl
  · obtain ⟨x, n, m, rfl, hm, o, hn, ne, k⟩ := h
    refine ⟨_, (PSs.nox (pss_cons (ps_set (i := 2) sc_span_at.nd rfl (Or.inl rfl) (pe_call (ok_least_at T) (hr.mono (by decide)) (by rfl) T.m_least_at T.k_least_at T.b_least_at .nil passL (pa_cons (pv 0) (pa_cons (pv 1) pa_nil))))
  (pss_one (ps_ret (pe_ifExp (pt_cmp (pc_isN (pv 2))) pe_non (pe_tup (pa_cons (pv 2) (pa_cons (pe_call (ok_greatest_at T) (hr.mono (by decide)) (by rfl) T.m_greatest_at T.k_greatest_at T.b_greatest_at .nil passL (pa_cons (pv 0) (pa_cons (pv 1) pa_nil))) pa_nil)))))))), ?_⟩
    walk_at "begin"
    walk_at "go"
    refine ⟨x, n, m, rfl, hm, o, hn, fun H1 z1 => ?_⟩
    walk_at "go"
    by_cases c : Reach m.ss [0] n
    · obtain ⟨n1, n2⟩ := ne n c
      obtain ⟨y1, e1⟩ := reach_bst o (.inl rfl) c n1
      obtain ⟨y2, e2⟩ := reach_bst o (.inr rfl) c n2
      have t1 : tallyAt 1 m n = .int y1.1 := by unfold tallyAt; rw [if_neg n1, e1]; show V.int (1 * y1.1) = _; rw [Int.one_mul]
      have t2 : tallyAt (-1) m n = .int (-y2.1) := by unfold tallyAt; rw [if_neg n2, e2]; show V.int (-1 * y2.1) = _; congr 1; omega
      have so : spanOf m n = some (-y2.1, y1.1) := by
        unfold spanOf bst1
        rw [if_pos c, e1, e2]
        rfl
      rw [t2]
      refine k_no (by rfl) ?_
      walk_at "go"
      refine ⟨x, n, m, rfl, hm.same z1, o, hn, fun H2 z2 => ?_⟩
      rw [t1]
      walk_at "go"
      refine ⟨by show 2 ≤ sizeLine; decide, fun p hp => ?_⟩
      refine k (.ref p) _ ((z1.trans z2).trans (Same.new hp)) ?_
      rw [so]
      exact ⟨p, rfl, SqT.of upd_same⟩
    · have so : spanOf m n = none := by unfold spanOf; rw [if_neg c]
      have t2 : tallyAt (-1) m n = .non := by
        unfold tallyAt
        rw [if_neg fun z => c (endl_reach o (.inr rfl) n z)]
        cases e : bst (-1) m.ss m.n n with
        | none => rfl
        | some y =>
          obtain ⟨j, hj, ej⟩ := bst_of _ _ _ e
          exact absurd (run_reach _ _ _ _ rfl (lvl_run o (.inr rfl) j _ _ ej)) c
      rw [t2]
      refine k_yes (by rfl) ?_
      walk_at "go"
      refine k .non _ z1 ?_
      rw [so]
      exact rfl
theorem ok_paper (T : Txt K mg) : FnOk P w K mg base (L2.CX P w) 9 T.a_paper T.fd_paper ["machine", "low", "high"] (sp_paper K T.c_Machine) := by
  refine T.F_paper.okX sc_paper (fun vs H Q E h => ?_) (fun cdv A outer s H vs Q E hr h => ?_)
  · obtain ⟨x, lo, hi, m, rfl, _⟩ := h
    rfl
  · obtain ⟨x, lo, hi, m, rfl, hm, o, h1, h2, h3, k0, k1⟩ := h
    obtain ⟨dx, t, u, hx, _⟩ := id hm
    have n8 := o.n8
    refine ⟨_, (PSs.nox (pss_cons (ps_if (pt_not (pt_val (pe_call (ok_stays T) (hr.mono (by decide)) (by rfl) T.m_stays T.k_stays T.b_stays .nil passL (pa_cons (pv 0) (pa_cons (pv 1) (pa_cons (pv 2) pa_nil))))))
  (pss_one (ps_ret pe_non))
  pss_nil)
  (pss_one (ps_ret (pe_callTy call_tuple_of (by rfl) T.z_tuple PySem.Pv.boot_tuple (pa_cons (pe_lc (own := [("stand", 3)]) (g := (gName 3)) (tt := tYes) rfl sc_paper.nd (pi_range1 (by rfl) T.z_range (pa_cons (pe_prop (pv 0) T.cl_Machine T.p_stands (ok_Machine_stands T) (hr.mono (by decide)) T.b_Machine_stands .nil passL rfl) pa_nil)) (blkOk_by (own := [("stand", 3)]) (N := ["machine", "low", "high", "stand"]) (sc := defScope s_paper) (by decide +kernel)) (fun _ _ _ _ _ => (pg_name (i := 3) sc_paper.nd rfl (Or.inl rfl))) (fun _ _ _ _ _ => pts_nil) (fun _ _ _ _ _ => (pe_call (ok_span_at T) (hr.mono (by decide)) (by rfl) T.m_span_at T.k_span_at T.b_span_at .nil passL (pa_cons (pv 0) (pa_cons (pv 3) pa_nil))))) pa_nil)))))), ?_⟩
    walk_at "begin"
    walk_at "go"
    refine ⟨x, lo, hi, m, rfl, hm, o, h1, h2, h3, fun H1 z1 => ?_⟩
    walk_at "go"
    by_cases c : CanP m lo hi
    · rw [can_t c]
      refine iteF ?_
      walk_at "go"
      refine ⟨x, dx, _, rfl, z1 _ _ hx, x, dx, _, .int (m.n : Nat), rfl, z1 _ _ hx, rfl, ?_⟩
      walk_at "go"
      refine k_rg (by omega) (by omega) ?_
      intro D hD
      refine lc_range (n := (((m.n : Nat) : Int)).toNat) (fun i H' => Same H1 H' ∧ ∃ us, H' D = some (.lst us) ∧ SpansAt K H' us ((List.range i).map (spanOf m))) ⟨Same.new hD, [], upd_same, rfl, fun i s e => by simp at e⟩ ?_ ?_
      · rintro i H2 hi ⟨z2, us, eD, sp⟩
        have im : i < m.n := hi
        have i0 : (0 + (i : Nat) : Int) = ((i : Nat) : Int) := by omega
        rw [i0]
        walk_at "go"
        refine ⟨rfl, ?_⟩
        walk_at "go"
        refine iteT ?_
        walk_at "go"
        refine ⟨x, i, m, rfl, (hm.same z1).same z2, o, im, fun k hk => ⟨(c k hk).1, (c k hk).2.1⟩, fun v H3 z3 hv => ?_⟩
        have lu : us.length = i := by rw [sp.1, List.length_map, List.length_range]
        refine ⟨us, z3 _ _ eD, Nat.lt_trans (show us.length < 100 by omega) (by decide), Same.mut (z2.trans z3) hD, _, upd_same, ?_⟩
        rw [List.range_succ, List.map_append]
        have tD := Tups.lst (o := .lst (us ++ [v])) (z3 _ _ eD)
        exact ((sp.tups (same_tups z3)).snoc hv).tups tD
      · rintro H2 ⟨z2, us, eD, sp⟩
        walk_at "go"
        refine ⟨D, us, rfl, .inl ⟨SqL.of eD, fun q hq => ?_⟩⟩
        have zz := (z1.trans z2).trans (Same.new (o := .tup us) hq)
        exact k1 c q us _ zz (free_of (z1.trans z2) hq) upd_same (sp.tups (Tups.new hq))
    · rw [can_f c]
      refine iteT ?_
      walk_at "go"
      exact k0 c _ z1
theorem ok_is_span (T : Txt K mg) : FnOk P w K mg base (L2.CX P w) 3 T.a_is_span T.fd_is_span ["value", "low", "high"] (sp_isspan K) := by
  refine T.F_is_span.okX sc_is_span (fun vs H Q E h => ?_) (fun cdv A outer s H vs Q E hr h => ?_)
  · obtain ⟨v, lo, hi, rfl, _⟩ := h
    rfl
  · obtain ⟨v, lo, hi, rfl, k⟩ := h
    refine ⟨_, (PSs.nox (pss_cons (ps_if (PW.pt (pw_or (pt_not (pt_val (pe_callB call_isi (by rfl) T.z_isinstance (by decide +kernel) (pa_cons (pv 0) (pa_cons (pe_bltn (v := .ty "tuple") (by rfl) T.z_tuple (by decide +kernel) rfl) pa_nil))))) (pw_or1 (pt_cmpR op_ne (pe_callB call_len_seq (by rfl) T.z_len PySem.boot_len (pa_cons (pv 0) pa_nil)) pe_int (nomark _)))))
  (pss_one (ps_ret pe_bl))
  pss_nil)
  (pss_cons (ps_asg (pv 0) (pg_tup rfl (pgs_cons (pg_name (i := 3) sc_is_span.nd rfl (Or.inl rfl)) (pgs_cons (pg_name (i := 4) sc_is_span.nd rfl (Or.inl rfl)) pgs_nil))))
  (pss_one (ps_ret (pe_and (pe_call (ok_is_integer_between T) (hr.mono (by decide)) (by rfl) T.m_is_integer_between T.k_is_integer_between T.b_is_integer_between .nil passL (pa_cons (pv 3) (pa_cons (pv 1) (pa_cons (pv 2) pa_nil)))) (pe_one (pe_call (ok_is_integer_between T) (hr.mono (by decide)) (by rfl) T.m_is_integer_between T.k_is_integer_between T.b_is_integer_between .nil passL (pa_cons (pv 4) (pa_cons (pv 3) (pa_cons (pv 2) pa_nil))))))))))), ?_⟩
    walk_at "begin"
    walk_at "go"
    rcases k with ⟨⟨_, ⟨tv, e1, e2⟩ | ⟨p, xs, rfl, hp, hx⟩⟩, k⟩ | ⟨a, b, ⟨p, rfl, hp⟩, k⟩
    · refine k_isi (.ty _) e1 e2 ?_
      walk_at "go"
      refine iteT ?_
      walk_at "go"
      exact k
    · refine k_isi (.ty _) (ty_tup hp) (kit_ty (b := "tuple") (r := true) (by decide +kernel)) ?_
      walk_at "go"
      refine iteF ?_
      walk_at "go"
      refine k_len (.inr hp) ?_
      walk_at "go"
      rcases hx with hx | ⟨y, z, rfl, hn⟩
      · have hd : decide (V.int (xs.length : Nat) = V.int 2) = false := decide_eq_false fun z => by injection z with z; omega
        rw [hd]
        refine iteT ?_
        walk_at "go"
        exact k
      · refine k_no (by rfl) ?_
        walk_at "go"
        refine k_gt hp rfl ?_
        walk_at "go"
        refine ⟨_, _, _, rfl, .inr ⟨hn, ?_⟩⟩
        walk_at "go"
        refine iteF ?_
        exact k
    · refine k_isi (.ty _) (ty_tup hp) (kit_ty (b := "tuple") (r := true) (by decide +kernel)) ?_
      walk_at "go"
      refine iteF ?_
      walk_at "go"
      refine k_len (.inr hp) ?_
      walk_at "go"
      refine k_no (by rfl) ?_
      walk_at "go"
      refine k_gt hp rfl ?_
      walk_at "go"
      refine ⟨_, _, _, rfl, .inl ⟨a, rfl, ?_⟩⟩
      unfold spanB at k
      dsimp only at k
      by_cases c : lo ≤ a ∧ a ≤ hi
      · rw [decide_eq_true c] at k ⊢
        walk_at "go"
        refine iteT ?_
        walk_at "go"
        refine ⟨_, _, _, rfl, .inl ⟨b, rfl, ?_⟩⟩
        exact k
      · rw [decide_eq_false c] at k ⊢
        walk_at "go"
        refine iteF ?_
        exact k
theorem ok_covers (T : Txt K mg) : FnOk P w K mg base (L2.CX P w) 1 T.a_covers T.fd_covers ["span", "least", "most"] (sp_covers K) := by
  refine T.F_covers.okX sc_covers (fun vs H Q E h => ?_) (fun cdv A outer s H vs Q E hr h => ?_)
  · obtain ⟨v, lo, hi, s, rfl, _⟩ := h
    rfl
  · obtain ⟨v, lo, hi, s, rfl, hv, k⟩ := h
    refine ⟨_, (PSs.nox (pss_one (ps_ret (pe_and (pe_cmp (pc_notN (pv 0))) (pe_and (pe_cmpR op_le (pe_ix ix_tup (pv 0) pe_int (fun _ _ => rfl)) (pv 1) (nomark _)) (pe_one (pe_cmpR op_le (pv 2) (pe_ix ix_tup (pv 0) pe_int (fun _ _ => rfl)) (nomark _)))))))), ?_⟩
    walk_at "begin"
    walk_at "go"
    cases s with
    | none =>
      have e : v = .non := hv
      subst e
      refine k_no (by rfl) ?_
      exact k
    | some q =>
      obtain ⟨p, rfl, hp⟩ := hv
      refine k_yes (by rfl) ?_
      walk_at "go"
      refine k_ixT hp (v := .int q.1) rfl ?_
      walk_at "go"
      unfold covB at k
      dsimp only at k
      refine k_ite (fun c => ?_) (fun c => ?_)
      · rw [decide_eq_true c] at k
        walk_at "go"
        refine k_ixT hp (v := .int q.2) rfl ?_
        walk_at "go"
        exact k
      · rw [decide_eq_false c] at k
        exact k
theorem ok_leads_on (T : Txt K mg) : FnOk P w K mg base (L2.CX P w) 2 T.a_leads_on T.fd_leads_on ["spans", "step"] (sp_leads K) := by
  refine T.F_leads_on.okX sc_leads_on (fun vs H Q E h => ?_) (fun cdv A outer s H vs Q E hr h => ?_)
  · obtain ⟨p, q, xs, S, s, rfl, _⟩ := h
    rfl
  · obtain ⟨p, q, xs, S, s0, rfl, hp, hS, hb, he, hq, k⟩ := h
    refine ⟨_, (PSs.nox (pss_cons (ps_asg (pv 1) (pg_tup rfl (pgs_cons (pg_name (i := 2) sc_leads_on.nd rfl (Or.inl rfl)) (pgs_cons (pg_name (i := 3) sc_leads_on.nd rfl (Or.inl rfl)) (pgs_cons (pg_name (i := 4) sc_leads_on.nd rfl (Or.inl rfl)) (pgs_cons (pg_name (i := 5) sc_leads_on.nd rfl (Or.inl rfl)) pgs_nil))))))
  (pss_cons (ps_if (pt_cmp (pc_isN (pe_ix ix_tup (pv 0) (pv 2) (fun _ _ => rfl))))
  (pss_one (ps_ret pe_bl))
  pss_nil)
  (pss_cons (ps_asg (pe_ix ix_tup (pv 0) (pv 2) (fun _ _ => rfl)) (pg_tup rfl (pgs_cons (pg_name (i := 6) sc_leads_on.nd rfl (Or.inl rfl)) (pgs_cons (pg_name (i := 7) sc_leads_on.nd rfl (Or.inl rfl)) pgs_nil))))
  (pss_one (ps_ret (pe_call (ok_covers T) (hr.mono (by decide)) (by rfl) T.m_covers T.k_covers T.b_covers .nil passL (pa_cons (pe_ix ix_tup (pv 0) (pv 4) (fun _ _ => rfl)) (pa_cons (pe_op op_add (pv 6) (pv 5)) (pa_cons (pe_op op_add (pv 7) (pv 5)) pa_nil)))))))))), ?_⟩
    walk_at "begin"
    walk_at "go"
    refine k_gt hq rfl ?_
    unfold stpV
    walk_at "go"
    have ib : S[s0.b]? = some (S[s0.b]'hb) := List.getElem?_eq_getElem hb
    have ie : S[s0.e]? = some (S[s0.e]'he) := List.getElem?_eq_getElem he
    unfold leadB at k
    rw [ib, ie] at k
    generalize S[s0.b]'hb = sb at ib k
    generalize S[s0.e]'he = se at ie k
    obtain ⟨vb, ev, hvb⟩ := hS.2 _ _ ib
    obtain ⟨ve, ev2, hve⟩ := hS.2 _ _ ie
    refine k_ixT hp (v := vb) (atI_nat ev) ?_
    walk_at "go"
    cases sb with
    | none =>
      have e : vb = .non := hvb
      subst e
      refine k_yes (by rfl) ?_
      walk_at "go"
      exact k
    | some u =>
      obtain ⟨pb, rfl, hpb⟩ := hvb
      refine k_no (by rfl) ?_
      walk_at "go"
      refine k_ixT hp (v := .ref pb) (atI_nat ev) ?_
      refine k_gt hpb rfl ?_
      walk_at "go"
      refine k_ixT hp (v := ve) (atI_nat ev2) ?_
      walk_at "go"
      exact ⟨ve, _, _, se, rfl, hve, k⟩
theorem ok_right_paper (T : Txt K mg) : FnOk P w K mg base (L2.CX P w) 8 T.a_right_paper T.fd_right_paper ["machine", "low", "high", "value"] (sp_rpaper K T.c_Machine) := by
  refine T.F_right_paper.okX sc_right_paper (fun vs H Q E h => ?_) (fun cdv A outer s H vs Q E hr h => ?_)
  · obtain ⟨x, lo, hi, v, m, rfl, _⟩ := h
    rfl
  · obtain ⟨x, lo, hi, v, m, rfl, hm, o, h1, h2, h3, k⟩ := h
    obtain ⟨dx, t, u, hx, hpm⟩ := id hm
    have n8 := o.n8
    refine ⟨_, (PSs.nox (pss_cons (ps_expr (pe_call (ok_check_machine T) (hr.mono (by decide)) (by rfl) T.m_check_machine T.k_check_machine T.b_check_machine .nil passL (pa_cons (pv 0) pa_nil)))
  (pss_cons (ps_expr (pe_call (ok_check_bounds T) (hr.mono (by decide)) (by rfl) T.m_check_bounds T.k_check_bounds T.b_check_bounds .nil passL (pa_cons (pv 1) (pa_cons (pv 2) (pa_cons (pe_glob (by rfl) T.m_MOST_NUMBER T.r_MOST_NUMBER) pa_nil)))))
  (pss_cons (ps_if (PW.pt (pw_or (pt_not (pt_val (pe_callB call_isi (by rfl) T.z_isinstance (by decide +kernel) (pa_cons (pv 3) (pa_cons (pe_bltn (v := .ty "tuple") (by rfl) T.z_tuple (by decide +kernel) rfl) pa_nil))))) (pw_or1 (pt_cmpR op_ne (pe_callB call_len_seq (by rfl) T.z_len PySem.boot_len (pa_cons (pv 3) pa_nil)) (pe_prop (pv 0) T.cl_Machine T.p_stands (ok_Machine_stands T) (hr.mono (by decide)) T.b_Machine_stands .nil passL rfl) (nomark _)))))
  (pss_one (ps_ret pe_bl))
  pss_nil)
  (pss_cons (ps_if (pt_not (pt_truth (pe_callB (cr_all rfl) (by rfl) T.z_all (by decide +kernel) (pa_cons (pe_lc (own := [("span", 4)]) (g := (gName 4)) (tt := tYes) rfl sc_right_paper.nd (pi_tup (pv 3)) (blkOk_by (own := [("span", 4)]) (N := ["machine", "low", "high", "value", "span", "step"]) (sc := defScope s_right_paper) (by decide +kernel)) (fun _ _ _ _ _ => (pg_name (i := 4) sc_right_paper.nd rfl (Or.inl rfl))) (fun _ _ _ _ _ => pts_nil) (fun _ _ _ _ _ => (pe_or (pe_cmp (pc_isN (pv 4))) (pe_one (pe_call (ok_is_span T) (hr.mono (by decide)) (by rfl) T.m_is_span T.k_is_span T.b_is_span .nil passL (pa_cons (pv 4) (pa_cons (pv 1) (pa_cons (pv 2) pa_nil)))))))) pa_nil)) (fun _ => rfl)))
  (pss_one (ps_ret pe_bl))
  pss_nil)
  (pss_one (ps_ret (pe_and (pe_call (ok_covers T) (hr.mono (by decide)) (by rfl) T.m_covers T.k_covers T.b_covers .nil passL (pa_cons (pe_ix ix_tup (pv 3) pe_int (fun _ _ => rfl)) (pa_cons pe_int (pa_cons pe_int pa_nil)))) (pe_one (pe_callB (cr_all rfl) (by rfl) T.z_all (by decide +kernel) (pa_cons (pe_lc (own := [("step", 5)]) (g := (gName 5)) (tt := tYes) rfl sc_right_paper.nd (pi_tup (pe_prop (pv 0) T.cl_Machine T.p_steps (ok_Machine_steps T) (hr.mono (by decide)) T.b_Machine_steps .nil passL rfl)) (blkOk_by (own := [("step", 5)]) (N := ["machine", "low", "high", "value", "span", "step"]) (sc := defScope s_right_paper) (by decide +kernel)) (fun _ _ _ _ _ => (pg_name (i := 5) sc_right_paper.nd rfl (Or.inl rfl))) (fun _ _ _ _ _ => pts_nil) (fun _ _ _ _ _ => (pe_call (ok_leads_on T) (hr.mono (by decide)) (by rfl) T.m_leads_on T.k_leads_on T.b_leads_on .nil passL (pa_cons (pv 3) (pa_cons (pv 5) pa_nil))))) pa_nil))))))))))), ?_⟩
    walk_at "begin"
    walk_at "go"
    refine ⟨x, dx, _, rfl, hx, ?_⟩
    walk_at "go"
    refine ⟨lo, hi, _, rfl, by omega, h2, by omega, ?_⟩
    walk_at "go"
    rcases k with ⟨⟨tv, hv1, hv2⟩, k⟩ | ⟨p, xs, rfl, hp, k⟩
    · refine k_isi (.ty _) hv1 hv2 ?_
      walk_at "go"
      refine iteT ?_
      walk_at "go"
      exact k
    · refine k_isi (.ty _) (ty_tup hp) (kit_ty (b := "tuple") (r := true) (by decide +kernel)) ?_
      walk_at "go"
      refine iteF ?_
      walk_at "go"
      refine k_len (.inr hp) ?_
      walk_at "go"
      refine ⟨x, dx, _, rfl, hx, x, dx, _, .int (m.n : Nat), rfl, hx, rfl, ?_⟩
      walk_at "go"
      rcases k with ⟨hl, k⟩ | ⟨hl, hb, k⟩ | ⟨S, hl, hS, k⟩
      · have hd : decide (V.int (xs.length : Nat) = V.int (m.n : Nat)) = false := decide_eq_false fun z => by injection z with z; omega
        rw [hd]
        refine iteT ?_
        walk_at "go"
        exact k
      · have hd : decide (V.int (xs.length : Nat) = V.int (m.n : Nat)) = true := decide_eq_true (by rw [hl])
        rw [hd]
        refine iteF ?_
        walk_at "go"
        refine ⟨p, rfl, ⟨_, hp⟩, fun D hD => ?_⟩
        refine lc_tup (xs := xs) (fun i H' => Same H H' ∧ ∃ bs : List Bool, H' D = some (.lst (bs.map V.bl)) ∧ bs.length = i ∧ ∀ b ∈ bs, b = false) ⟨Same.new hD, [], upd_same, rfl, fun b h => absurd h (by simp)⟩ (fun _ H' _ ⟨z, _⟩ => (same_tups z).sq hp) ?_ ?_
        · rintro i y H2 hy ⟨z2, bs, eD, lb, ab⟩
          have il : i < xs.length := (List.getElem?_eq_some_iff.mp hy).1
          have by_ := hb y (List.mem_of_getElem? hy) _ z2
          walk_at "go"
          refine ⟨rfl, ?_⟩
          walk_at "go"
          refine iteT ?_
          walk_at "go"
          have hd2 : decide (y = .non) = false := decide_eq_false by_.1
          rw [hd2]
          refine iteF ?_
          walk_at "go"
          refine ⟨y, lo, hi, rfl, .inl ⟨by_, ?_⟩⟩
          refine ⟨_, eD, ?_, Same.mut z2 hD, bs ++ [false], by rw [upd_same, List.map_append]; rfl, by rw [List.length_append]; show bs.length + 1 = i + 1; omega, fun b h => ?_⟩
          · rw [List.length_map]
            exact Nat.lt_trans (show bs.length < 100 by omega) (by decide)
          · rcases List.mem_append.mp h with h | h
            · exact ab b h
            · exact List.mem_singleton.mp h
        · rintro H2 ⟨z2, bs, eD, lb, ab⟩
          walk_at "go"
          refine ⟨D, bs, rfl, SqL.of eD, ?_⟩
          have all0 : bs.all id = false := by
            cases bs with
            | nil => have := o.n1; simp at lb; omega
            | cons b r => rw [List.all_cons, show id b = false from ab b List.mem_cons_self, Bool.false_and]
          rw [all0]
          refine ⟨false, rfl, ?_⟩
          refine iteT ?_
          walk_at "go"
          exact k _ z2
      · have hd : decide (V.int (xs.length : Nat) = V.int (m.n : Nat)) = true := decide_eq_true (by rw [hS.1, hl])
        rw [hd]
        refine iteF ?_
        walk_at "go"
        refine ⟨p, rfl, ⟨_, hp⟩, fun D hD => ?_⟩
        refine lc_tup (xs := xs) (fun i H' => Same H H' ∧ H' D = some (.lst (((S.take i).map (spanB lo hi)).map V.bl))) ⟨Same.new hD, upd_same⟩ (fun _ H' _ ⟨z, _⟩ => (same_tups z).sq hp) ?_ ?_
        · rintro i y H2 hy ⟨z2, eD⟩
          have il : i < S.length := by rw [← hS.1]; exact (List.getElem?_eq_some_iff.mp hy).1
          have es : S[i]? = some (S[i]'il) := List.getElem?_eq_getElem il
          have tk : ((S.take (i + 1)).map (spanB lo hi)).map V.bl = ((S.take i).map (spanB lo hi)).map V.bl ++ [V.bl (spanB lo hi (S[i]'il))] := by rw [List.take_add_one, es, List.map_append, List.map_append]; rfl
          rw [tk]
          generalize S[i]'il = s0 at es
          obtain ⟨v2, ev, hv⟩ := (hS.tups (same_tups z2)).2 _ _ es
          rw [hy] at ev
          cases ev
          have lt : (((S.take i).map (spanB lo hi)).map V.bl).length < sizeLine := by
            rw [List.length_map, List.length_map, List.length_take]
            exact Nat.lt_of_le_of_lt (show _ ≤ 8 by omega) (by decide)
          walk_at "go"
          refine ⟨rfl, ?_⟩
          walk_at "go"
          refine iteT ?_
          walk_at "go"
          cases s0 with
          | none =>
            have e : y = .non := hv
            subst e
            refine k_yes (by rfl) ?_
            exact ⟨_, eD, lt, Same.mut z2 hD, upd_same⟩
          | some q =>
            obtain ⟨pq, rfl, hpq⟩ := hv
            refine k_no (by rfl) ?_
            walk_at "go"
            refine ⟨_, lo, hi, rfl, .inr ⟨q.1, q.2, ⟨pq, rfl, hpq⟩, ?_⟩⟩
            exact ⟨_, eD, lt, Same.mut z2 hD, upd_same⟩
        · rintro H2 ⟨z2, eD⟩
          rw [hS.1, List.take_length] at eD
          walk_at "go"
          refine ⟨D, _, rfl, SqL.of eD, ?_⟩
          have ea : (S.map (spanB lo hi)).all id = S.all (spanB lo hi) := by rw [List.all_map]; rfl
          rw [ea]
          refine ⟨_, rfl, ?_⟩
          cases e1 : S.all (spanB lo hi) with
          | false =>
            refine iteT ?_
            walk_at "go"
            have kk := k _ z2
            unfold paperB at kk
            rw [e1, Bool.false_and] at kk
            exact kk
          | true =>
            refine iteF ?_
            walk_at "go"
            have i0 : S[0]? = some (S[0]'(by have := o.n1; omega)) := List.getElem?_eq_getElem _
            obtain ⟨v0, ev0, hv0⟩ := (hS.tups (same_tups z2)).2 _ _ i0
            refine k_ixT ((same_tups z2).sq hp) (v := v0) (atI_nat (j := 0) ev0) ?_
            walk_at "go"
            refine ⟨v0, 0, 0, _, rfl, hv0, ?_⟩
            have pb : paperB m lo hi S = (covB (S[0]'(by have := o.n1; omega)) 0 0 && m.ss.all (leadB S)) := by
              unfold paperB
              rw [e1, i0, Bool.true_and]
              rfl
            cases e2 : covB (S[0]'(by have := o.n1; omega)) 0 0 with
            | false =>
              refine ⟨_, rfl, iteF ?_⟩
              have kk := k _ z2
              rw [pb, e2, Bool.false_and] at kk
              exact kk
            | true =>
              refine ⟨_, rfl, iteT ?_⟩
              walk_at "go"
              refine ⟨x, dx, _, rfl, z2 _ _ hx, x, dx, _, .ref t, rfl, z2 _ _ hx, rfl, ?_⟩
              obtain ⟨⟨us, ht, hs⟩, _⟩ := hpm
              refine ⟨t, rfl, ⟨us, (same_tups z2).sq ht⟩, fun E hE => ?_⟩
              refine lc_tup (xs := us) (fun i H' => Same H2 H' ∧ H' E = some (.lst (((m.ss.take i).map (leadB S)).map V.bl))) ⟨Same.new hE, upd_same⟩ (fun _ H' _ ⟨z, _⟩ => (same_tups (z2.trans z)).sq ht) ?_ ?_
              · rintro i y H3 hy ⟨z3, eE⟩
                have z23 := z2.trans z3
                have il : i < m.ss.length := by rw [← hs.1]; exact (List.getElem?_eq_some_iff.mp hy).1
                have es : m.ss[i]? = some (m.ss[i]'il) := List.getElem?_eq_getElem il
                have tk : ((m.ss.take (i + 1)).map (leadB S)).map V.bl = ((m.ss.take i).map (leadB S)).map V.bl ++ [V.bl (leadB S (m.ss[i]'il))] := by rw [List.take_add_one, es, List.map_append, List.map_append]; rfl
                rw [tk]
                have ok1 := o.ok _ (List.getElem_mem il)
                obtain ⟨pq, eq1, hq1⟩ := hs.2 i _ es
                rw [hy] at eq1
                cases eq1
                generalize m.ss[i]'il = s0 at hq1 ok1
                have l32 := o.len
                have lt : (((m.ss.take i).map (leadB S)).map V.bl).length < sizeLine := by
                  rw [List.length_map, List.length_map, List.length_take]
                  exact Nat.lt_of_le_of_lt (show _ ≤ 32 by omega) (by decide)
                walk_at "go"
                refine ⟨rfl, ?_⟩
                walk_at "go"
                refine iteT ?_
                walk_at "go"
                refine ⟨p, pq, xs, S, s0, rfl, (same_tups z23).sq hp, hS.tups (same_tups z23), by rw [hl]; exact ok1.b, by rw [hl]; exact ok1.e, (same_tups z23).sq hq1, ?_⟩
                exact ⟨_, eE, lt, Same.mut z3 hE, upd_same⟩
              · rintro H3 ⟨z3, eE⟩
                rw [hs.1, List.take_length] at eE
                walk_at "go"
                refine ⟨E, _, rfl, SqL.of eE, ?_⟩
                have ea2 : (m.ss.map (leadB S)).all id = m.ss.all (leadB S) := by rw [List.all_map]; rfl
                rw [ea2]
                have kk := k _ (z2.trans z3)
                rw [pb, e2, Bool.true_and] at kk
                exact kk
end
/-! ### d.setdefault -/
theorem k_dsetd {td ty tx : TE} {σ : L2.St} {H : Hp} {Q : VK} (h : td σ H fun x H1 => ∃ a, x = .ref a ∧ IsD H1 a ∧ ty σ H1 fun y H2 => tx σ H2 fun z H3 => ∃ (kvs : List (Key × V)) (k : Key), H3 a = some (.dK kvs) ∧ y = kV k ∧ kvs.length < sizeLine ∧
  (∀ v, valV kvs k = some v → Q v H3) ∧ (valV kvs k = none → Q z (upd H3 a (.dK (putK kvs k z))))) : tDSetd td ty tx σ H Q := h
/-! ### for k, v in d.get(..).items(): the dict is locked when it is there, and opened behind the loop -/
def tLk (N : Addr → Prop) (te : TE) : TE := fun σ H Q => te σ H fun x H1 => ∃ (d : Addr) (kvs : List (Key × V)), x = .ref d ∧ H1 d = some (.dK kvs) ∧ ∀ od, N d → Q x (upd H1 d (.frz od (.dK kvs)))
def openD (N : Addr → Prop) (D : Ends) : Ends :=
  ⟨fun σ' H' => ∃ d od u, N d ∧ H' d = some (.frz od u) ∧ D.nx σ' (upd H' d u), fun v H' => ∃ d od u, N d ∧ H' d = some (.frz od u) ∧ D.rt v (upd H' d u), fun σ' H' => ∃ d od u, N d ∧ H' d = some (.frz od u) ∧ D.bk σ' (upd H' d u), fun σ' H' => ∃ d od u, N d ∧ H' d = some (.frz od u) ∧ D.ct σ' (upd H' d u)⟩
def tOpen (N : Addr → Prop) (t : TS) : TS := fun D σ H => t (openD N D) σ H
def NoFz (H0 : Hp) : Addr → Prop := fun d => ∀ o' u', H0 d ≠ some (.frz o' u')
section
variable {X : L2.Cx}
theorem pe_lk {e : Expr} {te : TE} (h : PE X e te) : PE X e (tLk (NoFz X.H_0) te) := by
  constructor
  intro pins s σ H Q I q
  refine thn (h.run pins s σ H _ I q) ?_
  rintro v s1 ⟨x, H1, I1, r, d, kvs, rfl, hd, k⟩
  obtain ⟨od, I2⟩ := I1.lock hd trivial
  exact ⟨_, _, I2, r, k od (I1.nofrz hd trivial)⟩
theorem ps_open {st : Stmt} {t : TS} (h : PS X st t) : PS X st (tOpen (NoFz X.H_0) t) := by
  constructor
  intro pins s σ H D I q
  refine thn (h.run pins s σ H _ I q) ?_
  intro f s1 z
  cases f with
  | next => obtain ⟨σ', H', I2, d, od, u, n, e, z⟩ := z; exact ⟨σ', _, Inv.unlock I2 e n, z⟩
  | brk => obtain ⟨σ', H', I2, d, od, u, n, e, z⟩ := z; exact ⟨σ', _, Inv.unlock I2 e n, z⟩
  | cont => obtain ⟨σ', H', I2, d, od, u, n, e, z⟩ := z; exact ⟨σ', _, Inv.unlock I2 e n, z⟩
  | ret v => obtain ⟨x, σ', H', I2, r, d, od, u, n, e, z⟩ := z; exact ⟨x, σ', _, Inv.unlock I2 e n, r, z⟩
end
theorem k_open {N : Addr → Prop} {t : TS} {D : Ends} {σ : L2.St} {H : Hp} (h : t (openD N D) σ H) : tOpen N t D σ H := h
theorem k_items {te : TE} {σ : L2.St} {H : Hp} {R : It → Hp → Prop} (h : te σ H fun x H1 => ∃ d o kvs, x = .ref d ∧ H1 d = some (.frz o (.dK kvs)) ∧ R (Iti d o kvs) H1) : iItems te σ H R := h
theorem k_lk {N : Addr → Prop} {te : TE} {σ : L2.St} {H : Hp} {Q : VK} (h : te σ H fun x H1 => ∃ (d : Addr) (kvs : List (Key × V)), x = .ref d ∧ H1 d = some (.dK kvs) ∧ ∀ od, N d → Q x (upd H1 d (.frz od (.dK kvs)))) : tLk N te σ H Q := h
theorem k_dget2 {td ty tx : TE} {σ : L2.St} {H : Hp} {Q : VK} (h : td σ H fun x H1 => ∃ a, x = .ref a ∧ IsD H1 a ∧ ty σ H1 fun y H2 => tx σ H2 fun z H3 => ∃ o, DGet H3 a y o ∧ Q (o.getD z) H3) : tDGet2 td ty tx σ H Q := h
/-! ### sum(d.values()) -/
def tSumVals (te : TE) : TE := fun σ H Q => te σ H fun x H1 => ∃ (d : Addr) (kvs : List (Key × V)) (is : List Int), x = .ref d ∧ H1 d = some (.dK kvs) ∧ kvs.map (·.2) = is.map V.int ∧ Q (.int is.sum) H1
theorem k_sumV {te : TE} {σ : L2.St} {H : Hp} {Q : VK} (h : te σ H fun x H1 => ∃ (d : Addr) (kvs : List (Key × V)) (is : List Int), x = .ref d ∧ H1 d = some (.dK kvs) ∧ kvs.map (·.2) = is.map V.int ∧ Q (.int is.sum) H1) : tSumVals te σ H Q := h
theorem preSum_list (is : List Int) : ∀ j, PySem.preSum (fun i => is.getD i 0) j = (is.take j).sum
  | 0 => by simp [PySem.preSum]
  | j + 1 => by
    show PySem.preSum _ j + is.getD j 0 = _
    rw [preSum_list is j, List.take_add_one, List.sum_append, List.getD_eq_getElem?_getD]
    cases is[j]? with
    | none => simp
    | some x => simp
open PySem.Spec PyProof.Rows in
theorem pe_sumVals {X : L2.Cx} {e : Expr} {te : TE} {p apos mpos pos : Pos} (hc : X.calm = true) (he : PE X e te) (hg : Gl X "sum") (hm : X.mg "sum" = none) (hb : attributeBase e "values" X.env (eval e X.env) = eval e X.env := by rfl) (hl : (apos.endLine == mpos.line) = true := by rfl)
    (hs : starEach [Expr.Call (.Attribute e "values" apos) [] [] mpos] X.env = [(false, eval (Expr.Call (.Attribute e "values" apos) [] [] mpos) X.env)] := by rfl) : PE X (.Call (.Name "sum" p) [.Call (.Attribute e "values" apos) [] [] mpos] [] pos) (tSumVals te) := by
  constructor
  intro pins s σ H Q I hq
  refine wpAny_Call_Name_kw (ld_blt I hg hm (u := .builtin "sum") (by decide +kernel) ?_ (by decide +kernel) (by decide +kernel))
  rw [hs]
  refine PySem.callWith_builtin1 (wpAny_Call_method0_late hb hl (thn (he.run pins s σ H _ I hq) ?_))
  rintro v s1 ⟨x, H1, I1, r1, d, kvs, is, rfl, hd, hv, q⟩
  obtain rfl : v = Value.ref d := r1
  obtain ⟨_, lo, vs, kv, hdo⟩ := dk_of I1.hok hd
  obtain ⟨ep, hat⟩ := hdo.dictAt
  obtain ⟨ob, es, ho, ex, _⟩ := id hat
  refine ⟨"dict", "dict.values", F.plainAttrs_dict, F.slot_dict_values, F.type_dict_values, ⟨ob, ho, ex.1⟩, (fun b e => by cases e; exact ⟨ob, ho, ex.2.1⟩), Calls.callWith_builtin rfl (PySem.evalArgs_none ?_)⟩
  refine call_meetsIn F.slot_dict_values ⟨ob, ho, ex.1⟩ F.entry_dict_values (F.args_dict_values_1 _) (meets_dict_values (mixKind X.prog X.w) d lo) ⟨⟨vs, hdo⟩, ?_⟩
  have lk : vs.length = is.length := by
    have a := congrArg List.length hv
    rw [List.length_map, List.length_map] at a
    exact (KV.length kv).symm.trans a
  have I2 : Inv X pins σ H1 { s1 with heap := s1.heap.push { cls := .type "dict_values", data := .fields #[.ref d] } } := I1.kept (t' := s1.toks) fun b o z => Heap.get?_push_of_some _ z
  have src : PySem.W.KdlSrc X.prog X.w "dict_values" s1.heap.objs.size d vs.length (fun i v => ∃ k, vs[i]? = some (k, v)) (fun h => h.IsValuesView s1.heap.objs.size d ∧ h.DictAt (mixKind X.prog X.w) d vs ep) := PySem.W.kdl_values
  refine PySem.call_sum_walkAnyS ?_
  have ok1 : (s1.heap.push { cls := .type "dict_values", data := .fields #[.ref d] }).IsValuesView s1.heap.objs.size d ∧ (s1.heap.push { cls := .type "dict_values", data := .fields #[.ref d] }).DictAt (mixKind X.prog X.w) d vs ep := ⟨⟨_, Heap.get?_push_size _ rfl, rfl, rfl⟩, hat.push _⟩
  obtain ⟨o1, St1, hi1, w1, st1⟩ := src.iter X.A.in1 { s1 with heap := s1.heap.push { cls := .type "dict_values", data := .fields #[.ref d] } } (I1.ok.hd hc) ok1
  have th := src.there _ ok1
  refine hi1 _ _ ⟨_, _, _, _, vs.length, _, _, fun i => is.getD i 0, rfl, w1.toS, by exact st1, ?_, ?_, ?_⟩
  · intro b hb
    show b < ((Heap.push _ o1).objs.size)
    rw [Heap.size_push]
    rcases List.mem_cons.mp hb with z | z
    · rw [z]; exact Nat.lt_succ_self _
    · rw [List.mem_singleton.mp z]; exact Nat.lt_succ_of_lt th.2
  · rintro i v ⟨k, hk⟩
    obtain ⟨y, h1, h2⟩ := KV.at' kv hk
    have a : (kvs.map (·.2))[i]? = some y := by rw [List.getElem?_map, h1]; rfl
    rw [hv, List.getElem?_map] at a
    obtain ⟨j, hj, rfl⟩ := Option.map_eq_some_iff.mp a
    obtain ⟨t, e3⟩ := h2
    refine ⟨t, ?_⟩
    show v = Value.int (is.getD i 0) t
    rw [e3, List.getD_eq_getElem?_getD, hj]
    rfl
  · intro s' t' hm
    rw [Moved.eq_with hm, preSum_list, lk, List.take_length]
    refine ⟨.int _, H1, ?_, ⟨t', rfl⟩, q⟩
    refine I2.kept fun b o z => hm.heap b o (fun c => ?_) (Heap.get?_push_of_some _ z)
    exact absurd (Heap.lt_size z) (by rw [List.mem_singleton.mp c]; exact Nat.lt_irrefl _)
/-! ### how many rows lead where, with which tally: the mathematics -/
abbrev CF := Nat → Int → Nat
def cSum (ss : List Stp) (f : CF) (k : Nat) (t : Int) : Nat := (ss.map fun s => if s.e = k then f s.b (t - s.g) else 0).sum
def cNext (lo hi : Int) (ss : List Stp) (f : CF) : CF := fun k t => if lo ≤ t ∧ t ≤ hi then cSum ss f k t else 0
def cLev (lo hi : Int) (ss : List Stp) : Nat → CF
  | 0 => fun k t => if k = 0 ∧ t = 0 ∧ lo ≤ 0 ∧ 0 ≤ hi then 1 else 0
  | n + 1 => cNext lo hi ss (cLev lo hi ss n)
def cEnds (lo hi : Int) (m : MD) (L : Nat) (es : List Nat) (t : Int) : Nat := (es.map fun e => cLev lo hi m.ss L e t).sum
theorem cSum_snoc (ss : List Stp) (s : Stp) (f : CF) (k : Nat) (t : Int) : cSum (ss ++ [s]) f k t = cSum ss f k t + if s.e = k then f s.b (t - s.g) else 0 := by
  unfold cSum
  rw [List.map_append, List.sum_append]
  simp
theorem cSum_take (ss : List Stp) (f : CF) (k : Nat) (t : Int) (i : Nat) : cSum (ss.take i) f k t ≤ cSum ss f k t := by
  have e : ss = ss.take i ++ ss.drop i := (List.take_append_drop i ss).symm
  have : cSum ss f k t = cSum (ss.take i) f k t + cSum (ss.drop i) f k t := by
    conv => lhs; rw [e]
    unfold cSum
    rw [List.map_append, List.sum_append]
  omega
/-- the count of a key -/
def cntOf (kv : List (Key × V)) (t : Int) : Nat := match valV kv (.inl t) with
  | some (.int x) => x.toNat
  | _ => 0
structure CntD (kv : List (Key × V)) (g : Int → Nat) : Prop where
  key : ∀ p ∈ kv, ∃ t : Int, p.1 = .inl t
  nd : (kv.map (·.1)).Nodup
  at_ : ∀ t : Int, valV kv (.inl t) = if g t = 0 then none else some (.int (g t : Nat))
theorem CntD.nil : CntD [] fun _ => 0 := ⟨fun p h => absurd h (by simp), by simp, fun t => rfl⟩
theorem CntD.congr {kv : List (Key × V)} {g g' : Int → Nat} (h : CntD kv g) (e : ∀ t, g t = g' t) : CntD kv g' := ⟨h.key, h.nd, fun t => by rw [← e t]; exact h.at_ t⟩
theorem CntD.cnt {kv : List (Key × V)} {g : Int → Nat} (h : CntD kv g) (t : Int) : cntOf kv t = g t := by
  unfold cntOf
  rw [h.at_ t]
  by_cases c : g t = 0
  · rw [if_pos c, c]
  · rw [if_neg c]
    exact Int.toNat_natCast _
theorem putK_key {kvs : List (Key × V)} {P : Key → Prop} {k : Key} {v : V} (h : ∀ p ∈ kvs, P p.1) (hk : P k) : ∀ p ∈ putK kvs k v, P p.1 := fun q hq => by
  unfold putK at hq
  split at hq
  · obtain ⟨r, hr, rfl⟩ := List.mem_map.mp hq
    split
    · exact h r hr
    · exact h r hr
  · rcases List.mem_append.mp hq with hq | hq
    · exact h q hq
    · rw [List.mem_singleton.mp hq]; exact hk
theorem CntD.add {kv : List (Key × V)} {g : Int → Nat} (h : CntD kv g) {t : Int} {n : Nat} (hn : 0 < n) : CntD (putK kv (.inl t) (.int ((g t : Nat) + (n : Nat) : Int))) (fun u => if u = t then g t + n else g u) := by
  refine ⟨fun p hp => putK_key (P := fun k => ∃ t : Int, k = .inl t) h.key ⟨t, rfl⟩ p hp, putK_nodup _ _ h.nd, fun u => ?_⟩
  rw [valV_put]
  by_cases c : u = t
  · have c' : (Sum.inl u : Key) = .inl t := by rw [c]
    rw [if_pos c', if_pos c, if_neg (by omega)]
    rfl
  · have c' : ¬ (Sum.inl u : Key) = .inl t := fun z => c (by injection z)
    rw [if_neg c', if_neg c]
    exact h.at_ u
theorem CntD.has {kv : List (Key × V)} {g : Int → Nat} (h : CntD kv g) {i : Nat} {k : Key} {v : V} (e : kv[i]? = some (k, v)) : ∃ t : Int, k = .inl t ∧ v = .int (g t : Nat) ∧ 0 < g t ∧ valV (kv.take i) (.inl t) = none := by
  obtain ⟨t, ht⟩ := h.key _ (List.mem_of_getElem? e)
  have il := (List.getElem?_eq_some_iff.mp e).1
  have ht' : k = .inl t := ht
  subst ht'
  have nd := h.nd
  have sp : kv = kv.take i ++ (.inl t, v) :: kv.drop (i + 1) := by
    have e' : kv[i]'il = (.inl t, v) := (List.getElem?_eq_some_iff.mp e).2
    rw [← e', ← List.drop_eq_getElem_cons il, List.take_append_drop]
  have none1 : valV (kv.take i) (.inl t) = none := by
    have nd2 := nd
    rw [sp, List.map_append, List.map_cons, List.nodup_append] at nd2
    cases q : valV (kv.take i) (.inl t) with
    | none => rfl
    | some x =>
      have a := valV_any (.inl t : Key) (kv.take i)
      rw [q] at a
      obtain ⟨kv', hm, hd⟩ := List.any_eq_true.mp (a.trans rfl)
      exact absurd (of_decide_eq_true hd : kv'.1 = .inl t) (nd2.2.2 _ (List.mem_map_of_mem hm) _ List.mem_cons_self)
  have val : valV kv (.inl t) = some v := by
    have gen : ∀ (l r : List (Key × V)), valV l (.inl t : Key) = none → valV (l ++ (.inl t, v) :: r) (.inl t) = some v := fun l r => by
      induction l with
      | nil => exact fun _ => valV_pos rfl
      | cons a l ih =>
        intro hn
        by_cases c : a.1 = (.inl t : Key)
        · rw [valV_pos c] at hn; cases hn
        · rw [valV_neg c] at hn
          rw [List.cons_append, valV_neg c]
          exact ih hn
    have := gen (kv.take i) (kv.drop (i + 1)) none1
    rw [← sp] at this
    exact this
  have a := h.at_ t
  rw [val] at a
  by_cases c : g t = 0
  · rw [if_pos c] at a; cases a
  · rw [if_neg c] at a
    cases a
    exact ⟨t, rfl, rfl, by omega, none1⟩
theorem cntOf_take {kv : List (Key × V)} {i : Nat} {t : Int} {n : Nat} (e : kv[i]? = some (.inl t, .int (n : Nat))) (hn : valV (kv.take i) (.inl t) = none) (u : Int) : cntOf (kv.take (i + 1)) u = if u = t then n else cntOf (kv.take i) u := by
  unfold cntOf
  rw [List.take_add_one, e]
  show (match valV (kv.take i ++ [(.inl t, .int (n : Nat))]) (.inl u) with | some (.int x) => x.toNat | _ => 0) = _
  rw [valV_snoc _ _ _ _ hn]
  by_cases c : u = t
  · rw [if_pos (by rw [c]), if_pos c]
    exact Int.toNat_natCast _
  · rw [if_neg (fun z => c (by injection z)), if_neg c]
theorem CntD.len {kv : List (Key × V)} {g : Int → Nat} (h : CntD kv g) {T : List Int} (s : ∀ t, g t ≠ 0 → t ∈ T) : kv.length ≤ T.length := by
  have e : kv.length = (kv.map (·.1)).length := (List.length_map _).symm
  rw [e]
  have : (T.map fun t : Int => (.inl t : Key)).length = T.length := List.length_map _
  rw [← this]
  refine nodup_sub h.nd fun k hk => ?_
  obtain ⟨p, hp, rfl⟩ := List.mem_map.mp hk
  obtain ⟨i, hi⟩ := List.getElem?_of_mem hp
  obtain ⟨t, et, _, pos, _⟩ := h.has (k := p.1) (v := p.2) hi
  rw [et]
  exact List.mem_map_of_mem (s t (by omega))
theorem CntD.take_pos {kv : List (Key × V)} {g : Int → Nat} (h : CntD kv g) {j : Nat} {t : Int} (e : cntOf (kv.take j) t ≠ 0) : g t ≠ 0 := by
  cases q : valV (kv.take j) (.inl t : Key) with
  | none => exact absurd (by unfold cntOf; rw [q]) e
  | some x =>
    have a := valV_any (.inl t : Key) (kv.take j)
    rw [q] at a
    obtain ⟨p, hm, hd⟩ := List.any_eq_true.mp (a.trans rfl)
    obtain ⟨i, hi⟩ := List.getElem?_of_mem (List.mem_of_mem_take hm)
    obtain ⟨t', et, _, pos, _⟩ := h.has (k := p.1) (v := p.2) hi
    have : (Sum.inl t' : Key) = .inl t := et.symm.trans (of_decide_eq_true hd)
    injection this with this
    rw [← this]
    omega
theorem cntOf_none {kv : List (Key × V)} {t : Int} (h : valV kv (.inl t : Key) = none) : cntOf kv t = 0 := by unfold cntOf; rw [h]
/-- a part of a dict's counts, moved by a gain -/
def cPart (lo hi : Int) (kv : List (Key × V)) (g : Int) (j : Nat) (t : Int) : Nat := if lo ≤ t ∧ t ≤ hi then cntOf (kv.take j) (t - g) else 0
theorem cPart_zero (lo hi : Int) (kv : List (Key × V)) (g t : Int) : cPart lo hi kv g 0 t = 0 := by
  unfold cPart
  split
  · rfl
  · rfl
theorem cPart_succ {lo hi : Int} {kv : List (Key × V)} {g t : Int} {j n : Nat} (e : kv[j]? = some (.inl t, .int (n : Nat))) (hn : valV (kv.take j) (.inl t : Key) = none) (u : Int) :
    cPart lo hi kv g (j + 1) u = if u = t + g ∧ lo ≤ u ∧ u ≤ hi then n else cPart lo hi kv g j u := by
  unfold cPart
  rw [cntOf_take e hn]
  by_cases b : lo ≤ u ∧ u ≤ hi
  · by_cases c : u = t + g
    · rw [if_pos b, if_pos (by omega), if_pos ⟨c, b⟩]
    · rw [if_pos b, if_neg (by omega), if_neg (fun z => c z.1), if_pos b]
  · rw [if_neg b, if_neg (fun z => b z.2), if_neg b]
theorem cPart_at {lo hi : Int} {kv : List (Key × V)} {g t : Int} {j : Nat} (hn : valV (kv.take j) (.inl t : Key) = none) : cPart lo hi kv g j (t + g) = 0 := by
  unfold cPart
  split
  · exact cntOf_none (by rw [show t + g - g = t by omega]; exact hn)
  · rfl
theorem cPart_full {lo hi : Int} {kv : List (Key × V)} {h : Int → Nat} (c : CntD kv h) (g t : Int) : cPart lo hi kv g kv.length t = if lo ≤ t ∧ t ≤ hi then h (t - g) else 0 := by
  unfold cPart
  rw [List.take_length, c.cnt]
theorem cPart_pos {lo hi : Int} {kv : List (Key × V)} {h : Int → Nat} (c : CntD kv h) {g t : Int} {j : Nat} (e : cPart lo hi kv g j t ≠ 0) : (lo ≤ t ∧ t ≤ hi) ∧ h (t - g) ≠ 0 := by
  unfold cPart at e
  split at e
  · rename_i b
    exact ⟨b, c.take_pos e⟩
  · exact absurd rfl e
theorem cNext_snoc (lo hi : Int) (ss : List Stp) (s : Stp) (f : CF) (k : Nat) (t : Int) : cNext lo hi (ss ++ [s]) f k t = cNext lo hi ss f k t + if s.e = k ∧ lo ≤ t ∧ t ≤ hi then f s.b (t - s.g) else 0 := by
  unfold cNext
  rw [cSum_snoc]
  by_cases b : lo ≤ t ∧ t ≤ hi
  · rw [if_pos b, if_pos b]
    by_cases c : s.e = k
    · rw [if_pos c, if_pos ⟨c, b⟩]
    · rw [if_neg c, if_neg (fun z => c z.1)]
  · rw [if_neg b, if_neg b, if_neg (fun z => b z.2)]
theorem CntD.one : CntD [((.inl 0 : Key), V.int 1)] fun t => if t = 0 then 1 else 0 := by
  refine ⟨fun q hq => by rw [List.mem_singleton.mp hq]; exact ⟨0, rfl⟩, by simp, fun t => ?_⟩
  by_cases d : t = 0
  · subst d
    rfl
  · have e : valV [((.inl 0 : Key), V.int 1)] (.inl t) = none := valV_neg (p := ((.inl 0 : Key), V.int 1)) fun z => d (by injection z with z; omega)
    rw [e]
    simp [d]
/-! ### dicts of dicts of counts; the numbers of the next length -/
structure DD (H : Hp) (kvs : List (Key × V)) (f : CF) (F : Addr → Prop) (N : Nat) : Prop where
  key : ∀ p ∈ kvs, ∃ n : Nat, p.1 = .inl (n : Int) ∧ n < N
  nd : (kvs.map (·.1)).Nodup
  at_ : ∀ n : Nat, (valV kvs (.inl (n : Int)) = none ∧ ∀ t, f n t = 0) ∨ ∃ q kv, valV kvs (.inl (n : Int)) = some (.ref q) ∧ H q = some (.dK kv) ∧ CntD kv (f n) ∧ F q
  inj : ∀ (n k : Nat) q, valV kvs (.inl (n : Int)) = some (.ref q) → valV kvs (.inl (k : Int)) = some (.ref q) → n = k
theorem DD.nil {H : Hp} {F : Addr → Prop} {N : Nat} : DD H [] (fun _ _ => 0) F N := ⟨fun p h => absurd h (by simp), by simp, fun n => .inl ⟨rfl, fun _ => rfl⟩, fun n k q e => by cases e⟩
theorem DD.congr {H : Hp} {kvs : List (Key × V)} {f f' : CF} {F : Addr → Prop} {N : Nat} (h : DD H kvs f F N) (e : ∀ n t, f n t = f' n t) : DD H kvs f' F N :=
  ⟨h.key, h.nd, fun n => (h.at_ n).imp (fun ⟨a, b⟩ => ⟨a, fun t => by rw [← e n t]; exact b t⟩) fun ⟨q, kv, a, b, c, d⟩ => ⟨q, kv, a, b, c.congr (e n), d⟩, h.inj⟩
theorem DD.heap {H H' : Hp} {kvs : List (Key × V)} {f : CF} {F : Addr → Prop} {N : Nat} (h : DD H kvs f F N) (e : ∀ q kv, F q → H q = some (.dK kv) → H' q = some (.dK kv)) : DD H' kvs f F N :=
  ⟨h.key, h.nd, fun n => (h.at_ n).imp id fun ⟨q, kv, a, b, c, d⟩ => ⟨q, kv, a, e q kv d b, c, d⟩, h.inj⟩
theorem DD.weak {H : Hp} {kvs : List (Key × V)} {f : CF} {F G : Addr → Prop} {N : Nat} (h : DD H kvs f F N) (e : ∀ q, F q → G q) : DD H kvs f G N :=
  ⟨h.key, h.nd, fun n => (h.at_ n).imp id fun ⟨q, kv, a, b, c, d⟩ => ⟨q, kv, a, b, c, e q d⟩, h.inj⟩
theorem DD.len {H : Hp} {kvs : List (Key × V)} {f : CF} {F : Addr → Prop} {N : Nat} (h : DD H kvs f F N) : kvs.length ≤ N := by
  have e : kvs.length = (kvs.map (·.1)).length := (List.length_map _).symm
  have e2 : ((List.range N).map fun n : Nat => (.inl (n : Int) : Key)).length = N := by rw [List.length_map, List.length_range]
  rw [e]
  conv => rhs; rw [← e2]
  refine nodup_sub h.nd fun k hk => ?_
  obtain ⟨p, hp, rfl⟩ := List.mem_map.mp hk
  obtain ⟨n, en, hn⟩ := h.key p hp
  rw [en]
  exact List.mem_map.mpr ⟨n, List.mem_range.mpr hn, rfl⟩
/-- a new stand with an empty dict -/
theorem DD.new {H : Hp} {kvs : List (Key × V)} {f : CF} {F : Addr → Prop} {N e : Nat} {q : Addr} (h : DD H kvs f F N) (he : e < N) (hn : valV kvs (.inl (e : Int)) = none) (hq : H q = some (.dK [])) (fq : F q) (ne : ∀ (n : Nat) (p : Addr), valV kvs (.inl (n : Int)) = some (.ref p) → p ≠ q) :
    DD H (putK kvs (.inl (e : Int)) (.ref q)) f F N := by
  have val : ∀ n : Nat, valV (putK kvs (.inl (e : Int)) (.ref q)) (.inl (n : Int)) = if n = e then some (.ref q) else valV kvs (.inl (n : Int)) := fun n => by
    rw [valV_put]
    by_cases c : n = e
    · rw [if_pos (by rw [c]), if_pos c]
    · rw [if_neg (fun z => c (by injection z with z; omega)), if_neg c]
  refine ⟨fun p hp => putK_key (P := fun k => ∃ n : Nat, k = .inl (n : Int) ∧ n < N) h.key ⟨e, rfl, he⟩ p hp, putK_nodup _ _ h.nd, fun n => ?_, fun n k p e1 e2 => ?_⟩
  · rw [val n]
    by_cases c : n = e
    · rw [if_pos c]
      subst c
      rcases h.at_ n with ⟨_, z⟩ | ⟨q', kv, a, _⟩
      · exact .inr ⟨q, [], rfl, hq, CntD.nil.congr fun t => (z t).symm, fq⟩
      · rw [hn] at a; cases a
    · rw [if_neg c]
      exact h.at_ n
  · rw [val] at e1 e2
    by_cases c1 : n = e
    · by_cases c2 : k = e
      · rw [c1, c2]
      · rw [if_pos c1] at e1
        rw [if_neg c2] at e2
        cases e1
        exact absurd rfl (ne _ _ e2)
    · rw [if_neg c1] at e1
      by_cases c2 : k = e
      · rw [if_pos c2] at e2
        cases e2
        exact absurd rfl (ne _ _ e1)
      · rw [if_neg c2] at e2
        exact h.inj _ _ _ e1 e2
/-- the dict of a stand is written -/
theorem DD.put {H : Hp} {kvs : List (Key × V)} {f : CF} {F : Addr → Prop} {N e : Nat} {q : Addr} {kv : List (Key × V)} {g : Int → Nat} (h : DD H kvs f F N) (hq : valV kvs (.inl (e : Int)) = some (.ref q)) (c : CntD kv g) :
    DD (upd H q (.dK kv)) kvs (fun n t => if n = e then g t else f n t) F N := by
  refine ⟨h.key, h.nd, fun n => ?_, h.inj⟩
  by_cases d : n = e
  · subst d
    rcases h.at_ n with ⟨z, _⟩ | ⟨q', kv', a, _, _, fq⟩
    · rw [hq] at z; cases z
    · rw [hq] at a
      cases a
      exact .inr ⟨q, kv, hq, upd_same, c.congr fun t => by rw [if_pos rfl], fq⟩
  · rcases h.at_ n with ⟨z, zz⟩ | ⟨q', kv', a, b, c', fq⟩
    · exact .inl ⟨z, fun t => by rw [if_neg d]; exact zz t⟩
    · have : q' ≠ q := fun w => d (h.inj _ _ _ (by rw [w] at a; exact a) hq)
      exact .inr ⟨q', kv', a, by rw [upd_ne this]; exact b, c'.congr fun t => by rw [if_neg d], fq⟩
def sp_longerC (K : PySem.W.Frag) : Sp := fun vs H Q _ => ∃ (t r : Addr) (lo hi : Int) (N : Nat) (ss : List Stp) (f : CF) (kvs : List (Key × V)) (F : Addr → Prop) (T : List Int), vs = [.ref t, .ref r, .int lo, .int hi] ∧ StAt K H t ss ∧ SsOk N ss ∧ H r = some (.dK kvs) ∧ DD H kvs f F N ∧
  T.length < sizeLine ∧ (∀ k u, cNext lo hi ss f k u ≠ 0 → u ∈ T) ∧
  ∀ p kvs' H', Same H H' → H p = none → H' p = some (.dK kvs') → DD H' kvs' (cNext lo hi ss f) (fun q => H q = none ∧ q ≠ p) N → Q (.ref p) H'
theorem cNext_take {lo hi : Int} {ss : List Stp} {f : CF} {k : Nat} {t : Int} (i : Nat) (h : cNext lo hi (ss.take i) f k t ≠ 0) : cNext lo hi ss f k t ≠ 0 := by
  unfold cNext at h ⊢
  split at h
  · rename_i c
    rw [if_pos c]
    have := cSum_take ss f k t i
    omega
  · exact absurd rfl h
section
variable {P : Program} {w : World} {K : PySem.W.Frag} {mg : Str → Option Value} {base : Heap}
theorem ok_longer (T : Txt K mg) : FnOk P w K mg base (L2.CX P w) 1 T.a_longer T.fd_longer ["steps", "numbers", "low", "high"] (sp_longerC K) := by
  refine T.F_longer.okX sc_longer (fun vs H Q E h => ?_) (fun cdv A outer s H vs Q E hr h => ?_)
  · obtain ⟨t, r, lo, hi, N, ss, f, kvs, F, Tl, rfl, _⟩ := h
    rfl
  · obtain ⟨t, r, lo, hi, N, ss, f, kvs, F, Tl, rfl, ⟨us, ht, hs⟩, o, er, dd, lT, hT, k⟩ := h
    refine ⟨_, (PSs.nox (pss_cons (ps_set (i := 4) sc_longer.nd rfl (Or.inl rfl) pe_dnewK)
  (pss_cons (ps_for PassesOwn.never rfl (pi_tup (pv 0)) (pg_tup rfl (pgs_cons (pg_name (i := 5) sc_longer.nd rfl (Or.inl rfl)) (pgs_cons (pg_name (i := 6) sc_longer.nd rfl (Or.inl rfl)) (pgs_cons (pg_name (i := 7) sc_longer.nd rfl (Or.inl rfl)) (pgs_cons (pg_name (i := 8) sc_longer.nd rfl (Or.inl rfl)) pgs_nil)))))
  (C8.pss_cut (ps_set (i := 9) sc_longer.nd rfl (Or.inl rfl) (pe_dsetd (pv 4) (pv 7) pe_dnewK ⟨by rfl, by rfl, by rfl, by rfl⟩))
  (pss_one (ps_open (ps_for PassesOwn.never rfl (pi_items (pe_lk (pe_dget2 (hu_of hr) (pv 1) (pv 5) pe_dnewK ⟨by rfl, by rfl, by rfl, by rfl⟩))) (pg_tup rfl (pgs_cons (pg_name (i := 10) sc_longer.nd rfl (Or.inl rfl)) (pgs_cons (pg_name (i := 11) sc_longer.nd rfl (Or.inl rfl)) pgs_nil)))
  (pss_cons (ps_aug (i := 10) sc_longer.nd rfl (Or.inl rfl) (pv 8) ip_add)
  (pss_one (ps_if (pt_chain op_le op_le (pv 2) (pv 10) (pv 3))
  (pss_one (ps_dput (hu_of hr) (pv 9) (pv 10) (pe_op op_add (pe_dget2 (hu_of hr) (pv 9) (pv 10) pe_int ⟨by rfl, by rfl, by rfl, by rfl⟩) (pv 11)) rfl))
  pss_nil))))))))
  (pss_one (ps_ret (pv 4)))))), ?_⟩
    walk_at "begin"
    walk_at "go"
    intro D hD
    walk_at "go"
    refine ⟨t, rfl, ⟨us, (same_tups (Same.new hD)).sq ht⟩, for_tup (xs := us) (fun i σ H' => ∃ kvs' a5 a6 a7 a8 a9 a10 a11, Same H H' ∧ H' D = some (.dK kvs') ∧ DD H' kvs' (cNext lo hi (ss.take i) f) (fun q => H q = none ∧ q ≠ D) N ∧
      σ = [some (.ref t), some (.ref r), some (.int lo), some (.int hi), some (.ref D), a5, a6, a7, a8, a9, a10, a11])
      ⟨[], _, _, _, _, _, _, _, Same.new hD, upd_same, DD.nil.congr fun n u => by unfold cNext cSum; simp, rfl⟩ (fun i σ H' _ ⟨_, _, _, _, _, _, _, _, z, _⟩ => (same_tups z).sq ht) ?_ ?_⟩
    · rintro i y σ H1 hy ⟨kvs', a5, a6, a7, a8, a9, a10, a11, z, eD, ok, rfl⟩
      have il : i < ss.length := by rw [← hs.1]; exact (List.getElem?_eq_some_iff.mp hy).1
      have ei : ss[i]? = some (ss[i]'il) := List.getElem?_eq_getElem il
      obtain ⟨q, eq, hq⟩ := hs.2 i _ ei
      rw [hy] at eq
      cases eq
      have ok1 := o.ok _ (List.getElem_mem il)
      have tk : ss.take (i + 1) = ss.take i ++ [ss[i]'il] := by rw [List.take_add_one, ei]; rfl
      have hT1 : ∀ k u, cNext lo hi (ss.take (i + 1)) f k u ≠ 0 → u ∈ Tl := fun k u h => hT k u (cNext_take _ h)
      rw [tk] at hT1 ⊢
      generalize ss[i]'il = s0 at hq ok1 hT1
      generalize ss.take i = sa at ok hT1
      have n64 := o.n64
      refine k_gt ((same_tups z).sq hq) rfl ?_
      unfold stpV
      walk_at "go"
      refine k_cut (fun σ' H' => ∃ qe kvs2, Same H H' ∧ H' D = some (.dK kvs2) ∧ DD H' kvs2 (cNext lo hi sa f) (fun q => H q = none ∧ q ≠ D) N ∧ valV kvs2 (.inl (s0.e : Int)) = some (.ref qe) ∧
        σ' = [some (.ref t), some (.ref r), some (.int lo), some (.int hi), some (.ref D), some (.int (s0.b : Nat)), some (.str ⟨#[s0.c]⟩), some (.int (s0.e : Nat)), some (.int s0.g), some (.ref qe), a10, a11]) ?_ ?_
      · walk_at "go"
        refine k_dsetd ?_
        walk_at "go"
        refine ⟨D, rfl, .inl ⟨_, .inl eD⟩, ?_⟩
        walk_at "go"
        intro n0 hn0
        have nD0 : D ≠ n0 := ne_of_none eD hn0
        have eD1 : (upd H1 n0 (.dK [])) D = some (.dK kvs') := by rw [upd_ne nD0]; exact eD
        have ok1' := ok.heap (H' := upd H1 n0 (.dK [])) fun q kv _ e => by rw [upd_ne (ne_of_none e hn0)]; exact e
        have z1 : Same H (upd H1 n0 (.dK [])) := z.trans (Same.new hn0)
        have small : kvs'.length < sizeLine := Nat.lt_of_le_of_lt (Nat.le_trans ok.len n64) (by decide)
        refine ⟨kvs', .inl (s0.e : Int), eD1, rfl, small, fun v hv => ?_, fun hn => ?_⟩
        · rcases ok.at_ s0.e with ⟨q1, _⟩ | ⟨q', kv, q1, _⟩
          · rw [hv] at q1; cases q1
          · rw [hv] at q1
            cases q1
            exact ⟨q', kvs', z1, eD1, ok1', hv, rfl⟩
        · have fresh : ∀ (n : Nat) (p : Addr), valV kvs' (.inl (n : Int)) = some (.ref p) → p ≠ n0 := fun n p hp => by
            rcases ok.at_ n with ⟨q1, _⟩ | ⟨q', kv, q1, q2, _⟩
            · rw [hp] at q1; cases q1
            · rw [hp] at q1
              cases q1
              exact ne_of_none q2 hn0
          have nw := (ok1'.new ok1.e hn upd_same ⟨free_of z hn0, nD0.symm⟩ fresh).heap (H' := upd (upd H1 n0 (.dK [])) D (.dK (putK kvs' (.inl (s0.e : Int)) (.ref n0)))) fun q kv fq e => by rw [upd_ne fq.2]; exact e
          refine ⟨n0, _, Same.mut z1 hD, upd_same, nw, ?_, rfl⟩
          rw [valV_put, if_pos rfl]
      · clear ok eD z
        rintro σ' H2 ⟨qe, kvs2, z, eD, ok, vq, rfl⟩
        obtain ⟨kvT, eT, okT, fT⟩ : ∃ kvT, H2 qe = some (.dK kvT) ∧ CntD kvT (cNext lo hi sa f s0.e) ∧ H qe = none ∧ qe ≠ D := by
          rcases ok.at_ s0.e with ⟨q1, _⟩ | ⟨q', kv, q1, q2, q3, q4⟩
          · rw [vq] at q1; cases q1
          · rw [vq] at q1
            cases q1
            exact ⟨kv, q2, q3, q4⟩
        walk_at "go"
        refine k_open ?_
        walk_at "go"
        refine k_items (k_lk (k_dget2 ?_))
        walk_at "go"
        refine ⟨r, rfl, .inl ⟨_, .inl (z _ _ er)⟩, ?_⟩
        walk_at "go"
        intro n1 hn1
        obtain ⟨d, kvI, dg, ed, okI, own, nd2, ndD, ndq⟩ : ∃ (d : Addr) (kvI : List (Key × V)), (∃ o, DGet (upd H2 n1 (.dK [])) r (.int (s0.b : Nat)) o ∧ o.getD (.ref n1) = .ref d) ∧ (upd H2 n1 (.dK [])) d = some (.dK kvI) ∧ CntD kvI (f s0.b) ∧
            (∀ o, H d = some o → o = .dK kvI) ∧ (∀ q kv, H q = none → H2 q = some (.dK kv) → q ≠ d) ∧ d ≠ D ∧ d ≠ qe := by
          have dg := DGet.k (k := .inl (s0.b : Int)) (H := upd H2 n1 (.dK [])) ((Same.new hn1) _ _ (z _ _ er))
          rcases dd.at_ s0.b with ⟨v0, f0⟩ | ⟨q, kv, v1, hq1, c1, _⟩
          · rw [v0] at dg
            exact ⟨n1, [], ⟨none, dg, rfl⟩, upd_same, CntD.nil.congr fun t => (f0 t).symm, (fun o e => by rw [free_of z hn1] at e; cases e), (fun q kv _ e => ne_of_none e hn1), (ne_of_none eD hn1).symm, (ne_of_none eT hn1).symm⟩
          · rw [v1] at dg
            refine ⟨q, kv, ⟨some (.ref q), dg, rfl⟩, (Same.new hn1) _ _ (z _ _ hq1), c1, (fun o e => by rw [hq1] at e; cases e; rfl), fun q' kv' e _ w => ?_, fun w => ?_, fun w => ?_⟩
            · rw [w, hq1] at e; cases e
            · rw [w, hD] at hq1; cases hq1
            · rw [w, fT.1] at hq1; cases hq1
        obtain ⟨ov, dg, eov⟩ := dg
        refine ⟨ov, dg, d, kvI, eov, ed, fun od nf => ⟨d, od, kvI, eov, upd_same, ?_⟩⟩
        have F0 : ∀ b o, H2 b = some o → b ≠ d → (upd (upd H2 n1 (.dK [])) d (.frz od (.dK kvI))) b = some o := fun b o e n => by rw [upd_ne n, upd_ne (ne_of_none e hn1)]; exact e
        have ok0 : DD (upd (upd H2 n1 (.dK [])) d (.frz od (.dK kvI))) kvs2 (fun n u => if n = s0.e then cNext lo hi sa f s0.e u + cPart lo hi kvI s0.g 0 u else cNext lo hi sa f n u) (fun q => H q = none ∧ q ≠ D) N :=
          (ok.heap fun q kv fq e => F0 q _ e (nd2 q kv fq.1 e)).congr fun n u => by
            by_cases c : n = s0.e
            · rw [if_pos c, cPart_zero, c]; rfl
            · rw [if_neg c]
        have K0 : Keep d H (upd (upd H2 n1 (.dK [])) d (.frz od (.dK kvI))) := fun b o n e => F0 b o (z _ _ e) n
        have eD0 := F0 _ _ eD ndD.symm
        generalize hH3 : upd (upd H2 n1 (.dK [])) d (.frz od (.dK kvI)) = H3 at ok0 K0 eD0 ⊢
        have ed3 : H3 d = some (.frz od (.dK kvI)) := by rw [← hH3]; exact upd_same
        clear hH3 F0 ed dg eov hn1 okT ok eT z eD nd2
        refine for_it walk_items (fun j σ H' => ∃ a10 a11, Keep d H H' ∧ H' d = some (.frz od (.dK kvI)) ∧ H' D = some (.dK kvs2) ∧ DD H' kvs2 (fun n u => if n = s0.e then cNext lo hi sa f s0.e u + cPart lo hi kvI s0.g j u else cNext lo hi sa f n u) (fun q => H q = none ∧ q ≠ D) N ∧
          σ = [some (.ref t), some (.ref r), some (.int lo), some (.int hi), some (.ref D), some (.int (s0.b : Nat)), some (.str ⟨#[s0.c]⟩), some (.int (s0.e : Nat)), some (.int s0.g), some (.ref qe), a10, a11])
          ⟨_, _, K0, ed3, eD0, ok0, rfl⟩ (fun _ _ _ _ ⟨_, _, _, e, _⟩ => e) ?_ ?_
        · clear ok0 K0 eD0 ed3 H3
          rintro j x σ H4 H5 hj ⟨a10, a11, K4, ed4, eD4, ok4, rfl⟩ ⟨Tq, xk, xv, rfl, hTq, rfl, hxk, hxv⟩
          have ej : kvI[j]? = some (kvI[j]'hj) := List.getElem?_eq_getElem hj
          obtain ⟨⟨k0, v0⟩, ekv⟩ : ∃ kv, kvI[j]? = some kv := ⟨_, ej⟩
          have hxk : (kvI[j]?).map (fun kv => kV kv.1) = some xk := hxk
          have hxv : (kvI[j]?).map Prod.snd = some xv := hxv
          rw [ekv] at hxk hxv
          obtain ⟨tk, rfl, rfl, npos, nin⟩ := okI.has ekv
          obtain rfl : xk = V.int tk := (Option.some.inj hxk).symm
          obtain rfl : xv = V.int (f s0.b tk : Nat) := (Option.some.inj hxv).symm
          generalize f s0.b tk = n0 at ekv npos
          clear hxk hxv ej
          obtain ⟨kvT, eT, okT⟩ : ∃ kvT, H4 qe = some (.dK kvT) ∧ CntD kvT (fun u => cNext lo hi sa f s0.e u + cPart lo hi kvI s0.g j u) := by
            rcases ok4.at_ s0.e with ⟨q1, _⟩ | ⟨q', kv, q1, q2, q3, q4⟩
            · rw [vq] at q1; cases q1
            · rw [vq] at q1
              cases q1
              exact ⟨kv, q2, q3.congr fun u => by rw [if_pos rfl]⟩
          have small : kvT.length < sizeLine := Nat.lt_of_le_of_lt (okT.len (T := Tl) fun u hu => hT1 s0.e u (by
            rw [cNext_snoc]
            by_cases c : cPart lo hi kvI s0.g j u = 0
            · rw [c] at hu
              omega
            · obtain ⟨b, h2⟩ := cPart_pos okI c
              rw [if_pos ⟨rfl, b⟩]
              omega)) lT
          have zT := Same.new (o := .tup [.int tk, .int (n0 : Nat)]) hTq
          have ed5 := zT _ _ ed4
          have eD5 := zT _ _ eD4
          have eT5 := zT _ _ eT
          have K5 : Keep d H _ := K4.trans (Keep.of_same zT)
          have ok5 := ok4.heap fun q kv _ e => zT _ _ e
          refine k_gt (SqT.of upd_same) rfl ?_
          generalize upd H4 Tq (.tup [.int tk, .int (n0 : Nat)]) = H5 at ed5 eD5 eT5 K5 ok5 ⊢
          clear zT ed4 eD4 eT K4 ok4 hTq
          walk_at "go"
          refine k_chain ?_
          walk_at "go"
          have old : ¬ (lo ≤ tk + s0.g ∧ tk + s0.g ≤ hi) → DD H5 kvs2 (fun n u => if n = s0.e then cNext lo hi sa f s0.e u + cPart lo hi kvI s0.g (j + 1) u else cNext lo hi sa f n u) (fun q => H q = none ∧ q ≠ D) N := fun nb => ok5.congr fun n u => by
            by_cases c : n = s0.e
            · rw [if_pos c, if_pos c, cPart_succ ekv nin u, if_neg (fun w => nb (by rw [← w.1]; exact w.2))]
            · rw [if_neg c, if_neg c]
          refine k_ite (fun b1 => ?_) (fun b1 => ?_)
          · walk_at "go"
            refine k_ite (fun b2 => ?_) (fun b2 => ?_)
            · walk_at "go"
              refine k_dget2 ?_
              walk_at "go"
              refine ⟨qe, rfl, .inl ⟨_, .inl eT5⟩, ?_⟩
              walk_at "go"
              refine ⟨_, DGet.k (k := .inl (tk + s0.g)) eT5, ?_⟩
              have eo : (valV kvT (.inl (tk + s0.g))).getD (.int 0) = .int ((cNext lo hi sa f s0.e (tk + s0.g) + cPart lo hi kvI s0.g j (tk + s0.g) : Nat)) := by
                rw [okT.at_]
                by_cases c : cNext lo hi sa f s0.e (tk + s0.g) + cPart lo hi kvI s0.g j (tk + s0.g) = 0
                · rw [if_pos c, c]; rfl
                · rw [if_neg c]; rfl
              rw [eo]
              walk_at "go"
              refine ⟨qe, _, rfl, DPut.k (k := .inl (tk + s0.g)) eT5 small, ?_⟩
              refine ⟨_, _, K5.mut fT.1, by rw [upd_ne ndq]; exact ed5, by rw [upd_ne fT.2.symm]; exact eD5, (ok5.put vq (okT.add npos)).congr fun n u => ?_, rfl⟩
              by_cases c : n = s0.e
              · rw [if_pos c, if_pos c, cPart_succ ekv nin u]
                by_cases c2 : u = tk + s0.g
                · rw [if_pos c2, if_pos ⟨c2, by rw [c2]; exact ⟨b1, b2⟩⟩, cPart_at nin, c2]; omega
                · rw [if_neg c2, if_neg (fun w => c2 w.1)]
              · rw [if_neg c, if_neg c, if_neg c]
            · walk_at "go"
              exact ⟨_, _, K5, ed5, eD5, old (fun w => b2 w.2), rfl⟩
          · walk_at "go"
            exact ⟨_, _, K5, ed5, eD5, old (fun w => b1 w.1), rfl⟩
        · rintro σ H4 ⟨a10, a11, K4, ed4, eD4, ok4, rfl⟩
          refine ⟨d, od, .dK kvI, nf, ed4, kvs2, _, _, _, _, _, _, _, fun b o e => ?_, by rw [upd_ne ndD.symm]; exact eD4, ?_, rfl⟩
          · by_cases c : b = d
            · rw [c] at e
              rw [c, upd_same, own o e]
            · rw [upd_ne c]
              exact K4 b o c e
          · refine (ok4.heap fun q kv _ e => ?_).congr fun n u => ?_
            · rw [upd_ne (fun w => by rw [w, ed4] at e; cases e)]; exact e
            · rw [cNext_snoc]
              by_cases c : n = s0.e
              · rw [if_pos c, cPart_full okI, c]
                by_cases b : lo ≤ u ∧ u ≤ hi
                · rw [if_pos b, if_pos ⟨rfl, b⟩]
                · rw [if_neg b, if_neg (fun w => b w.2)]
              · rw [if_neg c, if_neg (fun w => c w.1.symm)]
                rfl
    · rintro σ H1 ⟨kvs', a5, a6, a7, a8, a9, a10, a11, z, eD, ok, rfl⟩
      walk_at "go"
      rw [hs.1, List.take_length] at ok
      exact k D kvs' H1 z hD eD ok
end
/-! ### the numbers of all tallies of one length -/
def sp_numbersC (K : PySem.W.Frag) (C : Addr) : Sp := fun vs H Q _ => ∃ (x : Addr) (m : MD) (L : Nat) (lo hi : Int) (T : List Int), vs = [.ref x, .int (L : Nat), .int lo, .int hi] ∧ MAt K C H x m ∧ m.Ok ∧ L ≤ 100 ∧
  T.length < sizeLine ∧ (∀ n ≤ L, ∀ k u, cLev lo hi m.ss n k u ≠ 0 → u ∈ T) ∧
  ∀ p kv H', Same H H' → H p = none → H' p = some (.dK kv) → CntD kv (cEnds lo hi m L m.es) → Q (.ref p) H'
theorem cEnds_snoc (lo hi : Int) (m : MD) (L : Nat) (es : List Nat) (e : Nat) (t : Int) : cEnds lo hi m L (es ++ [e]) t = cEnds lo hi m L es t + cLev lo hi m.ss L e t := by
  unfold cEnds
  rw [List.map_append, List.sum_append]
  simp
theorem cEnds_pos {lo hi : Int} {m : MD} {L : Nat} {es : List Nat} {t : Int} (h : cEnds lo hi m L es t ≠ 0) : ∃ e, cLev lo hi m.ss L e t ≠ 0 := by
  induction es with
  | nil => exact absurd rfl h
  | cons e es ih =>
    by_cases c : cLev lo hi m.ss L e t = 0
    · refine ih ?_
      unfold cEnds at h ⊢
      rw [List.map_cons, List.sum_cons, c] at h
      omega
    · exact ⟨e, c⟩
section
variable {P : Program} {w : World} {K : PySem.W.Frag} {mg : Str → Option Value} {base : Heap}
theorem ok_numbers (T : Txt K mg) : FnOk P w K mg base (L2.CX P w) 3 T.a_numbers T.fd_numbers ["machine", "length", "low", "high"] (sp_numbersC K T.c_Machine) := by
  refine T.F_numbers.okX sc_numbers (fun vs H Q E h => ?_) (fun cdv A outer s H vs Q E hr h => ?_)
  · obtain ⟨x, m, L, lo, hi, Tl, rfl, _⟩ := h
    rfl
  · obtain ⟨x, m, L, lo, hi, Tl, rfl, hm, o, hL, lT, hT, k⟩ := h
    obtain ⟨dx, tt, u, hx, hp0⟩ := id hm
    have n8 := o.n8
    have n1 := o.n1
    refine ⟨_, (PSs.nox (C8.pss_cut (ps_set (i := 4) sc_numbers.nd rfl (Or.inl rfl) (pe_ifExp (pt_chain op_le op_le (pv 2) pe_int (pv 3)) (pe_disp (pps_cons pe_int (pe_disp (pps_cons pe_int pe_int pps_nil) (by rfl) (by rfl) (fun z => by cases z) (by decide)) pps_nil) (by rfl) (by rfl) (fun z => by cases z) (by decide)) pe_dnewK))
  (pss_cons (ps_for PassesOwn.never rfl (pi_range1 (by rfl) T.z_range (pa_cons (pv 1) pa_nil)) (pg_name (i := 5) sc_numbers.nd rfl (Or.inl rfl))
  (pss_one (ps_set (i := 4) sc_numbers.nd rfl (Or.inl rfl) (pe_call (ok_longer T) (hr.mono (by decide)) (by rfl) T.m_longer T.k_longer T.b_longer .nil passL (pa_cons (pe_prop (pv 0) T.cl_Machine T.p_steps (ok_Machine_steps T) (hr.mono (by decide)) T.b_Machine_steps .nil passL rfl) (pa_cons (pv 4) (pa_cons (pv 2) (pa_cons (pv 3) pa_nil))))))))
  (pss_cons (ps_set (i := 6) sc_numbers.nd rfl (Or.inl rfl) pe_dnewK)
  (pss_cons (ps_for PassesOwn.never rfl (pi_tup (pe_prop (pv 0) T.cl_Machine T.p_ends (ok_Machine_ends T) (hr.mono (by decide)) T.b_Machine_ends .nil passL rfl)) (pg_name (i := 7) sc_numbers.nd rfl (Or.inl rfl))
  (pss_one (ps_open (ps_for PassesOwn.never rfl (pi_items (pe_lk (pe_dget2 (hu_of hr) (pv 4) (pv 7) pe_dnewK ⟨by rfl, by rfl, by rfl, by rfl⟩))) (pg_tup rfl (pgs_cons (pg_name (i := 8) sc_numbers.nd rfl (Or.inl rfl)) (pgs_cons (pg_name (i := 9) sc_numbers.nd rfl (Or.inl rfl)) pgs_nil)))
  (pss_one (ps_dput (hu_of hr) (pv 6) (pv 8) (pe_op op_add (pe_dget2 (hu_of hr) (pv 6) (pv 8) pe_int ⟨by rfl, by rfl, by rfl, by rfl⟩) (pv 9)) rfl))))))
  (pss_one (ps_ret (pv 6)))))))), ?_⟩
    walk_at "begin"
    -- the numbers of no letter
    refine k_cut (fun σ' H' => ∃ r kvs, Same H H' ∧ H' r = some (.dK kvs) ∧ DD H' kvs (cLev lo hi m.ss 0) (fun _ => True) m.n ∧ σ' = [some (.ref x), some (.int (L : Nat)), some (.int lo), some (.int hi), some (.ref r), none, none, none, none, none]) ?_ ?_
    · walk_at "go"
      refine k_chain ?_
      walk_at "go"
      have dz : ¬ (lo ≤ 0 ∧ 0 ≤ hi) → ∀ n t, (0 : Nat) = cLev lo hi m.ss 0 n t := fun c n t => by
        show 0 = if n = 0 ∧ t = 0 ∧ lo ≤ 0 ∧ 0 ≤ hi then 1 else 0
        rw [if_neg (fun w => c w.2.2)]
      refine k_ite (fun c1 => ?_) (fun c1 => ?_)
      · walk_at "go"
        refine k_ite (fun c2 => ?_) (fun c2 => ?_)
        · refine k_disp fun p hp => ?_
          walk_at "go"
          intro p2 hp2
          walk_at "go"
          have n12 : p ≠ p2 := ne_of_none upd_same hp2
          refine ⟨upd_same, [(.inl 0, .int 1)], rfl, (by decide : 1 ≤ 15), ?_⟩
          rw [show mergeK [] [((.inl 0 : Key), V.int 1)] = [(.inl 0, .int 1)] from rfl]
          walk_at "go"
          refine ⟨by rw [upd_ne n12, upd_ne n12, upd_same], [(.inl 0, .ref p2)], rfl, (by decide : 1 ≤ 15), ?_⟩
          rw [show mergeK [] [((.inl 0 : Key), V.ref p2)] = [(.inl 0, .ref p2)] from rfl]
          have hp20 : H p2 = none := by rw [upd_ne n12.symm] at hp2; exact hp2
          have vv : ∀ n : Nat, valV [((.inl 0 : Key), V.ref p2)] (.inl (n : Int)) = if n = 0 then some (.ref p2) else none := fun n => by
            by_cases c : n = 0
            · rw [if_pos c, c]; rfl
            · rw [if_neg c]
              exact valV_neg (p := ((.inl 0 : Key), V.ref p2)) fun z => c (by injection z with z; omega)
          walk_at "go"
          refine ⟨p, _, Same.mut (Same.mut (Same.mut (Same.new hp) hp20) hp20) hp, upd_same, ⟨fun q hq => by rw [List.mem_singleton.mp hq]; exact ⟨0, rfl, n1⟩, by simp, fun n => ?_, fun n k q e1 e2 => ?_⟩, rfl⟩
          · by_cases c : n = 0
            · refine .inr ⟨p2, [(.inl 0, .int 1)], by rw [vv, if_pos c], by rw [upd_ne n12.symm, upd_same], CntD.one.congr fun t => ?_, trivial⟩
              show _ = if n = 0 ∧ t = 0 ∧ lo ≤ 0 ∧ 0 ≤ hi then 1 else 0
              by_cases d : t = 0
              · rw [if_pos d, if_pos ⟨c, d, c1, c2⟩]
              · rw [if_neg d, if_neg (fun w => d w.2.1)]
            · refine .inl ⟨by rw [vv, if_neg c], fun t => ?_⟩
              show (if n = 0 ∧ t = 0 ∧ lo ≤ 0 ∧ 0 ≤ hi then 1 else 0) = 0
              rw [if_neg (fun w => c w.1)]
          · rw [vv] at e1 e2
            by_cases c : n = 0
            · by_cases d : k = 0
              · rw [c, d]
              · rw [if_neg d] at e2; cases e2
            · rw [if_neg c] at e1; cases e1
        · intro p hp
          walk_at "go"
          exact ⟨p, [], Same.new hp, upd_same, DD.nil.congr (dz fun w => c2 w.2), rfl⟩
      · walk_at "go"
        refine iteF ?_
        intro p hp
        walk_at "go"
        exact ⟨p, [], Same.new hp, upd_same, DD.nil.congr (dz fun w => c1 w.1), rfl⟩
    · rintro σ' H1 ⟨r, kvs, z1, er, d0, rfl⟩
      walk_at "go"
      refine k_rg (by omega) (by omega) ?_
      refine for_range (lo := 0) (n := ((L : Nat) : Int).toNat) (fun i σ H' => ∃ r kvs a5, Same H H' ∧ H' r = some (.dK kvs) ∧ DD H' kvs (cLev lo hi m.ss i) (fun _ => True) m.n ∧ σ = [some (.ref x), some (.int (L : Nat)), some (.int lo), some (.int hi), some (.ref r), a5, none, none, none, none]) ⟨r, kvs, _, z1, er, d0, rfl⟩ ?_ ?_
      · rintro i σ H2 hi2 ⟨r, kvs, a5, z, er, dd, rfl⟩
        have iL : i < L := hi2
        walk_at "go"
        refine ⟨x, dx, _, rfl, z _ _ hx, x, dx, _, .ref tt, rfl, z _ _ hx, rfl, ?_⟩
        walk_at "go"
        refine ⟨tt, r, lo, hi, m.n, m.ss, _, kvs, _, Tl, rfl, (same_tups z).stAt hp0.1, o.sok, er, dd, lT, fun k u h => hT (i + 1) (by omega) k u h, fun p kvs' H3 z3 hp ep dd3 => ?_⟩
        walk_at "go"
        exact ⟨p, kvs', _, z.trans z3, ep, dd3.weak fun _ _ => trivial, rfl⟩
      · rintro σ H2 ⟨r, kvs, a5, z, er, dd, rfl⟩
        rw [show (((L : Nat) : Int)).toNat = L from rfl] at dd
        walk_at "go"
        intro p hp
        walk_at "go"
        have zp := Same.new (o := .dK []) hp
        refine ⟨x, dx, _, rfl, zp _ _ (z _ _ hx), x, dx, _, .ref u, rfl, zp _ _ (z _ _ hx), rfl, ?_⟩
        walk_at "go"
        refine ⟨u, rfl, ⟨_, (same_tups (z.trans zp)).sq hp0.2⟩, for_tup (xs := nats m.es) (fun i σ H' => ∃ kvF a7 a8 a9, Same H2 H' ∧ H' p = some (.dK kvF) ∧ CntD kvF (cEnds lo hi m L (m.es.take i)) ∧
          σ = [some (.ref x), some (.int (L : Nat)), some (.int lo), some (.int hi), some (.ref r), a5, some (.ref p), a7, a8, a9]) ⟨[], _, _, _, zp, upd_same, CntD.nil, rfl⟩ (fun i σ H' _ ⟨_, _, _, _, z2, _⟩ => (same_tups (z.trans z2)).sq hp0.2) ?_ ?_⟩
        · rintro i y σ H3 hy ⟨kvF, a7, a8, a9, z3, ep, okF, rfl⟩
          obtain ⟨en, een, rfl⟩ := nats_at hy
          have tk : m.es.take (i + 1) = m.es.take i ++ [en] := by rw [List.take_add_one, een]; rfl
          rw [tk]
          generalize m.es.take i = ea at okF
          walk_at "go"
          refine k_open ?_
          walk_at "go"
          refine k_items (k_lk (k_dget2 ?_))
          walk_at "go"
          refine ⟨r, rfl, .inl ⟨_, .inl (z3 _ _ er)⟩, ?_⟩
          walk_at "go"
          intro n1 hn1
          obtain ⟨d, kvI, dg, ed, okI, own, ndp⟩ : ∃ (d : Addr) (kvI : List (Key × V)), (∃ o, DGet (upd H3 n1 (.dK [])) r (.int (en : Nat)) o ∧ o.getD (.ref n1) = .ref d) ∧ (upd H3 n1 (.dK [])) d = some (.dK kvI) ∧ CntD kvI (cLev lo hi m.ss L en) ∧
              (∀ o, H2 d = some o → o = .dK kvI) ∧ d ≠ p := by
            have dg := DGet.k (k := .inl (en : Int)) (H := upd H3 n1 (.dK [])) ((Same.new hn1) _ _ (z3 _ _ er))
            rcases dd.at_ en with ⟨v0, f0⟩ | ⟨q, kv, v1, hq1, c1, _⟩
            · rw [v0] at dg
              exact ⟨n1, [], ⟨none, dg, rfl⟩, upd_same, CntD.nil.congr fun t => (f0 t).symm, (fun o e => by rw [free_of z3 hn1] at e; cases e), (ne_of_none ep hn1).symm⟩
            · rw [v1] at dg
              exact ⟨q, kv, ⟨some (.ref q), dg, rfl⟩, (Same.new hn1) _ _ (z3 _ _ hq1), c1, (fun o e => by rw [hq1] at e; cases e; rfl), fun w => by rw [w, hp] at hq1; cases hq1⟩
          obtain ⟨ov, dg, eov⟩ := dg
          refine ⟨ov, dg, d, kvI, eov, ed, fun od nf => ⟨d, od, kvI, eov, upd_same, ?_⟩⟩
          have K0 : Keep d H2 (upd (upd H3 n1 (.dK [])) d (.frz od (.dK kvI))) := fun b o n e => by rw [upd_ne n, upd_ne (ne_of_none (z3 _ _ e) hn1)]; exact z3 _ _ e
          have ep0 : (upd (upd H3 n1 (.dK [])) d (.frz od (.dK kvI))) p = some (.dK kvF) := by rw [upd_ne ndp.symm, upd_ne (ne_of_none ep hn1)]; exact ep
          have ed0 : (upd (upd H3 n1 (.dK [])) d (.frz od (.dK kvI))) d = some (.frz od (.dK kvI)) := upd_same
          generalize upd (upd H3 n1 (.dK [])) d (.frz od (.dK kvI)) = H4 at K0 ep0 ed0 ⊢
          clear ed dg eov hn1 ep z3
          refine for_it walk_items (fun j σ H' => ∃ kvF a8 a9, Keep d H2 H' ∧ H' d = some (.frz od (.dK kvI)) ∧ H' p = some (.dK kvF) ∧ CntD kvF (fun t => cEnds lo hi m L ea t + cntOf (kvI.take j) t) ∧
            σ = [some (.ref x), some (.int (L : Nat)), some (.int lo), some (.int hi), some (.ref r), a5, some (.ref p), some (.int (en : Nat)), a8, a9]) ⟨kvF, _, _, K0, ed0, ep0, okF.congr fun t => rfl, rfl⟩ (fun _ _ _ _ ⟨_, _, _, _, e, _⟩ => e) ?_ ?_
          · clear okF K0 ed0 ep0 H4 kvF
            rintro j x1 σ H4 H5 hj ⟨kvF, a8, a9, K4, ed4, ep4, okF, rfl⟩ ⟨Tq, xk, xv, rfl, hTq, rfl, hxk, hxv⟩
            have ej : kvI[j]? = some (kvI[j]'hj) := List.getElem?_eq_getElem hj
            obtain ⟨⟨k0, v0⟩, ekv⟩ : ∃ kv, kvI[j]? = some kv := ⟨_, ej⟩
            have hxk : (kvI[j]?).map (fun kv => kV kv.1) = some xk := hxk
            have hxv : (kvI[j]?).map Prod.snd = some xv := hxv
            rw [ekv] at hxk hxv
            obtain ⟨tk, rfl, rfl, npos, nin⟩ := okI.has ekv
            obtain rfl : xk = V.int tk := (Option.some.inj hxk).symm
            obtain rfl : xv = V.int (cLev lo hi m.ss L en tk : Nat) := (Option.some.inj hxv).symm
            have small : kvF.length < sizeLine := Nat.lt_of_le_of_lt (okF.len (T := Tl) fun t ht => by
              by_cases c : cEnds lo hi m L ea t = 0
              · exact hT L (Nat.le_refl _) en t (okI.take_pos (j := j) (by omega))
              · obtain ⟨e', he'⟩ := cEnds_pos c
                exact hT L (Nat.le_refl _) e' t he') lT
            generalize cLev lo hi m.ss L en tk = n0 at ekv npos
            clear hxk hxv ej
            have zT := Same.new (o := .tup [.int tk, .int (n0 : Nat)]) hTq
            have ed5 := zT _ _ ed4
            have ep5 := zT _ _ ep4
            have K5 : Keep d H2 _ := K4.trans (Keep.of_same zT)
            refine k_gt (SqT.of upd_same) rfl ?_
            generalize upd H4 Tq (.tup [.int tk, .int (n0 : Nat)]) = H5 at ed5 ep5 K5 ⊢
            clear zT ed4 ep4 K4 hTq
            walk_at "go"
            refine k_dget2 ?_
            walk_at "go"
            refine ⟨p, rfl, .inl ⟨_, .inl ep5⟩, ?_⟩
            walk_at "go"
            refine ⟨_, DGet.k (k := .inl tk) ep5, ?_⟩
            have eo : (valV kvF (.inl tk)).getD (.int 0) = .int ((cEnds lo hi m L ea tk + cntOf (kvI.take j) tk : Nat)) := by
              rw [okF.at_]
              by_cases c : cEnds lo hi m L ea tk + cntOf (kvI.take j) tk = 0
              · rw [if_pos c, c]; rfl
              · rw [if_neg c]; rfl
            rw [eo]
            walk_at "go"
            refine ⟨p, _, rfl, DPut.k (k := .inl tk) ep5 small, ?_⟩
            refine ⟨_, _, _, K5.mut hp, by rw [upd_ne ndp]; exact ed5, upd_same, (okF.add npos).congr fun t => ?_, rfl⟩
            rw [cntOf_take ekv nin]
            by_cases c : t = tk
            · rw [if_pos c, if_pos c, cntOf_none nin, c]; omega
            · rw [if_neg c, if_neg c]
          · rintro σ H4 ⟨kvF, a8, a9, K4, ed4, ep4, okF, rfl⟩
            refine ⟨d, od, .dK kvI, nf, ed4, kvF, _, _, _, fun b o e => ?_, by rw [upd_ne ndp.symm]; exact ep4, okF.congr fun t => ?_, rfl⟩
            · by_cases c : b = d
              · rw [c] at e
                rw [c, upd_same, own o e]
              · rw [upd_ne c]
                exact K4 b o c e
            · rw [List.take_length, okI.cnt, cEnds_snoc]
        · rintro σ H3 ⟨kvF, a7, a8, a9, z3, ep, okF, rfl⟩
          have : (nats m.es).length = m.es.length := by unfold nats; rw [List.length_map]
          rw [this, List.take_length] at okF
          walk_at "go"
          exact k p kvF H3 (z.trans z3) (free_of z hp) ep okF
end
/-! ### rows one by one, and their counts -/
structure RC where
  w : Wd
  k : Nat
  xs : List Int
  t : Int
def RC.next (r : RC) (s : Stp) : RC := ⟨r.w ++ [s.c], s.e, r.xs ++ [r.t], r.t + s.g⟩
def rowsC (m : MD) : Nat → List RC
  | 0 => [⟨[], 0, [], 0⟩]
  | n + 1 => (rowsC m n).flatMap fun r => (fromS m r.k).map r.next
def RC.good (lo hi : Int) (r : RC) : Bool := (r.xs ++ [r.t]).all fun x => decide (lo ≤ x ∧ x ≤ hi)
theorem RC.good_next (lo hi : Int) (r : RC) (s : Stp) : (r.next s).good lo hi = (r.good lo hi && decide (lo ≤ r.t + s.g ∧ r.t + s.g ≤ hi)) := by
  unfold RC.good RC.next
  rw [List.all_append]
  simp
theorem from_len {m : MD} (o : m.Ok) (k : Nat) : (fromS m k).length ≤ 4 := by
  have up : ((fromS m k).map (·.c)).Pairwise (· < ·) := by
    rw [List.pairwise_map]
    refine (o.up.filter _).imp_of_mem fun {a b} ha hb h => ?_
    have e1 : a.b = k := by simpa using (List.mem_filter.mp ha).2
    have e2 : b.b = k := by simpa using (List.mem_filter.mp hb).2
    rcases h with h | ⟨_, h⟩
    · omega
    · exact h
  have e : (fromS m k).length = ((fromS m k).map (fun s => s.c - 97)).length := (List.length_map _).symm
  rw [e]
  refine nodup_small ?_ fun x hx => ?_
  · rw [List.pairwise_map] at up
    unfold List.Nodup
    rw [List.pairwise_map]
    refine up.imp_of_mem fun {a b} ha hb h => ?_
    have := (o.ok a (List.mem_filter.mp ha).1).c
    have := (o.ok b (List.mem_filter.mp hb).1).c
    omega
  · obtain ⟨s, hs, rfl⟩ := List.mem_map.mp hx
    have := o.ok s (List.mem_filter.mp hs).1
    have := this.c
    have := (o.ok s (List.mem_filter.mp hs).1).c'
    omega
theorem rowsC_len {m : MD} (o : m.Ok) : ∀ n, (rowsC m n).length ≤ 4 ^ n
  | 0 => Nat.le_refl _
  | n + 1 => by
    show ((rowsC m n).flatMap fun r => (fromS m r.k).map r.next).length ≤ _
    have ih := rowsC_len o n
    generalize rowsC m n = l at ih ⊢
    have : (l.flatMap fun r => (fromS m r.k).map r.next).length ≤ 4 * l.length := by
      clear ih
      induction l with
      | nil => simp
      | cons r l ih =>
        rw [List.flatMap_cons, List.length_append, List.length_map, List.length_cons]
        have := from_len o r.k
        omega
    rw [Nat.pow_succ]
    omega
theorem rowsC_ok {m : MD} (o : m.Ok) : ∀ n, ∀ r ∈ rowsC m n, r.k < m.n ∧ r.w.length = n ∧ r.xs.length = n ∧ (-(10 ^ 30 * (n : Int)) ≤ r.t ∧ r.t ≤ 10 ^ 30 * (n : Int)) ∧ ∀ x ∈ r.xs, -(10 ^ 30 * (n : Int)) ≤ x ∧ x ≤ 10 ^ 30 * (n : Int)
  | 0, r, h => by
    rw [List.mem_singleton.mp h]
    exact ⟨o.n1, rfl, rfl, ⟨by decide, by decide⟩, fun x hx => by cases hx⟩
  | n + 1, r, h => by
    obtain ⟨r0, h0, h1⟩ := List.mem_flatMap.mp h
    obtain ⟨s, hs, rfl⟩ := List.mem_map.mp h1
    obtain ⟨a, b, c, d, e⟩ := rowsC_ok o n r0 h0
    have ok := o.ok s (List.mem_filter.mp hs).1
    have g1 := ok.g
    have g2 := ok.g'
    have en : ((n + 1 : Nat) : Int) = (n : Int) + 1 := by omega
    rw [en]
    refine ⟨ok.e, ?_, ?_, ⟨?_, ?_⟩, fun x hx => ?_⟩
    · show (r0.w ++ [s.c]).length = n + 1
      rw [List.length_append, b]; rfl
    · show (r0.xs ++ [r0.t]).length = n + 1
      rw [List.length_append, c]; rfl
    · show _ ≤ r0.t + s.g
      omega
    · show r0.t + s.g ≤ _
      omega
    · have hx : x ∈ r0.xs ++ [r0.t] := hx
      rcases List.mem_append.mp hx with hx | hx
      · have := e x hx; omega
      · rw [List.mem_singleton.mp hx]; omega
def b2n (b : Bool) : Nat := if b = true then 1 else 0
theorem sum_swap {α β : Type} (l : List α) (ss : List β) (F : α → β → Nat) : (l.map fun r => (ss.map fun s => F r s).sum).sum = (ss.map fun s => (l.map fun r => F r s).sum).sum := by
  induction l with
  | nil =>
    show 0 = _
    induction ss with
    | nil => rfl
    | cons s ss ih =>
      rw [List.map_cons, List.sum_cons, ← ih]
      rfl
  | cons r l ih =>
    rw [List.map_cons, List.sum_cons, ih]
    clear ih
    induction ss with
    | nil => rfl
    | cons s ss ih =>
      simp only [List.map_cons, List.sum_cons] at ih ⊢
      omega
theorem sum_congr {α : Type} {l : List α} {F G : α → Nat} (h : ∀ x ∈ l, F x = G x) : (l.map F).sum = (l.map G).sum := by rw [List.map_congr_left h]
theorem sum_filter {α : Type} (l : List α) (p : α → Bool) (F : α → Nat) : ((l.filter p).map F).sum = (l.map fun x => if p x = true then F x else 0).sum := by
  induction l with
  | nil => rfl
  | cons a l ih =>
    rw [List.map_cons, List.sum_cons, ← ih]
    by_cases c : p a = true
    · rw [List.filter_cons_of_pos c, if_pos c]; rfl
    · rw [List.filter_cons_of_neg c, if_neg c, Nat.zero_add]
theorem sum_flat {α β : Type} (l : List α) (f : α → List β) (F : β → Nat) : ((l.flatMap f).map F).sum = (l.map fun r => ((f r).map F).sum).sum := by
  induction l with
  | nil => rfl
  | cons a l ih => rw [List.flatMap_cons, List.map_append, List.sum_append, ih]; rfl
/-- the rows to a stand with a tally, in bounds all the way -/
def cntR (lo hi : Int) (m : MD) (n k : Nat) (t : Int) : Nat := ((rowsC m n).map fun r => b2n (decide (r.k = k) && decide (r.t = t) && r.good lo hi)).sum
theorem cntR_eq (lo hi : Int) (m : MD) : ∀ n k t, cntR lo hi m n k t = cLev lo hi m.ss n k t
  | 0, k, t => by
    show b2n (decide (0 = k) && decide ((0 : Int) = t) && _) + 0 = if k = 0 ∧ t = 0 ∧ lo ≤ 0 ∧ 0 ≤ hi then 1 else 0
    have g : RC.good lo hi ⟨[], 0, [], 0⟩ = decide (lo ≤ 0 ∧ 0 ≤ hi) := by unfold RC.good; simp
    rw [g]
    unfold b2n
    by_cases c : k = 0 ∧ t = 0 ∧ lo ≤ 0 ∧ 0 ≤ hi
    · rw [if_pos c]
      obtain ⟨rfl, rfl, c⟩ := c
      simp [c]
    · rw [if_neg c, if_neg]
      simp only [Bool.and_eq_true, decide_eq_true_iff]
      exact fun ⟨⟨a, b⟩, d⟩ => c ⟨a.symm, b.symm, d⟩
  | n + 1, k, t => by
    show ((rowsC m (n + 1)).map _).sum = cNext lo hi m.ss (cLev lo hi m.ss n) k t
    show (((rowsC m n).flatMap fun r => (fromS m r.k).map r.next).map _).sum = _
    rw [sum_flat]
    unfold cNext
    have step : ∀ r : RC, (((fromS m r.k).map r.next).map fun r => b2n (decide (r.k = k) && decide (r.t = t) && r.good lo hi)).sum =
        (m.ss.map fun s => if lo ≤ t ∧ t ≤ hi then (if s.e = k then b2n (decide (r.k = s.b) && decide (r.t = t - s.g) && r.good lo hi) else 0) else 0).sum := fun r => by
      unfold fromS
      rw [List.map_map, sum_filter]
      refine sum_congr fun s _ => ?_
      show (if (s.b == r.k) = true then b2n (decide (s.e = k) && decide (r.t + s.g = t) && (r.next s).good lo hi) else 0) = _
      rw [RC.good_next]
      unfold b2n
      by_cases c1 : lo ≤ t ∧ t ≤ hi
      · rw [if_pos c1]
        by_cases c2 : s.e = k
        · rw [if_pos c2]
          by_cases c3 : r.k = s.b
          · rw [if_pos (by rw [c3]; exact beq_self_eq_true _)]
            by_cases c4 : r.t + s.g = t
            · have c5 : r.t = t - s.g := by omega
              rw [c4]
              simp [c1, c2, c3, c5]
            · have c5 : ¬ r.t = t - s.g := by omega
              simp [c4, c5]
          · have c4 : ¬ s.b = r.k := fun z => c3 z.symm
            simp [c3, c4]
        · simp [c2]
      · rw [if_neg c1]
        by_cases c4 : r.t + s.g = t
        · rw [c4, decide_eq_false c1]
          simp
        · simp [c4]
    rw [sum_congr fun r _ => step r, sum_swap]
    by_cases c : lo ≤ t ∧ t ≤ hi
    · rw [if_pos c]
      unfold cSum
      refine sum_congr fun s _ => ?_
      by_cases d : s.e = k
      · rw [if_pos d, ← cntR_eq lo hi m n s.b (t - s.g)]
        unfold cntR
        refine sum_congr fun r _ => ?_
        rw [if_pos c, if_pos d]
      · rw [if_neg d]
        have : ((rowsC m n).map fun r => if lo ≤ t ∧ t ≤ hi then (if s.e = k then b2n (decide (r.k = s.b) && decide (r.t = t - s.g) && r.good lo hi) else 0) else 0).sum = ((rowsC m n).map fun _ => 0).sum := sum_congr fun r _ => by rw [if_pos c, if_neg d]
        rw [this]
        generalize rowsC m n = l
        induction l with
        | nil => rfl
        | cons a l ih => rw [List.map_cons, List.sum_cons, ih]
    · rw [if_neg c]
      have : ∀ (F : Stp → Nat), (∀ s, F s = 0) → ∀ l : List Stp, (l.map F).sum = 0 := fun F h l => by
        induction l with
        | nil => rfl
        | cons a l ih => rw [List.map_cons, List.sum_cons, ih, h]
      refine this _ (fun s => ?_) _
      generalize rowsC m n = l
      induction l with
      | nil => rfl
      | cons a l ih => rw [List.map_cons, List.sum_cons, ih, if_neg c]
theorem cntR_pos {lo hi : Int} {m : MD} {n k : Nat} {t : Int} (h : cntR lo hi m n k t ≠ 0) : ∃ r ∈ rowsC m n, r.k = k ∧ r.t = t ∧ r.good lo hi = true := by
  unfold cntR at h
  generalize rowsC m n = l at h ⊢
  induction l with
  | nil => exact absurd rfl h
  | cons r l ih =>
    by_cases c : (decide (r.k = k) && decide (r.t = t) && r.good lo hi) = true
    · simp only [Bool.and_eq_true, decide_eq_true_iff] at c
      exact ⟨r, List.mem_cons_self, c.1.1, c.1.2, c.2⟩
    · have e : b2n (decide (r.k = k) && decide (r.t = t) && r.good lo hi) = 0 := by unfold b2n; rw [if_neg c]
      rw [List.map_cons, List.sum_cons, e, Nat.zero_add] at h
      obtain ⟨r', hr, q⟩ := ih h
      exact ⟨r', List.mem_cons_of_mem _ hr, q⟩
/-- the tallies of all rows up to a length -/
def allT (m : MD) (L : Nat) : List Int := (List.range (L + 1)).flatMap fun n => (rowsC m n).map (·.t)
theorem allT_has {lo hi : Int} {m : MD} {L n k : Nat} {t : Int} (hn : n ≤ L) (h : cLev lo hi m.ss n k t ≠ 0) : t ∈ allT m L := by
  rw [← cntR_eq] at h
  obtain ⟨r, hr, _, e, _⟩ := cntR_pos h
  exact List.mem_flatMap.mpr ⟨n, List.mem_range.mpr (by omega), List.mem_map.mpr ⟨r, hr, e⟩⟩
theorem allT_len {m : MD} (o : m.Ok) {L : Nat} (h : L ≤ 6) : (allT m L).length < sizeLine := by
  have : ∀ k, k ≤ 7 → ((List.range k).flatMap fun n => (rowsC m n).map (·.t)).length ≤ k * 4096 := fun k => by
    induction k with
    | zero => exact fun _ => Nat.le_refl _
    | succ k ih =>
      intro hk
      rw [List.range_succ, List.flatMap_append, List.length_append]
      have a := ih (by omega)
      have b := rowsC_len o k
      have c : 4 ^ k ≤ 4 ^ 6 := Nat.pow_le_pow_right (by decide) (by omega)
      have e : ([k].flatMap fun n => (rowsC m n).map (·.t)).length = (rowsC m k).length := by simp
      rw [e]
      have : (4 : Nat) ^ 6 = 4096 := by decide
      omega
  exact Nat.lt_of_le_of_lt (this (L + 1) (by omega)) (Nat.lt_of_le_of_lt (show (L + 1) * 4096 ≤ 7 * 4096 from Nat.mul_le_mul_right _ (by omega)) (by decide))
theorem CntD.list {kv : List (Key × V)} {g : Int → Nat} (h : CntD kv g) : ∃ ts : List Int, kv = ts.map (fun t => ((.inl t : Key), V.int (g t : Nat))) ∧ ts.Nodup ∧ ∀ t, t ∈ ts ↔ g t ≠ 0 := by
  have all : ∀ p ∈ kv, ∃ t : Int, p = ((.inl t : Key), V.int (g t : Nat)) := fun p hp => by
    obtain ⟨i, hi⟩ := List.getElem?_of_mem hp
    obtain ⟨t, et, ev, _, _⟩ := h.has (k := p.1) (v := p.2) hi
    exact ⟨t, by rw [← et, ← ev]⟩
  obtain ⟨ts, e⟩ : ∃ ts : List Int, kv = ts.map (fun t => ((.inl t : Key), V.int (g t : Nat))) := by
    clear h
    induction kv with
    | nil => exact ⟨[], rfl⟩
    | cons p kv ih =>
      obtain ⟨t, et⟩ := all p List.mem_cons_self
      obtain ⟨ts, e⟩ := ih fun q hq => all q (List.mem_cons_of_mem _ hq)
      exact ⟨t :: ts, by rw [List.map_cons, ← et, ← e]⟩
  refine ⟨ts, e, ?_, fun t => ⟨fun ht => ?_, fun ht => ?_⟩⟩
  · have nd := h.nd
    rw [e, List.map_map] at nd
    unfold List.Nodup at nd ⊢
    rw [List.pairwise_map] at nd
    exact nd.imp fun {a b} q z => q (by rw [z])
  · have hm : ((.inl t : Key), V.int (g t : Nat)) ∈ kv := by rw [e]; exact List.mem_map.mpr ⟨t, ht, rfl⟩
    obtain ⟨i, hi⟩ := List.getElem?_of_mem hm
    obtain ⟨t', et, _, pos, _⟩ := h.has hi
    have : t = t' := by injection et
    rw [this]
    omega
  · have q := h.at_ t
    rw [if_neg ht] at q
    have a := valV_any (.inl t : Key) kv
    rw [q] at a
    obtain ⟨p, hm, hd⟩ := List.any_eq_true.mp (a.trans rfl)
    rw [e] at hm
    obtain ⟨t', ht', rfl⟩ := List.mem_map.mp hm
    have : t' = t := by
      have z : (Sum.inl t' : Key) = .inl t := of_decide_eq_true hd
      injection z
    rw [← this]
    exact ht'
theorem sum_one {α : Type} [DecidableEq α] (a : α) : ∀ {l : List α}, l.Nodup → (l.map fun x => b2n (decide (a = x))).sum = b2n (decide (a ∈ l))
  | [], _ => by simp [b2n]
  | x :: l, h => by
    have q := List.nodup_cons.mp h
    rw [List.map_cons, List.sum_cons, sum_one a q.2]
    unfold b2n
    by_cases c : a = x
    · subst c
      simp [q.1]
    · simp [c]
/-- all rows that end well, in bounds all the way -/
def stayR (lo hi : Int) (m : MD) (n : Nat) : Nat := ((rowsC m n).map fun r => b2n (decide (r.k ∈ m.es) && r.good lo hi)).sum
theorem cEnds_rows (lo hi : Int) (m : MD) (nd : m.es.Nodup) (n : Nat) (t : Int) : cEnds lo hi m n m.es t = ((rowsC m n).map fun r => b2n (decide (r.k ∈ m.es) && decide (r.t = t) && r.good lo hi)).sum := by
  unfold cEnds
  have : (m.es.map fun e => cLev lo hi m.ss n e t).sum = (m.es.map fun e => ((rowsC m n).map fun r => b2n (decide (r.k = e) && decide (r.t = t) && r.good lo hi)).sum).sum := sum_congr fun e _ => (cntR_eq lo hi m n e t).symm
  rw [this, ← sum_swap]
  refine sum_congr fun r _ => ?_
  by_cases c : (decide (r.t = t) && r.good lo hi) = true
  · have e1 : (m.es.map fun e => b2n (decide (r.k = e) && decide (r.t = t) && r.good lo hi)) = m.es.map fun e => b2n (decide (r.k = e)) := List.map_congr_left fun e _ => by rw [Bool.and_assoc, c, Bool.and_true]
    rw [e1, sum_one _ nd, Bool.and_assoc, c, Bool.and_true]
  · have e1 : (m.es.map fun e => b2n (decide (r.k = e) && decide (r.t = t) && r.good lo hi)) = m.es.map fun _ => 0 := List.map_congr_left fun e _ => by rw [Bool.and_assoc, (Bool.eq_false_iff.mpr c), Bool.and_false]; rfl
    rw [e1, Bool.and_assoc, (Bool.eq_false_iff.mpr c), Bool.and_false]
    generalize m.es = l
    clear e1 this nd
    induction l with
    | nil => rfl
    | cons a l ih => rw [List.map_cons, List.sum_cons, ih]; rfl
theorem stay_sum {lo hi : Int} {m : MD} (nd : m.es.Nodup) {n : Nat} {ts : List Int} (nt : ts.Nodup) (h : ∀ t, t ∈ ts ↔ cEnds lo hi m n m.es t ≠ 0) : (ts.map fun t => cEnds lo hi m n m.es t).sum = stayR lo hi m n := by
  have e : (ts.map fun t => cEnds lo hi m n m.es t).sum = (ts.map fun t => ((rowsC m n).map fun r => b2n (decide (r.k ∈ m.es) && decide (r.t = t) && r.good lo hi)).sum).sum := sum_congr fun t _ => cEnds_rows lo hi m nd n t
  rw [e, ← sum_swap]
  unfold stayR
  refine sum_congr fun r hr => ?_
  by_cases c : (decide (r.k ∈ m.es) && r.good lo hi) = true
  · have e1 : (ts.map fun t => b2n (decide (r.k ∈ m.es) && decide (r.t = t) && r.good lo hi)) = ts.map fun t => b2n (decide (r.t = t)) := List.map_congr_left fun t _ => by
      rw [Bool.and_right_comm, c, Bool.true_and]
    rw [e1, sum_one _ nt, c]
    have : r.t ∈ ts := (h r.t).mpr fun z => by
      rw [cEnds_rows lo hi m nd] at z
      have : ∀ l : List RC, r ∈ l → (l.map fun r' => b2n (decide (r'.k ∈ m.es) && decide (r'.t = r.t) && r'.good lo hi)).sum ≠ 0 := fun l hl => by
        induction l with
        | nil => cases hl
        | cons a l ih =>
          rw [List.map_cons, List.sum_cons]
          rcases List.mem_cons.mp hl with rfl | hl
          · rw [Bool.and_right_comm, c, Bool.true_and, decide_eq_true rfl]
            show 1 + _ ≠ 0
            omega
          · have := ih hl
            omega
      exact this _ hr z
    rw [decide_eq_true this]
  · have e1 : (ts.map fun t => b2n (decide (r.k ∈ m.es) && decide (r.t = t) && r.good lo hi)) = ts.map fun _ => 0 := List.map_congr_left fun t _ => by rw [Bool.and_right_comm, (Bool.eq_false_iff.mpr c), Bool.false_and]; rfl
    rw [e1, Bool.eq_false_iff.mpr c]
    generalize ts = l
    clear e1 e nt h
    induction l with
    | nil => rfl
    | cons a l ih => rw [List.map_cons, List.sum_cons, ih]; rfl
/-! ### a number in its range; count_staying -/
def sp_cnumber : Sp := fun vs H Q _ => ∃ i lo hi : Int, vs = [.int i, .int lo, .int hi] ∧ lo ≤ i ∧ i ≤ hi ∧ Q .non H
def sp_cstay (K : PySem.W.Frag) (C : Addr) : Sp := fun vs H Q _ => ∃ (x : Addr) (m : MD) (L : Nat) (lo hi : Int), vs = [.ref x, .int (L : Nat), .int lo, .int hi] ∧ MAt K C H x m ∧ m.Ok ∧ L ≤ 12 ∧ -(10 ^ 40) ≤ lo ∧ lo ≤ hi ∧ hi ≤ 10 ^ 40 ∧
  (∃ T : List Int, T.length < sizeLine ∧ ∀ n ≤ L, ∀ k u, cLev lo hi m.ss n k u ≠ 0 → u ∈ T) ∧ ∀ H', Same H H' → Q (.int (stayR lo hi m L : Nat)) H'
theorem sum_cast (l : List Nat) : (l.map fun n : Nat => (n : Int)).sum = (l.sum : Nat) := by
  induction l with
  | nil => rfl
  | cons a l ih => rw [List.map_cons, List.sum_cons, List.sum_cons, ih]; omega
theorem MD.Ok.nde {m : MD} (o : m.Ok) : m.es.Nodup := o.eu.imp fun {a b} h => Nat.ne_of_lt h
section
variable {P : Program} {w : World} {K : PySem.W.Frag} {mg : Str → Option Value} {base : Heap}
theorem ok_check_number (T : Txt K mg) : FnOk P w K mg base (L2.CX P w) 3 T.a_check_number T.fd_check_number ["value", "least", "most"] sp_cnumber := by
  refine T.F_check_number.okX sc_check_number (fun vs H Q E h => ?_) (fun cdv A outer s H vs Q E hr h => ?_)
  · obtain ⟨i, lo, hi, rfl, _⟩ := h
    rfl
  · obtain ⟨i, lo, hi, rfl, h1, h2, k⟩ := h
    refine ⟨_, (PSs.nox (pss_one (ps_if (pt_not (pt_val (pe_call (ok_is_integer_between T) (hr.mono (by decide)) (by rfl) T.m_is_integer_between T.k_is_integer_between T.b_is_integer_between .nil passL (pa_cons (pv 0) (pa_cons (pv 1) (pa_cons (pv 2) pa_nil))))))
  (pss_one ps_never)
  pss_nil))), ?_⟩
    walk_at "begin"
    walk_at "go"
    refine ⟨_, _, _, rfl, .inl ⟨i, rfl, ?_⟩⟩
    rw [decide_eq_true (show lo ≤ i ∧ i ≤ hi from ⟨h1, h2⟩)]
    walk_at "go"
    refine iteF ?_
    walk_at "go"
    exact k
theorem ok_count_staying (T : Txt K mg) : FnOk P w K mg base (L2.CX P w) 6 T.a_count_staying T.fd_count_staying ["machine", "length", "low", "high"] (sp_cstay K T.c_Machine) := by
  refine T.F_count_staying.okX sc_count_staying (fun vs H Q E h => ?_) (fun cdv A outer s H vs Q E hr h => ?_)
  · obtain ⟨x, m, L, lo, hi, rfl, _⟩ := h
    rfl
  · obtain ⟨x, m, L, lo, hi, rfl, hm, o, hL, b1, b2, b3, ⟨Tl, lT, hT⟩, k⟩ := h
    obtain ⟨dx, tt, u, hx, hp0⟩ := id hm
    refine ⟨_, (PSs.nox (pss_cons (ps_expr (pe_call (ok_check_machine T) (hr.mono (by decide)) (by rfl) T.m_check_machine T.k_check_machine T.b_check_machine .nil passL (pa_cons (pv 0) pa_nil)))
  (pss_cons (ps_expr (pe_call (ok_check_number T) (hr.mono (by decide)) (by rfl) T.m_check_number T.k_check_number T.b_check_number .nil passL (pa_cons (pv 1) (pa_cons pe_int (pa_cons (pe_glob (by rfl) T.m_MOST_LENGTH T.r_MOST_LENGTH) pa_nil)))))
  (pss_cons (ps_expr (pe_call (ok_check_bounds T) (hr.mono (by decide)) (by rfl) T.m_check_bounds T.k_check_bounds T.b_check_bounds .nil passL (pa_cons (pv 2) (pa_cons (pv 3) (pa_cons (pe_glob (by rfl) T.m_MOST_NUMBER T.r_MOST_NUMBER) pa_nil)))))
  (pss_one (ps_ret (pe_sumVals rfl (pe_call (ok_numbers T) (hr.mono (by decide)) (by rfl) T.m_numbers T.k_numbers T.b_numbers .nil passL (pa_cons (pv 0) (pa_cons (pv 1) (pa_cons (pv 2) (pa_cons (pv 3) pa_nil))))) (by rfl) T.z_sum))))))), ?_⟩
    walk_at "begin"
    walk_at "go"
    refine ⟨x, dx, _, rfl, hx, ?_⟩
    walk_at "go"
    refine ⟨_, _, _, rfl, by omega, by omega, ?_⟩
    walk_at "go"
    refine ⟨_, _, _, rfl, by omega, by omega, by omega, ?_⟩
    walk_at "go"
    refine k_sumV ?_
    walk_at "go"
    refine ⟨x, m, L, lo, hi, Tl, rfl, hm, o, by omega, lT, hT, fun p kv H1 z1 hp ep cd => ?_⟩
    obtain ⟨ts, e, nd, hts⟩ := cd.list
    refine ⟨p, kv, (ts.map fun t => (cEnds lo hi m L m.es t : Nat)).map fun n : Nat => (n : Int), rfl, ep, ?_, ?_⟩
    · rw [e, List.map_map, List.map_map, List.map_map]
      rfl
    · rw [sum_cast, stay_sum o.nde nd hts]
      exact k H1 z1
end
/-! ### {(a, b): v for .. in .. for .. in ..}: two clauses, keys that are tuples -/
section
variable {prog : Program} {w : World} {A : Around} {R : Result → Shared → Prop} {s : Shared} {kx vx ta ia tb ib : Expr} {fa fb : List Expr} {sc : Scope} {pos : Pos} {it : Value} {D : Addr} {env : Env}
theorem turnD2_a (kx vx ta ia tb ib : Expr) (fa fb : List Expr) (sc : Scope) (pos : Pos) (it acc : Value) (env : Env) : compTurn (.DictComp kx vx [⟨ta, ia, fa, 0⟩, ⟨tb, ib, fb, 0⟩] sc pos) 0 it acc env = (do
    standAt ia.pos
    match ← pyNext it with
    | none => pure (.done .next)
    | some v =>
      letOwnedTupleGo ta it v
      assign ta env v
      let mut ok := true
      for c in fa do
        if ok then ok ← isTrue c env (eval c env)
      if ok then
        let x ← eval ib env
        standAt ib.pos
        let x ← foldedSetIterable ib env x
        let _ ← runOwn (.compStart (.DictComp kx vx [⟨ta, ia, fa, 0⟩, ⟨tb, ib, fb, 0⟩] sc pos) 1 (← holding [x] (pyIter x)) acc env) env
      again (.compLoop (.DictComp kx vx [⟨ta, ia, fa, 0⟩, ⟨tb, ib, fb, 0⟩] sc pos) 0 it acc env)) := by rfl
theorem turnD2_b (kx vx ta ia tb ib : Expr) (fa fb : List Expr) (sc : Scope) (pos : Pos) (it : Value) (D : Addr) (env : Env) : compTurn (.DictComp kx vx [⟨ta, ia, fa, 0⟩, ⟨tb, ib, fb, 0⟩] sc pos) 1 it (.ref D) env = (do
    standAt ib.pos
    match ← pyNext it with
    | none => pure (.done .next)
    | some v =>
      letOwnedTupleGo tb it v
      assign tb env v
      let mut ok := true
      for c in fb do
        if ok then ok ← isTrue c env (eval c env)
      if ok then
        (do
          let kv ← eval kx env
          let vv ← holding [kv] (eval vx env)
          standAt { kx.pos with endLine := vx.pos.endLine, endCol := vx.pos.endCol }
          holding [kv, vv] (dictSet D kv vv))
      again (.compLoop (.DictComp kx vx [⟨ta, ia, fa, 0⟩, ⟨tb, ib, fb, 0⟩] sc pos) 1 it (.ref D) env)) := by rfl
abbrev NB (prog : Program) (w : World) (A : Around) (env : Env) (R : Result → Shared → Prop) : Value → Shared → Prop := notedBy (model prog w) A env fun e s' => R (.error e) s'
theorem loopD2_a (hs : ∀ x, foldedSetIterable ib env x = pure x) (J : Nat → Shared → Prop)
    (one : ∀ n s, J n s → wpAny (model prog w) A (pyNext it) (fun r s1 => match r with
      | none => R (.ok .next) s1
      | some v => wpAny (model prog w) A (letOwnedTupleGo ta it v) (fun _ s2 => wpAny (model prog w) A (assign ta env v) (fun _ s3 =>
          wpAny (model prog w) A (forIn fa true fun c r => if r = true then do let ok ← isTrue c env (eval c env); pure (ForInStep.yield ok) else pure (ForInStep.yield r)) (fun ok s4 =>
            if ok = true then wpAny (model prog w) A (eval ib env) (fun x s5 => wpAny (model prog w) A (pyIter x) (fun it2 s6 =>
              codeAny (model prog w) A (.compStart (.DictComp kx vx [⟨ta, ia, fa, 0⟩, ⟨tb, ib, fb, 0⟩] sc pos) 1 it2 (.ref D) env) (fun r s' => match r with
                | .ok _ => ∃ m, m < n ∧ J m s'
                | .error _ => False) s6) (NB prog w A env R) s5) (NB prog w A env R) s4
            else ∃ m, m < n ∧ J m s4) (NB prog w A env R) s3) (NB prog w A env R) s2) (NB prog w A env R) s1) (NB prog w A env R) s)
    (n : Nat) (h : J n s) : codeAny (model prog w) A (.compLoop (.DictComp kx vx [⟨ta, ia, fa, 0⟩, ⟨tb, ib, fb, 0⟩] sc pos) 0 it (.ref D) env) R s := by
  refine codeAny_loop rfl J ?_ n h
  intro n s hJ
  show wpAny _ A ((compTurn (.DictComp kx vx [⟨ta, ia, fa, 0⟩, ⟨tb, ib, fb, 0⟩] sc pos) 0 it (.ref D) env).onRaise (fun x => do noteFrame x env; theTreesLotGoes x)) _ _ s
  refine wpAny_noted ?_
  rw [turnD2_a]
  refine wpAny_bind (wpAny_standAt (wpAny_bind (wpAny_mono (one n s hJ) ?_ fun _ _ z => z)))
  intro r s1 h1
  cases r with
  | none => exact wpAny_pure h1
  | some v =>
    refine wpAny_bind (wpAny_mono h1 ?_ fun _ _ z => z)
    intro _ s2 h2
    refine wpAny_bind (wpAny_mono h2 ?_ fun _ _ z => z)
    intro _ s3 h3
    refine wpAny_bind (wpAny_mono h3 ?_ fun _ _ z => z)
    intro ok s4 h4
    cases ok with
    | false => exact wpAny_pure ⟨rfl, h4⟩
    | true =>
      refine wpAny_bind (wpAny_mono h4 ?_ fun _ _ z => z)
      intro x s5 h5
      refine wpAny_bind (wpAny_standAt (wpAny_bind (wpAny_of_eq (hs x) (wpAny_bind (wpAny_holding (wpAny_mono h5 ?_ fun _ _ z => z))))))
      intro it2 s6 h6
      refine wpAny_bind (wpAny_runOwn ?_)
      rw [Around.mark_none]
      refine codeAny_mono h6 ?_
      intro r s' hr
      cases r with
      | error e => exact hr.elim
      | ok f => first | exact wpAny_pure ⟨rfl, hr⟩ | exact wpAny_bind (wpAny_pure (wpAny_pure ⟨rfl, hr⟩))
theorem loopD2_b (J : Nat → Shared → Prop)
    (one : ∀ n s, J n s → wpAny (model prog w) A (pyNext it) (fun r s1 => match r with
      | none => R (.ok .next) s1
      | some v => wpAny (model prog w) A (letOwnedTupleGo tb it v) (fun _ s2 => wpAny (model prog w) A (assign tb env v) (fun _ s3 =>
          wpAny (model prog w) A (forIn fb true fun c r => if r = true then do let ok ← isTrue c env (eval c env); pure (ForInStep.yield ok) else pure (ForInStep.yield r)) (fun ok s4 =>
            if ok = true then wpAny (model prog w) A (eval kx env) (fun kv s5 => wpAny (model prog w) A (eval vx env) (fun vv s6 =>
              wpAny (model prog w) A (dictSet D kv vv) (fun _ s7 => ∃ m, m < n ∧ J m s7) (NB prog w A env R) s6) (NB prog w A env R) s5) (NB prog w A env R) s4
            else ∃ m, m < n ∧ J m s4) (NB prog w A env R) s3) (NB prog w A env R) s2) (NB prog w A env R) s1) (NB prog w A env R) s)
    (n : Nat) (h : J n s) : codeAny (model prog w) A (.compLoop (.DictComp kx vx [⟨ta, ia, fa, 0⟩, ⟨tb, ib, fb, 0⟩] sc pos) 1 it (.ref D) env) R s := by
  refine codeAny_loop rfl J ?_ n h
  intro n s hJ
  show wpAny _ A ((compTurn (.DictComp kx vx [⟨ta, ia, fa, 0⟩, ⟨tb, ib, fb, 0⟩] sc pos) 1 it (.ref D) env).onRaise (fun x => do noteFrame x env; theTreesLotGoes x)) _ _ s
  refine wpAny_noted ?_
  rw [turnD2_b]
  refine wpAny_bind (wpAny_standAt (wpAny_bind (wpAny_mono (one n s hJ) ?_ fun _ _ z => z)))
  intro r s1 h1
  cases r with
  | none => exact wpAny_pure h1
  | some v =>
    refine wpAny_bind (wpAny_mono h1 ?_ fun _ _ z => z)
    intro _ s2 h2
    refine wpAny_bind (wpAny_mono h2 ?_ fun _ _ z => z)
    intro _ s3 h3
    refine wpAny_bind (wpAny_mono h3 ?_ fun _ _ z => z)
    intro ok s4 h4
    cases ok with
    | false => exact wpAny_pure ⟨rfl, h4⟩
    | true =>
      refine wpAny_bind (wpAny_bind (wpAny_mono h4 ?_ fun _ _ z => z))
      intro kv s5 h5
      refine wpAny_bind (wpAny_holding (wpAny_mono h5 ?_ fun _ _ z => z))
      intro vv s6 h6
      refine wpAny_bind (wpAny_standAt (wpAny_holding (wpAny_mono h6 ?_ fun _ _ z => z)))
      intro _ s7 h7
      exact wpAny_pure ⟨rfl, h7⟩
theorem startD2 {acc : Value} (h0 : codeAny (model prog w) A (.compLoop (.DictComp kx vx [⟨ta, ia, fa, 0⟩, ⟨tb, ib, fb, 0⟩] sc pos) 1 it acc env) R s)
    (h1 : wpAny (model prog w) A (pyIter it) (fun it2 s' => codeAny (model prog w) A (.compLoop (.DictComp kx vx [⟨ta, ia, fa, 0⟩, ⟨tb, ib, fb, 0⟩] sc pos) 1 it2 acc env) R s') (NB prog w A env R) s) :
    codeAny (model prog w) A (.compStart (.DictComp kx vx [⟨ta, ia, fa, 0⟩, ⟨tb, ib, fb, 0⟩] sc pos) 1 it acc env) R s := by
  refine codeAny_of_tree ?_
  show wpAny _ A ((compStart (.DictComp kx vx [⟨ta, ia, fa, 0⟩, ⟨tb, ib, fb, 0⟩] sc pos) 1 it acc env).onRaise (fun x => do noteFrame x env; standAt theWindowsPlace)) _ _ s
  refine wpAny_notedAt ?_
  unfold compStart
  show wpAny _ A (ask >>= _) _ _ s
  refine wpAny_bind (wpAny_askSetting (wpAny_ite ?_))
  split
  · first | exact wpAny_bind (wpAny_pure (wpAny_pure ⟨rfl, h0⟩)) | exact wpAny_pure ⟨rfl, h0⟩
  · refine wpAny_bind (wpAny_rule ?_)
    show wpAny _ _ (standAt ib.pos >>= _) _ _ s
    refine wpAny_bind (wpAny_standAt (wpAny_bind (wpAny_mono h1 ?_ fun _ _ z => z)))
    intro it2 s' z
    exact wpAny_pure ⟨rfl, z⟩
end
/-- behind the first clause's store and tests the second one's own loop, from which Nx is reached -/
def tDc2T (wi : TI) (g : TG) (tt : TT) (wi1 : TI) (g1 : TG) (tt1 : TT) (tk tv : TE) (vs vs1 : List Nat) : TE := fun σ H Q => wi σ H fun J H1 => ∀ D, H1 D = none → ∃ W : Nat → Nat → Hp → Prop, (∃ m, W 0 m (upd H1 D (.dT []))) ∧ ∀ i m H, W i m H →
  (J.stop i H ∧ Q (.ref D) H) ∨ (J.go i H ∧ ∃ Nx : Hp → Prop, (∀ H', Nx H' → ∃ m', m' < m ∧ W (i + 1) m' H') ∧ ∀ x H', J.yld i H x H' → g x (wipe σ vs) H' fun σ2 H2 => wipe σ2 vs = wipe σ vs ∧ tt σ2 H2 fun b H3 =>
    if b = true then wi1 σ2 H3 fun J1 H4 => ∃ W1 : Nat → Nat → Hp → Prop, (∃ m, W1 0 m H4) ∧ ∀ j k H, W1 j k H →
      (J1.stop j H ∧ Nx H) ∨ (J1.go j H ∧ ∃ Nx1 : Hp → Prop, (∀ H', Nx1 H' → ∃ k', k' < k ∧ W1 (j + 1) k' H') ∧ ∀ x H', J1.yld j H x H' → g1 x (wipe σ2 vs1) H' fun σ3 H5 => wipe σ3 vs1 = wipe σ2 vs1 ∧ tt1 σ3 H5 fun b H6 =>
        if b = true then tk σ3 H6 fun y H7 => tv σ3 H7 fun z H8 => ∃ kvs k b, y = .ref b ∧ H8 b = some (.tup (k.map kV)) ∧ H8 D = some (.dT kvs) ∧ kvs.length < sizeLine ∧ Nx1 (upd H8 D (.dT (putK kvs k z))) else Nx1 H6)
    else Nx H3)
section
variable {X : Cx}
theorem dc2T_core {pins : List (Addr × Obj)} {s : Shared} {σ : L2.St} {H : Hp} {Q : VK} {kx vx tg it tg1 it1 : Expr} {ifs ifs1 : List Expr} {sc : Scope} {own : List (Str × Nat)} {pos pos' : Pos} {wi wi1 : TI} {g g1 : TG} {tt tt1 : TT} {vs1 : List Nat} {tk tv : TE}
    {use : Option (Value → Sem Unit)} {Qf : Value → Shared → Prop} (hu : X.A.units + 1 < cLine) (hc : X.calm = true) (hN : X.N.Nodup) (I : L2.Inv X pins σ H s) (hi : PI X tg it wi) (ok : BlkOk X.N X.env.scope sc own)
    (hg : ∀ (s : Shared) (H : Hp) (C : Addr) (cl : List (Str × Addr)) (fp : List Addr), PG (X.blk s H sc (compEnvC sc cl C X.env) fp) tg g)
    (ht : ∀ (s : Shared) (H : Hp) (C : Addr) (cl : List (Str × Addr)) (fp : List Addr), PTs (X.blk s H sc (compEnvC sc cl C X.env) fp) ifs tt)
    (hk : ∀ (s : Shared) (H : Hp) (C : Addr) (cl : List (Str × Addr)) (fp : List Addr), PE (X.blk s H sc (compEnvC sc cl C X.env) fp) kx tk)
    (hv : ∀ (s : Shared) (H : Hp) (C : Addr) (cl : List (Str × Addr)) (fp : List Addr), PE (X.blk s H sc (compEnvC sc cl C X.env) fp) vx tv)
    (hi1 : ∀ (s : Shared) (H : Hp) (C : Addr) (cl : List (Str × Addr)) (fp : List Addr), PI (X.blk s H sc (compEnvC sc cl C X.env) fp) tg1 it1 wi1)
    (hg1 : ∀ (s : Shared) (H : Hp) (C : Addr) (cl : List (Str × Addr)) (fp : List Addr), PG (X.blk s H sc (compEnvC sc cl C X.env) fp) tg1 g1)
    (ht1 : ∀ (s : Shared) (H : Hp) (C : Addr) (cl : List (Str × Addr)) (fp : List Addr), PTs (X.blk s H sc (compEnvC sc cl C X.env) fp) ifs1 tt1)
    (hv1 : ∀ i ∈ vs1, i ∈ own.map (·.2)) (hs1 : ∀ env x, foldedSetIterable it1 env x = pure x)
    (hs : ∀ x, foldedSetIterable it X.env x = pure x) (h : tDc2T wi g tt wi1 g1 tt1 tk tv (own.map (·.2)) vs1 σ H Q)
    (post : ∀ D C s' m H', L2.Inv X pins σ H' s' → Q (.ref D) H' → s'.heap.Ns C m → FpOk X pins H' C → compPost (model X.prog X.w) X.A X.xe use Qf (.ref D) C (.ok .next) s') :
    wpAny (model X.prog X.w) X.A (comprehension (.DictComp kx vx [⟨tg, it, ifs, 0⟩, ⟨tg1, it1, ifs1, 0⟩] sc pos) sc X.env pos' newDict false (eval it X.env) use) Qf X.xe s := by
  have fr : ∀ y ∈ sc.names, y.2 = .free → ∃ c, X.env.cells.lookup y.1 = some c := by
    intro y hy e
    exact (ok.free y hy e).elim (fun k => I.ok.has _ (.inl k)) (fun k => I.ok.has _ (.inr k))
  refine wpAny_comprehension_free (use := use) rfl hs (closure_ok fr) ok.kind (fun y hy e => by rw [ok.uniq y hy, e]) (thn (hi.run pins s σ H _ I h) ?_)
  intro xv p1 hx
  refine thn hx ?_
  rintro itv p2 ⟨ia, fp, tn, J, G2, rfl, J2, T, st2, f2, q⟩
  refine wpAny_newObj_type (newEnv_comp ?_)
  generalize eD : p2.heap.objs.size = D
  have nD : G2 D = none := J2.hok.fresh (Nat.le_of_eq eD)
  obtain ⟨W, ⟨m0, w0⟩, turn⟩ := q D nD
  generalize ep3 : ({ p2 with heap := p2.heap.push { cls := .type "dict", data := .dict #[] } } : Shared) = p3
  have J3 : L2.Inv X pins σ (upd G2 D (.dT [])) p3 := by
    rw [← ep3]
    refine J2.laid (t' := p2.toks) (fun b o e => Heap.get?_push_of_some _ e) (Nat.le_of_eq eD) ?_
    rw [← eD]
    exact dt_empty p2.heap J2.big
  have hp3 : p3.heap = p2.heap.push { cls := .type "dict", data := .dict #[] } := by rw [← ep3]
  have small : ∀ b ∈ fp, b < p2.heap.objs.size := by
    intro b hb
    obtain ⟨o, e, _⟩ := T.obj _ _ st2 b hb
    exact Heap.lt_size e
  have f3 : ∀ b ∈ fp, FpOk X pins (upd G2 D (.dT [])) b ∧ b < p3.heap.objs.size := by
    intro b hb
    have lt := small b hb
    have up : (upd G2 D (.dT [])) b = none := by
      rw [upd_ne (by rw [← eD]; exact Nat.ne_of_lt lt)]
      exact (f2 b hb).1
    exact ⟨⟨up, (f2 b hb).2⟩, by rw [hp3, Heap.size_push]; exact Nat.lt_succ_of_lt lt⟩
  have st3 : tn 0 p3.heap := T.keep _ _ _ st2 fun b _ o e => by rw [hp3]; exact Heap.get?_push_of_some _ e
  have J4 := block_start J3 ok hN f3
  have pG := hg p3 (upd G2 D (.dT [])) p3.heap.objs.size (cellsFrom (p3.heap.objs.size + 1) sc.names (cloFrom X.env.cells sc.names [])) fp
  have pT := ht p3 (upd G2 D (.dT [])) p3.heap.objs.size (cellsFrom (p3.heap.objs.size + 1) sc.names (cloFrom X.env.cells sc.names [])) fp
  have pK := hk p3 (upd G2 D (.dT [])) p3.heap.objs.size (cellsFrom (p3.heap.objs.size + 1) sc.names (cloFrom X.env.cells sc.names [])) fp
  have pI1 := hi1 p3 (upd G2 D (.dT [])) p3.heap.objs.size (cellsFrom (p3.heap.objs.size + 1) sc.names (cloFrom X.env.cells sc.names [])) fp
  have pG1 := hg1 p3 (upd G2 D (.dT [])) p3.heap.objs.size (cellsFrom (p3.heap.objs.size + 1) sc.names (cloFrom X.env.cells sc.names [])) fp
  have pT1 := ht1 p3 (upd G2 D (.dT [])) p3.heap.objs.size (cellsFrom (p3.heap.objs.size + 1) sc.names (cloFrom X.env.cells sc.names [])) fp
  have pV := hv p3 (upd G2 D (.dT [])) p3.heap.objs.size (cellsFrom (p3.heap.objs.size + 1) sc.names (cloFrom X.env.cells sc.names [])) fp
  show codeAny _ _ (.compStart (.DictComp kx vx [⟨tg, it, ifs, 0⟩, ⟨tg1, it1, ifs1, 0⟩] sc pos) 0 (.ref ia) (.ref D) (compEnvC sc (cellsFrom (p3.heap.objs.size + 1) sc.names (cloFrom X.env.cells sc.names [])) p3.heap.objs.size X.env))
    (compPost (model X.prog X.w) X.A X.xe use Qf (.ref D) p3.heap.objs.size) { p3 with heap := pushCells (p3.heap.push { cls := .type "dict", data := .dict #[] }) sc.names }
  have none3 : ∀ b ∈ fp, (upd G2 D (.dT [])) b = none := fun b hb => (f3 b hb).1.1
  generalize ece : compEnvC sc (cellsFrom (p3.heap.objs.size + 1) sc.names (cloFrom X.env.cells sc.names [])) p3.heap.objs.size X.env = ce at J4 pG pT pK pV pI1 pG1 pT1 ⊢
  have locs : ce.locals = p3.heap.objs.size := by subst ece; rfl
  generalize eG3 : upd G2 D (.dT []) = G3 at J3 J4 pG pT pK pV pI1 pG1 pT1 w0 none3 f3
  generalize ep4 : ({ p3 with heap := pushCells (p3.heap.push { cls := .type "dict", data := .dict #[] }) sc.names } : Shared) = p4 at J4 ⊢
  have st4 : tn 0 p4.heap := T.keep _ _ _ st3 fun b _ o e => by rw [← ep4]; exact pushCells_keeps _ _ _ _ (Heap.get?_push_of_some _ e)
  have here : ∀ {σ' : L2.St} {H' : Hp} {s' : Shared}, L2.Inv (X.blk p3 G3 sc ce fp) [] σ' H' s' → (∀ b ∈ fp, H' b = none) → ∀ b ∈ fp, FpOk (X.blk p3 G3 sc ce fp) [] H' b := by
    intro σ' H' s' Z hn b hb
    exact ⟨hn b hb, (Z.ok.exf b hb).1, Z.ok.exfs b hb, .inl hb, fun x c e => (Z.ok.exf b hb).2 x c e, fun p hp => absurd (show p ∈ ([] : List (Addr × Obj)) ++ [] from hp) (by simp)⟩
  have loop : codeAny (model X.prog X.w) X.A (.compLoop (.DictComp kx vx [⟨tg, it, ifs, 0⟩, ⟨tg1, it1, ifs1, 0⟩] sc pos) 0 (.ref ia) (.ref D) ce) (compPost (model X.prog X.w) X.A X.xe use Qf (.ref D) p3.heap.objs.size) p4 := by
    refine loopD2_a (hs1 ce) (fun n s' => ∃ i H', L2.Inv (X.blk p3 G3 sc ce fp) [] (wipe σ (own.map (·.2))) H' s' ∧ tn i s'.heap ∧ (∀ b ∈ fp, H' b = none) ∧ W i n H') ?_ m0 ⟨0, G3, J4, st4, none3, w0⟩
    rintro n p5 ⟨i, G5, J5, st5, n5, w5⟩
    rcases turn i n G5 w5 with ⟨stop, qq⟩ | ⟨go, Nx, hNx, step⟩
    · refine thnF (T.done (X.blk p3 G3 sc ce fp) rfl rfl rfl hc i [] p5 _ G5 (fun _ _ => False) J5 (here J5 n5) st5 stop) ?_
      rintro r p6 ⟨rfl, J6⟩
      have J7 : L2.Inv X pins σ G5 p6 := J3.call' (ch := fp) J6.os J6.base J6.hok J6.bare fun b hb => ⟨(f3 b hb).1.2.2.2.1, (f3 b hb).1.2.1, (f3 b hb).1.2.2.2.2.1, (f3 b hb).1.2.2.2.2.2⟩
      have nC : G5 p3.heap.objs.size = none := by
        have z : G5 ce.locals = none := J6.free
        rwa [locs] at z
      obtain ⟨m, hn, _⟩ := J6.loc
      have hn' : p6.heap.Ns ce.locals m := hn
      rw [locs] at hn'
      exact post D p3.heap.objs.size p6 m G5 J7 qq hn' (J3.fpOk (Nat.le_refl _) nC)
    · refine thnF (T.item (X.blk p3 G3 sc ce fp) rfl rfl rfl hc i [] p5 _ G5 (fun _ _ => False) J5 (here J5 n5) st5 go) ?_
      rintro r p6 ⟨u, rfl, h6⟩
      refine thnF h6 ?_
      rintro _ p7 ⟨x, G7, J7, r7, y7, st7, n7⟩
      have K7 := J7.pinned (here J7 n7) (T.obj _ _ st7)
      refine thnF (pG.run _ p7 _ G7 x u _ K7 r7 (step x G7 y7)) ?_
      rintro _ p8 ⟨σ8, G8, J8, hw8, q8⟩
      refine thnF (pT.run _ p8 σ8 G8 _ J8 q8) ?_
      rintro b p9 ⟨G9, J9, q9⟩
      have fin : ∀ {σ9 : L2.St} {s' : Shared} {H' : Hp}, L2.Inv (X.blk p3 G3 sc ce fp) ([] ++ pinsAt fp p7.heap) σ9 H' s' → (wipe σ (own.map (·.2))).length = σ9.length → (∀ (j : Nat) v, (wipe σ (own.map (·.2)))[j]? = some (some v) → σ9[j]? = some (some v)) → Nx H' →
          ∃ m, m < n ∧ ∃ i H', L2.Inv (X.blk p3 G3 sc ce fp) [] (wipe σ (own.map (·.2))) H' s' ∧ tn i s'.heap ∧ (∀ b ∈ fp, H' b = none) ∧ W i m H' := by
        intro σ9 s' H' Z len know nx
        obtain ⟨m', hm, w'⟩ := hNx H' nx
        have pin : ∀ b ∈ fp, ∀ o, p7.heap.get? b = some o → s'.heap.get? b = some o ∧ H' b = none := fun b hb o e =>
          let z := Z.pin (b, o) (List.mem_append_right _ (List.mem_append_right _ (mem_pinsAt hb e)))
          ⟨z.1, z.2.1⟩
        exact ⟨m', hm, i + 1, H', (Z.unpinned (pins := [])).weak len know, T.keep _ _ _ st7 fun b hb o e => (pin b hb o e).1, fun b hb => let ⟨o, e, _⟩ := T.obj _ _ st7 b hb; (pin b hb o e).2, w'⟩
      have len8 : (wipe σ (own.map (·.2))).length = σ8.length := by rw [← hw8]; exact wipe_length _ _
      have know8 : ∀ (j : Nat) v, (wipe σ (own.map (·.2)))[j]? = some (some v) → σ8[j]? = some (some v) := by
        intro j v e
        rw [← hw8] at e
        exact (wipe_some e).1
      have know9 : ∀ (j : Nat) v, (wipe σ (own.map (·.2)))[j]? = some (some v) → (wipe σ8 vs1)[j]? = some (some v) := by
        intro j v e
        rw [← hw8] at e
        obtain ⟨a1, a2⟩ := wipe_some e
        rw [wipe_out (fun z => a2 (hv1 j z))]
        exact a1
      cases b with
      | false =>
        simp only [Bool.false_eq_true, if_false] at q9 ⊢
        exact fin J9 len8 know8 q9
      | true =>
        simp only [if_true] at q9 ⊢
        refine thnF (pI1.run _ p9 σ8 G9 _ J9 q9) ?_
        intro xv1 p10 hx1
        refine thnF hx1 ?_
        rintro itv1 p11 ⟨ib, fp1, tn1, K1, G11, rfl, J11, T1, st11, f11, W1, ⟨m1, w1⟩, turn1⟩
        have here1 : ∀ {H' : Hp}, (∀ b ∈ fp1, H' b = none) → ∀ b ∈ fp1, FpOk (X.blk p3 G3 sc ce fp) ([] ++ pinsAt fp p7.heap) H' b := by
          intro H' hn b hb
          exact ⟨hn b hb, (f11 b hb).2⟩
        have loop1 : codeAny (model X.prog X.w) X.A (.compLoop (.DictComp kx vx [⟨tg, it, ifs, 0⟩, ⟨tg1, it1, ifs1, 0⟩] sc pos) 1 (.ref ib) (.ref D) ce)
            (fun r s' => match r with
              | .ok _ => ∃ m, m < n ∧ ∃ i H', L2.Inv (X.blk p3 G3 sc ce fp) [] (wipe σ (own.map (·.2))) H' s' ∧ tn i s'.heap ∧ (∀ b ∈ fp, H' b = none) ∧ W i m H'
              | .error _ => False) p11 := by
          refine loopD2_b (fun k s' => ∃ j H', L2.Inv (X.blk p3 G3 sc ce fp) ([] ++ pinsAt fp p7.heap) (wipe σ8 vs1) H' s' ∧ tn1 j s'.heap ∧ (∀ b ∈ fp1, H' b = none) ∧ W1 j k H') ?_ m1 ⟨0, G11, J11.weak (wipe_length _ _) (fun j v e => (wipe_some e).1), st11, fun b hb => (f11 b hb).1, w1⟩
          rintro k p12 ⟨j, G12, J12, st12, n12, w12⟩
          rcases turn1 j k G12 w12 with ⟨stop1, nx1⟩ | ⟨go1, Nx1, hNx1, step1⟩
          · refine thnF (T1.done (X.blk p3 G3 sc ce fp) rfl rfl rfl hc j _ p12 (wipe σ8 vs1) G12 (fun _ _ => False) J12 (here1 n12) st12 stop1) ?_
            rintro r p13 ⟨rfl, J13⟩
            exact fin J13 (len8.trans (wipe_length σ8 vs1).symm) know9 nx1
          · refine thnF (T1.item (X.blk p3 G3 sc ce fp) rfl rfl rfl hc j _ p12 (wipe σ8 vs1) G12 (fun _ _ => False) J12 (here1 n12) st12 go1) ?_
            rintro r p13 ⟨u1, rfl, h13⟩
            refine thnF h13 ?_
            rintro _ p14 ⟨x1, G14, J14, r14, y14, st14, n14⟩
            have K14 := J14.pinned (here1 n14) (T1.obj _ _ st14)
            refine thnF (pG1.run _ p14 (wipe σ8 vs1) G14 x1 u1 _ K14 r14 (step1 x1 G14 y14)) ?_
            rintro _ p15 ⟨σ15, G15, J15, hw15, q15⟩
            refine thnF (pT1.run _ p15 σ15 G15 _ J15 q15) ?_
            rintro b1 p16 ⟨G16, J16, q16⟩
            have fin1 : ∀ {s' : Shared} {H' : Hp}, L2.Inv (X.blk p3 G3 sc ce fp) (([] ++ pinsAt fp p7.heap) ++ pinsAt fp1 p14.heap) σ15 H' s' → Nx1 H' →
                ∃ m, m < k ∧ ∃ j H', L2.Inv (X.blk p3 G3 sc ce fp) ([] ++ pinsAt fp p7.heap) (wipe σ8 vs1) H' s' ∧ tn1 j s'.heap ∧ (∀ b ∈ fp1, H' b = none) ∧ W1 j m H' := by
              intro s' H' Z nx
              obtain ⟨m', hm, w'⟩ := hNx1 H' nx
              have pin1 : ∀ b ∈ fp1, ∀ o, p14.heap.get? b = some o → s'.heap.get? b = some o ∧ H' b = none := fun b hb o e =>
                let z := Z.pin (b, o) (List.mem_append_right _ (List.mem_append_right _ (mem_pinsAt hb e)))
                ⟨z.1, z.2.1⟩
              have len15 : (wipe σ8 vs1).length = σ15.length := by rw [← hw15]; exact wipe_length _ _
              have know15 : ∀ (j : Nat) v, (wipe σ8 vs1)[j]? = some (some v) → σ15[j]? = some (some v) := by
                intro j v e
                rw [← hw15] at e
                exact (wipe_some e).1
              exact ⟨m', hm, j + 1, H', Z.unpinned.weak len15 know15, T1.keep _ _ _ st14 fun b hb o e => (pin1 b hb o e).1, fun b hb => let ⟨o, e, _⟩ := T1.obj _ _ st14 b hb; (pin1 b hb o e).2, w'⟩
            cases b1 with
            | false =>
              simp only [Bool.false_eq_true, if_false] at q16 ⊢
              exact fin1 J16 q16
            | true =>
              simp only [if_true] at q16 ⊢
              refine thnF (pK.run _ p16 σ15 G16 _ J16 q16) ?_
              rintro z p17 ⟨yk, G17, J17, r17, q17⟩
              refine thnF (pV.run _ p17 σ15 G17 _ J17 q17) ?_
              rintro z2 p18 ⟨yv, G18, J18, r18, kvs, k, kb, rfl, eb, eD18, lz, nx⟩
              cases (show z = Value.ref kb from r17)
              exact dictSetT (X := X.blk p3 G3 sc ce fp) hu J18 eD18 eb lz r18 fun p19 J19 => fin1 J19 nx
        exact startD2 loop1 (T1.self X.A 0 _ _ _ st11 loop1)
  exact codeAny_compStart_dict loop (T.self X.A 0 _ _ _ st4 loop)
theorem ps_setDc2T {i : Nat} {y : Str} {py : Pos} {kx vx tg it tg1 it1 : Expr} {ifs ifs1 : List Expr} {scope : Scope} {own : List (Str × Nat)} {pos sp : Pos} {wi wi1 : TI} {g g1 : TG} {tt tt1 : TT} {vs1 : List Nat} {tk tv : TE} (hu : X.A.units + 1 < cLine) (hc : X.calm = true) (hN : X.N.Nodup)
    (hy : X.N[i]? = some y) (hyl : X.env.scope.names.lookup y = some .local) (hsw : swapsWith (.DictComp kx vx [⟨tg, it, ifs, 0⟩, ⟨tg1, it1, ifs1, 0⟩] scope pos) (some (.Name y py)) sp.line X.env = pure true)
    (hi : PI X tg it wi) (ok : BlkOk X.N X.env.scope scope own)
    (hg : ∀ (s : Shared) (H : Hp) (C : Addr) (cl : List (Str × Addr)) (fp : List Addr), PG (X.blk s H scope (compEnvC scope cl C X.env) fp) tg g)
    (ht : ∀ (s : Shared) (H : Hp) (C : Addr) (cl : List (Str × Addr)) (fp : List Addr), PTs (X.blk s H scope (compEnvC scope cl C X.env) fp) ifs tt)
    (hk : ∀ (s : Shared) (H : Hp) (C : Addr) (cl : List (Str × Addr)) (fp : List Addr), PE (X.blk s H scope (compEnvC scope cl C X.env) fp) kx tk)
    (hv : ∀ (s : Shared) (H : Hp) (C : Addr) (cl : List (Str × Addr)) (fp : List Addr), PE (X.blk s H scope (compEnvC scope cl C X.env) fp) vx tv)
    (hi1 : ∀ (s : Shared) (H : Hp) (C : Addr) (cl : List (Str × Addr)) (fp : List Addr), PI (X.blk s H scope (compEnvC scope cl C X.env) fp) tg1 it1 wi1)
    (hg1 : ∀ (s : Shared) (H : Hp) (C : Addr) (cl : List (Str × Addr)) (fp : List Addr), PG (X.blk s H scope (compEnvC scope cl C X.env) fp) tg1 g1)
    (ht1 : ∀ (s : Shared) (H : Hp) (C : Addr) (cl : List (Str × Addr)) (fp : List Addr), PTs (X.blk s H scope (compEnvC scope cl C X.env) fp) ifs1 tt1)
    (hv1 : ∀ i ∈ vs1, i ∈ own.map (·.2))
    (hs1 : ∀ env x, foldedSetIterable it1 env x = pure x := by intro _ _; rfl)
    (hs : ∀ x, foldedSetIterable it X.env x = pure x := by intro _; rfl) :
    PS X (.Assign [.Name y py] (.DictComp kx vx [⟨tg, it, ifs, 0⟩, ⟨tg1, it1, ifs1, 0⟩] scope pos) sp) (tAsg (tDc2T wi g tt wi1 g1 tt1 tk tv (own.map (·.2)) vs1) (gName i)) := by
  constructor
  intro pins s σ H D I h
  rw [exec_Assign_Name_used _ _ _ _ hsw]
  refine wpAny_bind (wpAny_standAt (wpAny_bind ?_))
  show wpAny _ X.A (do let _ ← comprehension (.DictComp kx vx [⟨tg, it, ifs, 0⟩, ⟨tg1, it1, ifs1, 0⟩] scope pos) scope X.env (firstIterPos [⟨tg, it, ifs, 0⟩, ⟨tg1, it1, ifs1, 0⟩] pos) newDict false (eval it X.env) (some (assign (.Name y py) X.env))) _ _ s
  have h' : tDc2T wi g tt wi1 g1 tt1 tk tv (own.map (·.2)) vs1 σ H (fun x H1 => gName i x σ H1 D.nx) := h
  refine wpAny_bind (thn (dc2T_core (Qf := fun _ s' => SP X pins D .next s') hu hc hN I hi ok hg ht hk hv hi1 hg1 ht1 hv1 hs1 hs h' ?_) fun _ s' hq => wpAny_pure (wpAny_pure hq))
  intro L C s' m H' I' q hn f
  show wpAny _ _ (assign (.Name y py) X.env (.ref L)) _ _ _
  refine wpAny_assign_Name (store_ok2 (v := V.ref L) I' hN hy (.inl hyl) rfl ?_ (.inr hyl))
  rintro s2 I2 ⟨a, sb, ha⟩
  obtain ⟨f0, f1, f2, f3, f4, f5⟩ := f
  have ne : C ≠ a := by
    rcases ha with z | z
    · rw [z]; exact f1
    · exact fun e => f4 y a z e.symm
  exact ⟨m, hn.sameBut sb ne, fun h3 sb3 => ⟨_, H', I2.turned (t' := s2.toks) (fun b o hb e => (sb3.2 b hb).trans e) f0 f1 f3 f4 f5, q⟩⟩
end
/-! ### {(a, b): v}: one pair, its key a tuple -/
def tDispT (te tf : TE) : TE := fun σ H Q => ∀ p, H p = none → te σ (upd H p (.dT [])) fun y H1 => tf σ H1 fun z H2 => ∃ (k : List Key) (b : Addr), y = .ref b ∧ H2 b = some (.tup (k.map kV)) ∧ H2 p = some (.dT []) ∧ Q (.ref p) (upd H2 p (.dT [(k, z)]))
theorem k_dispT {te tf : TE} {σ : L2.St} {H : Hp} {Q : VK} (h : ∀ p, H p = none → te σ (upd H p (.dT [])) fun y H1 => tf σ H1 fun z H2 => ∃ (k : List Key) (b : Addr), y = .ref b ∧ H2 b = some (.tup (k.map kV)) ∧ H2 p = some (.dT []) ∧ Q (.ref p) (upd H2 p (.dT [(k, z)]))) : tDispT te tf σ H Q := h
open PySem.Spec PyProof.Rows in
theorem pe_dispT {X : L2.Cx} {pos : Pos} {e f : Expr} {te tf : TE} (hu : X.A.units + 1 < cLine) (he : PE X e te) (hf : PE X f tf) : PE X (.Dict [some e] [f] pos) (tDispT te tf) := by
  constructor
  intro pins s σ H Q I q
  have hn := I.hok.fresh (Nat.le_refl s.heap.objs.size)
  have I1 := I.laid (a := s.heap.objs.size) (o := .dT []) (h' := s.heap.push { cls := .type "dict", data := .dict #[] }) (t' := s.toks) (fun _ _ z => Heap.get?_push_of_some _ z) (Nat.le_refl _) (dt_empty s.heap I.big)
  refine wpAny_Dict_any rfl rfl (by simp) (by show 1 ≤ 15; decide) ?_
  have pp : PPs X pos [some e] [f] [(te, tf)] := pps_cons he hf pps_nil
  refine thn (pp.run pins _ σ _ (fun ps H2 => ∃ (y z : V) (k : List Key) (b : Addr), ps = [(y, z)] ∧ y = .ref b ∧ H2 b = some (.tup (k.map kV)) ∧ H2 s.heap.objs.size = some (.dT []) ∧ Q (.ref s.heap.objs.size) (upd H2 s.heap.objs.size (.dT [(k, z)]))) I1 ?_) ?_
  · have h1 := q _ hn
    show te σ (upd H s.heap.objs.size (.dT [])) fun y H1 => tf σ H1 fun z H2 => _
    have mono : ∀ (y : V) (H1 : Hp), (fun z H2 => ∃ (k : List Key) (b : Addr), y = .ref b ∧ H2 b = some (.tup (k.map kV)) ∧ H2 s.heap.objs.size = some (.dT []) ∧ Q (.ref s.heap.objs.size) (upd H2 s.heap.objs.size (.dT [(k, z)]))) =
        (fun (z : V) (H2 : Hp) => ∃ (y' z' : V) (k : List Key) (b : Addr), [(y, z)] = [(y', z')] ∧ y' = .ref b ∧ H2 b = some (.tup (k.map kV)) ∧ H2 s.heap.objs.size = some (.dT []) ∧ Q (.ref s.heap.objs.size) (upd H2 s.heap.objs.size (.dT [(k, z')]))) := fun y H1 => by
      funext z H2
      refine propext ⟨fun ⟨k, b, r⟩ => ⟨y, z, k, b, rfl, r⟩, ?_⟩
      rintro ⟨y', z', k, b, e1, r⟩
      cases e1
      exact ⟨k, b, r⟩
    have := h1
    simp only [mono _ H] at this
    exact this
  · rintro vs s2 ⟨ps, H2, I2, rel, y, z, k, b, rfl, rfl, eb, ep, q2⟩
    cases rel with
    | @cons p0 w0 ps0 ws0 hd tl =>
      cases tl
      obtain ⟨v1, v2⟩ := w0
      obtain ⟨h1, h2⟩ := hd
      have h1 : v1 = Value.ref b := h1
      subst h1
      show wpAny _ _ (forIn [((Value.ref b, v2) : Value × Value)] PUnit.unit _) _ _ s2
      rw [List.forIn_cons]
      refine wpAny_bind (wpAny_bind ?_)
      refine dictSetT hu I2 ep eb (by show 0 < sizeLine; decide) h2 ?_
      intro s3 I3
      refine wpAny_pure ?_
      show wpAny _ _ (forIn ([] : List (Value × Value)) PUnit.unit _) _ _ s3
      rw [List.forIn_nil]
      exact wpAny_pure ⟨.ref _, _, I3, rfl, q2⟩
/-! ### one loop of a comprehension, by what its body wants -/
theorem it_gen {J : It} {n : Nat} {G : Hp → Prop} {Y : Nat → Hp → V → Hp → Prop} (w : Walk J n G Y) {B : (Hp → Prop) → V → Hp → Prop} {F : Hp → Prop} {H0 : Hp} (Pv : Nat → Hp → Prop) (h0 : Pv 0 H0) (hG : ∀ i H, i ≤ n → Pv i H → G H)
    (hs : ∀ i x H H', i < n → Pv i H → Y i H x H' → B (Pv (i + 1)) x H') (hd : ∀ H, Pv n H → F H) :
    ∃ W : Nat → Nat → Hp → Prop, (∃ m, W 0 m H0) ∧ ∀ i m H, W i m H → (J.stop i H ∧ F H) ∨ (J.go i H ∧ ∃ Nx : Hp → Prop, (∀ H', Nx H' → ∃ m', m' < m ∧ W (i + 1) m' H') ∧ ∀ x H', J.yld i H x H' → B Nx x H') := by
  refine ⟨fun i m H => m + i = n ∧ Pv i H, ⟨n, by omega, h0⟩, ?_⟩
  rintro i m H ⟨em, hP⟩
  have q := hG i H (by omega) hP
  by_cases c : i < n
  · exact .inr ⟨w.goes i H c q, Pv (i + 1), fun H' z => ⟨m - 1, by omega, by omega, z⟩, fun x H' y => hs i x H H' c hP (w.yields i H x H' c q y)⟩
  · have e : i = n := by omega
    subst e
    exact .inl ⟨w.stops H q, hd H hP⟩
/-! ### a search, layer by layer: the shortest word that leads out -/
abbrev Pl := Int × Int
abbrev Mv := Pl → List (Nat × Option Pl)
def evs (mv : Mv) (layer : List (Pl × Wd)) : List (Wd × Option Pl) := layer.flatMap fun pw => (mv pw.1).map fun ce => (pw.2 ++ [ce.1], ce.2)
def proc : List (Wd × Option Pl) → List Pl → List (Pl × Wd) → Sum Wd (List Pl × List (Pl × Wd))
  | [], s, l => .inr (s, l)
  | (w, none) :: _, _, _ => .inl w
  | (w, some e) :: r, s, l => if e ∈ s then proc r s l else proc r (s ++ [e]) (l ++ [(e, w)])
inductive Bfs (mv : Mv) : List Pl → List (Pl × Wd) → Option Wd → Prop
  | done {s : List Pl} : Bfs mv s [] none
  | found {s : List Pl} {l : List (Pl × Wd)} {w : Wd} (ne : l ≠ []) (h : proc (evs mv l) s [] = .inl w) : Bfs mv s l (some w)
  | next {s s' : List Pl} {l l' : List (Pl × Wd)} {r : Option Wd} (ne : l ≠ []) (h : proc (evs mv l) s [] = .inr (s', l')) (n : Bfs mv s' l' r) : Bfs mv s l r
theorem Bfs.uniq {mv : Mv} {s : List Pl} {l : List (Pl × Wd)} {r r' : Option Wd} (a : Bfs mv s l r) (b : Bfs mv s l r') : r = r' := by
  induction a generalizing r' with
  | done =>
    cases b with
    | done => rfl
    | found ne _ => exact absurd rfl ne
    | next ne _ _ => exact absurd rfl ne
  | found ne h =>
    cases b with
    | done => exact absurd rfl ne
    | found _ h' => rw [h] at h'; cases h'; rfl
    | next _ h' _ => rw [h] at h'; cases h'
  | next ne h _ ih =>
    cases b with
    | done => exact absurd rfl ne
    | found _ h' => rw [h] at h'; cases h'
    | next _ h' n => rw [h] at h'; cases h'; exact ih n
theorem proc_app : ∀ (a b : List (Wd × Option Pl)) (s : List Pl) (l : List (Pl × Wd)), proc (a ++ b) s l = match proc a s l with
    | .inl w => .inl w
    | .inr (s', l') => proc b s' l'
  | [], b, s, l => rfl
  | (w, none) :: r, b, s, l => rfl
  | (w, some e) :: r, b, s, l => by
    show (if e ∈ s then proc (r ++ b) s l else proc (r ++ b) (s ++ [e]) (l ++ [(e, w)])) = _
    by_cases c : e ∈ s
    · rw [if_pos c, proc_app r b s l]
      show _ = match (if e ∈ s then proc r s l else proc r (s ++ [e]) (l ++ [(e, w)])) with | .inl w => _ | .inr (s', l') => _
      rw [if_pos c]
    · rw [if_neg c, proc_app r b]
      show _ = match (if e ∈ s then proc r s l else proc r (s ++ [e]) (l ++ [(e, w)])) with | .inl w => _ | .inr (s', l') => _
      rw [if_neg c]
/-- what a search keeps: the places seen are unlike ones of P, the layer's places are seen, words are short -/
structure Lay (P : List Pl) (s : List Pl) (l : List (Pl × Wd)) (n : Nat) : Prop where
  nd : s.Nodup
  sub : ∀ p ∈ s, p ∈ P
  lay : ∀ pw ∈ l, pw.1 ∈ P ∧ pw.2.length = n
def ClosedM (mv : Mv) (P : List Pl) : Prop := ∀ p ∈ P, ∀ c q, (c, some q) ∈ mv p → q ∈ P
theorem proc_lay {P : List Pl} {n : Nat} : ∀ {ev : List (Wd × Option Pl)} {s s' : List Pl} {l l' : List (Pl × Wd)}, (∀ w q, (w, some q) ∈ ev → q ∈ P ∧ w.length = n) → Lay P s l n → proc ev s l = .inr (s', l') →
    Lay P s' l' n ∧ s'.length + l.length = s.length + l'.length
  | [], s, s', l, l', _, L, e => by cases e; exact ⟨L, rfl⟩
  | (w, none) :: r, s, s', l, l', _, _, e => by cases e
  | (w, some q) :: r, s, s', l, l', hv, L, e => by
    have e' : (if q ∈ s then proc r s l else proc r (s ++ [q]) (l ++ [(q, w)])) = .inr (s', l') := e
    by_cases c : q ∈ s
    · rw [if_pos c] at e'
      exact proc_lay (fun w q h => hv w q (List.mem_cons_of_mem _ h)) L e'
    · rw [if_neg c] at e'
      have hq := hv w q List.mem_cons_self
      have L2 : Lay P (s ++ [q]) (l ++ [(q, w)]) n := ⟨List.nodup_append.mpr ⟨L.nd, by simp, fun a ha b hb z => c (by rw [← List.mem_singleton.mp hb, ← z]; exact ha)⟩, fun p hp => by
        rcases List.mem_append.mp hp with hp | hp
        · exact L.sub p hp
        · rw [List.mem_singleton.mp hp]; exact hq.1, fun pw hp => by
        rcases List.mem_append.mp hp with hp | hp
        · exact L.lay pw hp
        · rw [List.mem_singleton.mp hp]; exact hq⟩
      obtain ⟨a, b⟩ := proc_lay (fun w q h => hv w q (List.mem_cons_of_mem _ h)) L2 e'
      refine ⟨a, ?_⟩
      rw [List.length_append, List.length_append, List.length_singleton, List.length_singleton] at b
      omega
theorem evs_in {mv : Mv} {P : List Pl} (c : ClosedM mv P) {s : List Pl} {l : List (Pl × Wd)} {n : Nat} (L : Lay P s l n) : ∀ w q, (w, some q) ∈ evs mv l → q ∈ P ∧ w.length = n + 1 := fun w q h => by
  obtain ⟨pw, hp, h2⟩ := List.mem_flatMap.mp h
  obtain ⟨ce, hc, e⟩ := List.mem_map.mp h2
  obtain ⟨c1, c2⟩ := ce
  cases e
  have := L.lay pw hp
  exact ⟨c _ this.1 _ _ hc, by rw [List.length_append, this.2]; rfl⟩
/-- dicts of places: those of a list, each True -/
def pk (p : Pl) : List Key := [.inl p.1, .inl p.2]
theorem pk_inj {p q : Pl} (h : pk p = pk q) : p = q := by
  unfold pk at h
  injection h with h1 h2
  injection h2 with h2 h3
  injection h1 with h1
  injection h2 with h2
  exact Prod.ext h1 h2
def skv (s : List Pl) : List (List Key × V) := s.map fun p => (pk p, .bl true)
theorem valV_skv (p : Pl) : ∀ s : List Pl, valV (skv s) (pk p) = if p ∈ s then some (.bl true) else none
  | [] => rfl
  | q :: s => by
    show valV ((pk q, V.bl true) :: skv s) (pk p) = _
    by_cases c : q = p
    · rw [valV_pos (by rw [c])]
      rw [if_pos (by rw [c]; exact List.mem_cons_self)]
    · rw [valV_neg (fun z => c (pk_inj z)), valV_skv p s]
      by_cases d : p ∈ s
      · rw [if_pos d, if_pos (List.mem_cons_of_mem _ d)]
      · rw [if_neg d, if_neg (fun z => by rcases List.mem_cons.mp z with z | z; exact c z.symm; exact d z)]
theorem putK_skv {s : List Pl} {p : Pl} (h : p ∉ s) : putK (skv s) (pk p) (.bl true) = skv (s ++ [p]) := by
  rw [putK_new _ (by rw [valV_skv, if_neg h])]
  unfold skv
  rw [List.map_append]
  rfl
/-! ### first_row_out -/
def PlAt (H : Hp) (t : Addr) (p : Pl) : Prop := H t = some (.tup ((pk p).map kV))
def EndAt (H : Hp) (v : V) : Option Pl → Prop
  | none => v = .non
  | some q => ∃ t, v = .ref t ∧ PlAt H t q
def LayAt (H : Hp) (us : List V) (l : List (Pl × Wd)) : Prop := us.length = l.length ∧ ∀ (i : Nat) (pw : Pl × Wd), l[i]? = some pw → ∃ x t, us[i]? = some (V.ref x) ∧ H x = some (.tup [.ref t, .str (sOf pw.2)]) ∧ PlAt H t pw.1
def EvAt (H : Hp) (us : List V) (l : List (Nat × Option Pl)) : Prop := us.length = l.length ∧ ∀ (i : Nat) (ce : Nat × Option Pl), l[i]? = some ce → ∃ x v, us[i]? = some (V.ref x) ∧ H x = some (.tup [.str ⟨#[ce.1]⟩, v]) ∧ EndAt H v ce.2
def MvAt (H : Hp) (D : Addr) (mv : Mv) (P : List Pl) : Prop := ∃ kvs, H D = some (.dT kvs) ∧ ∀ p ∈ P, ∃ q us, valV kvs (pk p) = some (.ref q) ∧ H q = some (.lst us) ∧ EvAt H us (mv p)
theorem EndAt.same {H H' : Hp} {v : V} {e : Option Pl} (h : EndAt H v e) (z : Same H H') : EndAt H' v e := by
  cases e with
  | none => exact h
  | some q => obtain ⟨t, a, b⟩ := h; exact ⟨t, a, z _ _ b⟩
theorem LayAt.same {H H' : Hp} {us : List V} {l : List (Pl × Wd)} (h : LayAt H us l) (z : Same H H') : LayAt H' us l := ⟨h.1, fun i pw e => let ⟨x, t, a, b, c⟩ := h.2 i pw e; ⟨x, t, a, z _ _ b, z _ _ c⟩⟩
theorem EvAt.same {H H' : Hp} {us : List V} {l : List (Nat × Option Pl)} (h : EvAt H us l) (z : Same H H') : EvAt H' us l := ⟨h.1, fun i ce e => let ⟨x, v, a, b, c⟩ := h.2 i ce e; ⟨x, v, a, z _ _ b, c.same z⟩⟩
theorem MvAt.same {H H' : Hp} {D : Addr} {mv : Mv} {P : List Pl} (h : MvAt H D mv P) (z : Same H H') : MvAt H' D mv P := let ⟨kvs, a, b⟩ := h; ⟨kvs, z _ _ a, fun p hp => let ⟨q, us, c, d, e⟩ := b p hp; ⟨q, us, c, z _ _ d, e.same z⟩⟩
/-- changes at a list or a dict -/
theorem tupl_upd {H : Hp} {F x : Addr} {o : HO} {ys : List V} (hF : ∀ xs, H F ≠ some (.tup xs)) (h : H x = some (.tup ys)) : (upd H F o) x = some (.tup ys) := by
  rw [upd_ne (fun e => hF ys (by rw [← e]; exact h))]
  exact h
theorem LayAt.put {H : Hp} {us : List V} {l : List (Pl × Wd)} {F : Addr} {o : HO} (h : LayAt H us l) (hF : ∀ xs, H F ≠ some (.tup xs)) : LayAt (upd H F o) us l := ⟨h.1, fun i pw e => let ⟨x, t, a, b, c⟩ := h.2 i pw e; ⟨x, t, a, tupl_upd hF b, tupl_upd hF c⟩⟩
theorem LayAt.nil {H : Hp} : LayAt H [] [] := ⟨rfl, fun i pw e => by simp at e⟩
theorem LayAt.snoc {H : Hp} {us : List V} {l : List (Pl × Wd)} {x t : Addr} {pw : Pl × Wd} (h : LayAt H us l) (hx : H x = some (.tup [.ref t, .str (sOf pw.2)])) (ht : PlAt H t pw.1) : LayAt H (us ++ [V.ref x]) (l ++ [pw]) := by
  refine ⟨by rw [List.length_append, List.length_append, h.1]; rfl, fun i q e => ?_⟩
  by_cases c : i < l.length
  · rw [List.getElem?_append_left c] at e
    obtain ⟨a, b, e1, q1⟩ := h.2 i q e
    exact ⟨a, b, by rw [List.getElem?_append_left (by rw [h.1]; exact c)]; exact e1, q1⟩
  · rw [List.getElem?_append_right (by omega)] at e
    have z : i - l.length = 0 := by
      have := (List.getElem?_eq_some_iff.mp e).1
      simp at this
      omega
    rw [z] at e
    cases e
    exact ⟨x, t, by rw [List.getElem?_append_right (by rw [h.1]; omega), h.1, z]; rfl, hx, ht⟩
def resV : Option Wd → V
  | none => .non
  | some w => .str (sOf w)
def sp_fro : Sp := fun vs H Q _ => ∃ (D t : Addr) (mv : Mv) (P : List Pl) (b : Pl), vs = [.ref D, .ref t] ∧ MvAt H D mv P ∧ PlAt H t b ∧ b ∈ P ∧ ClosedM mv P ∧ P.length ≤ 1000 ∧ (∀ p, (mv p).length ≤ 100) ∧
  ∀ r H', Same H H' → Bfs mv [b] [(b, [])] r → Q (resV r) H'
theorem evs_take {mv : Mv} {l : List (Pl × Wd)} {i : Nat} {pw : Pl × Wd} (h : l[i]? = some pw) : evs mv (l.take (i + 1)) = evs mv (l.take i) ++ (mv pw.1).map fun ce => (pw.2 ++ [ce.1], ce.2) := by
  unfold evs
  rw [List.take_add_one, h, List.flatMap_append]
  simp
theorem ev_take {mv : List (Nat × Option Pl)} {w : Wd} {j : Nat} {ce : Nat × Option Pl} (h : mv[j]? = some ce) : (mv.take (j + 1)).map (fun ce => (w ++ [ce.1], ce.2)) = (mv.take j).map (fun ce => (w ++ [ce.1], ce.2)) ++ [(w ++ [ce.1], ce.2)] := by
  rw [List.take_add_one, h, List.map_append]
  rfl
theorem evs_split (mv : Mv) (l : List (Pl × Wd)) (i : Nat) : evs mv l = evs mv (l.take i) ++ evs mv (l.drop i) := by
  unfold evs
  conv => lhs; rw [← List.take_append_drop i l]
  rw [List.flatMap_append]
section
variable {P : Program} {w : World} {K : PySem.W.Frag} {mg : Str → Option Value} {base : Heap}
theorem ok_first_row_out (T : Txt K mg) : FnOk P w K mg base (L2.CX P w) 1 T.a_first_row_out T.fd_first_row_out ["moves", "begin"] sp_fro := by
  refine T.F_first_row_out.okX sc_first_row_out (fun vs H Q E h => ?_) (fun cdv A outer s H vs Q E hr h => ?_)
  · obtain ⟨D, t, mv, Ps, b, rfl, _⟩ := h
    rfl
  · obtain ⟨D, t, mv, Ps, b, rfl, hmv, hb, bP, cl, lP, l100, k⟩ := h
    refine ⟨_, (PSs.nox (pss_cons (ps_set (i := 2) sc_first_row_out.nd rfl (Or.inl rfl) (pe_dispT (hu_of hr) (pv 1) pe_bl))
  (pss_cons (ps_set (i := 3) sc_first_row_out.nd rfl (Or.inl rfl) (pe_lst (pa_cons (pe_tup (pa_cons (pv 1) (pa_cons pe_str pa_nil))) pa_nil)))
  (pss_cons (ps_while PassesOwn.never (pt_truth (pv 3) (fun _ => rfl))
  (pss_cons (ps_set (i := 4) sc_first_row_out.nd rfl (Or.inl rfl) (pe_lst pa_nil))
  (pss_cons (ps_for PassesOwn.never rfl (pi_list (pv 3)) (pg_tup rfl (pgs_cons (pg_name (i := 5) sc_first_row_out.nd rfl (Or.inl rfl)) (pgs_cons (pg_name (i := 6) sc_first_row_out.nd rfl (Or.inl rfl)) pgs_nil)))
  (pss_one (ps_for PassesOwn.never rfl (pi_list (pe_dget (hu_of hr) (pv 0) (pv 5) (fun _ _ => rfl))) (pg_tup rfl (pgs_cons (pg_name (i := 7) sc_first_row_out.nd rfl (Or.inl rfl)) (pgs_cons (pg_name (i := 8) sc_first_row_out.nd rfl (Or.inl rfl)) pgs_nil)))
  (pss_cons (ps_if (pt_cmp (pc_isN (pv 8)))
  (pss_one (ps_ret (pe_op op_add_str (pv 6) (pv 7))))
  pss_nil)
  (pss_one (ps_if (pt_cmp (pc_dnotin (hu_of hr) (pv 8) (pv 2)) (by rfl))
  (pss_cons (ps_dput (hu_of hr) (pv 2) (pv 8) pe_bl rfl)
  (pss_one (ps_expr (pe_bm PySem.F.plainAttrs_list PySem.F.slot_list_append PySem.F.type_list_append mt_append (pv 4) (pa_cons (pe_tup (pa_cons (pv 8) (pa_cons (pe_op op_add_str (pv 6) (pv 7)) pa_nil))) pa_nil)))))
  pss_nil))))))
  (pss_one (ps_set (i := 3) sc_first_row_out.nd rfl (Or.inl rfl) (pv 4))))))
  (pss_one (ps_ret pe_non)))))), ?_⟩
    walk_at "begin"
    walk_at "go"
    refine k_dispT fun S hS => ?_
    walk_at "go"
    have zS := Same.new (o := .dT []) hS
    refine ⟨pk b, t, rfl, zS _ _ hb, upd_same, ?_⟩
    have hH1 : Same H (upd (upd H S (.dT [])) S (.dT [(pk b, .bl true)])) := Same.mut zS hS
    have eS1 : (upd (upd H S (.dT [])) S (.dT [(pk b, .bl true)])) S = some (.dT (skv [b])) := upd_same
    generalize upd (upd H S (.dT [])) S (.dT [(pk b, .bl true)]) = H1 at hH1 eS1 ⊢
    walk_at "go"
    refine ⟨(by decide : 2 ≤ sizeLine), fun x hx => ?_⟩
    have zx := Same.new (o := .tup [.ref t, .str ""]) hx
    walk_at "go"
    refine ⟨(by decide : 1 ≤ sizeLine), fun L hL => ?_⟩
    have zL := Same.new (o := .lst [.ref x]) hL
    have z12 := zx.trans zL
    have lay0 : LayAt (upd (upd H1 x (.tup [.ref t, .str ""])) L (.lst [.ref x])) [.ref x] [(b, [])] := LayAt.nil.snoc (pw := (b, [])) (zL _ _ upd_same) (z12 _ _ (hH1 _ _ hb))
    have hS0 := hS
    have hL0 : H L = none := free_of (hH1.trans zx) hL
    have nLS : L ≠ S := fun e => by
      rw [e, zx _ _ eS1] at hL; cases hL
    have eL : (upd (upd H1 x (.tup [.ref t, .str ""])) L (.lst [.ref x])) L = some (.lst [.ref x]) := upd_same
    have zz := hH1.trans z12
    have eS := z12 _ _ eS1
    generalize upd (upd H1 x (.tup [.ref t, .str ""])) L (.lst [.ref x]) = H2 at lay0 eL zz eS ⊢
    clear z12 zx zL eS1 hH1 zS hS hL hx
    walk_at "go"
    refine k_whl (fun q σ H' => ∃ s l n L us a4 a5 a6 a7 a8, q = 2 * (1000 - s.length) + (if l = [] then 0 else 1) ∧ Same H H' ∧ H' S = some (.dT (skv s)) ∧ H' L = some (.lst us) ∧ H L = none ∧ L ≠ S ∧ LayAt H' us l ∧ Lay Ps s l n ∧ n + 1 ≤ s.length + (if l = [] then 1 else 0) ∧
        (∀ r, Bfs mv s l r → Bfs mv [b] [(b, [])] r) ∧ σ = [some (.ref D), some (.ref t), some (.ref S), some (.ref L), a4, a5, a6, a7, a8])
      ⟨_, [b], [(b, [])], 0, L, _, none, none, none, none, none, rfl, zz, eS, eL, hL0, nLS, lay0, ⟨by simp, fun p hp => by rw [List.mem_singleton.mp hp]; exact bP, fun pw hp => by rw [List.mem_singleton.mp hp]; exact ⟨bP, rfl⟩⟩, by simp, fun r h => h, rfl⟩ ?_
      (fun σ H R R' h ⟨v, e, c, t, q⟩ => ⟨v, e, c, t, h _ _ q⟩)
    clear zz eS eL hL0 nLS lay0 H1 H2 L x
    rintro q σ H2 ⟨s, l, n, L, us, a4, a5, a6, a7, a8, rfl, z, eS, eL, hL0, nLS, lay, LY, hn, pre, rfl⟩
    refine k_var rfl ⟨_, .inl ⟨_, SqL.of eL, rfl⟩, ?_⟩
    have sP : s.length ≤ Ps.length := nodup_sub LY.nd LY.sub
    by_cases c : l = []
    · subst c
      have : us = [] := List.length_eq_zero_iff.mp lay.1
      subst this
      refine iteF ?_
      walk_at "go"
      exact k none H2 z (pre _ .done)
    · have une : us ≠ [] := fun e => c (List.length_eq_zero_iff.mp (by rw [← lay.1, e]; rfl))
      refine k_yes (by cases us with | nil => exact absurd rfl une | cons a r => rfl) ?_
      rw [if_neg c] at hn
      have n1000 : n < 1000 := by omega
      walk_at "go"
      refine ⟨(by decide : 0 ≤ sizeLine), fun M hM => ?_⟩
      have hM0 := free_of z hM
      have nMS : M ≠ S := (ne_of_none eS hM).symm
      have nML : M ≠ L := (ne_of_none eL hM).symm
      have zM := Same.new (o := .lst []) hM
      walk_at "go"
      refine ⟨L, rfl, ⟨_, SqL.of (zM _ _ eL)⟩, for_list (xs := us) (fun i σ H' => ∃ s2 l2 us2 a5 a6 a7 a8, Same H H' ∧ H' S = some (.dT (skv s2)) ∧ H' M = some (.lst us2) ∧ LayAt H' us2 l2 ∧ H' L = some (.lst us) ∧ LayAt H' us l ∧ proc (evs mv (l.take i)) s [] = .inr (s2, l2) ∧
          σ = [some (.ref D), some (.ref t), some (.ref S), some (.ref L), some (.ref M), a5, a6, a7, a8])
        ⟨s, [], [], _, _, _, _, z.trans zM, zM _ _ eS, upd_same, LayAt.nil, zM _ _ eL, lay.same zM, rfl, rfl⟩ (fun i σ H' _ ⟨_, _, _, _, _, _, _, _, _, _, _, e, _⟩ => SqL.of e) ?_ ?_⟩
      · clear zM
        rintro i y σ H3 hy ⟨s2, l2, us2, a5, a6, a7, a8, z3, eS3, eM3, lay2, eL3, layL, pr, rfl⟩
        have il : i < l.length := by rw [← lay.1]; exact (List.getElem?_eq_some_iff.mp hy).1
        have ei : l[i]? = some (l[i]'il) := List.getElem?_eq_getElem il
        obtain ⟨x, tp, ex, hx, htp⟩ := layL.2 i _ ei
        rw [hy] at ex
        cases ex
        have lyi := LY.lay _ (List.getElem_mem il)
        have ev1 := evs_take (mv := mv) ei
        have sub1 : ∀ w q, (w, some q) ∈ evs mv (l.take (i + 1)) → q ∈ Ps ∧ w.length = n + 1 := fun w q h => evs_in cl LY w q (by rw [evs_split mv l (i + 1)]; exact List.mem_append_left _ h)
        have fnd : ∀ w, proc (evs mv (l.take (i + 1))) s [] = .inl w → Bfs mv [b] [(b, [])] (some w) := fun w h => pre _ (.found c (by rw [evs_split mv l (i + 1), proc_app, h]))
        rw [ev1] at sub1 fnd ⊢
        generalize l[i]'il = pw at hx htp lyi sub1 fnd ⊢
        obtain ⟨p, wd⟩ := pw
        obtain ⟨kvs, eD, mvs⟩ := id hmv
        obtain ⟨qm, um, vm, em, evm⟩ := mvs p lyi.1
        refine k_gt (SqT.of hx) rfl ?_
        walk_at "go"
        have dg := DGet.t (z3 _ _ eD) htp
        rw [vm] at dg
        refine ⟨D, _, rfl, dg, qm, rfl, ⟨_, SqL.of (z3 _ _ em)⟩, ?_⟩
        refine for_list (xs := um) (fun j σ H' => ∃ s2 l2 us2 a7 a8, Same H H' ∧ H' S = some (.dT (skv s2)) ∧ H' M = some (.lst us2) ∧ LayAt H' us2 l2 ∧ H' L = some (.lst us) ∧ LayAt H' us l ∧
            proc (evs mv (l.take i) ++ ((mv p).take j).map fun ce => (wd ++ [ce.1], ce.2)) s [] = .inr (s2, l2) ∧
            σ = [some (.ref D), some (.ref t), some (.ref S), some (.ref L), some (.ref M), some (.ref tp), some (.str (sOf wd)), a7, a8])
          ⟨s2, l2, us2, _, _, z3, eS3, eM3, lay2, eL3, layL, by rw [List.take_zero, List.map_nil, List.append_nil]; exact pr, rfl⟩ (fun j σ H' _ ⟨_, _, _, _, _, zj, _⟩ => SqL.of (zj _ _ em)) ?_ ?_
        · clear z3 eS3 eM3 lay2 eL3 layL pr eD mvs vm dg hx htp
          rintro j y σ H4 hy ⟨s2, l2, us2, a7, a8, z4, eS4, eM4, lay2, eL4, layL, pr, rfl⟩
          have jl : j < (mv p).length := by rw [← evm.1]; exact (List.getElem?_eq_some_iff.mp hy).1
          have ej : (mv p)[j]? = some ((mv p)[j]'jl) := List.getElem?_eq_getElem jl
          obtain ⟨x2, v2, ex, hx2, hv2⟩ := (evm.same z4).2 j _ ej
          rw [hy] at ex
          cases ex
          have tk := ev_take (w := wd) ej
          have cut : ∀ r, (((mv p).take (j + 1)).map fun ce => (wd ++ [ce.1], ce.2)) ++ r = (((mv p).take j).map fun ce => (wd ++ [ce.1], ce.2)) ++ ((wd ++ [((mv p)[j]'jl).1], ((mv p)[j]'jl).2) :: r) := fun r => by rw [tk, List.append_assoc]; rfl
          have full : (mv p).map (fun ce => (wd ++ [ce.1], ce.2)) = (((mv p).take j).map fun ce => (wd ++ [ce.1], ce.2)) ++ ((wd ++ [((mv p)[j]'jl).1], ((mv p)[j]'jl).2) :: ((mv p).drop (j + 1)).map fun ce => (wd ++ [ce.1], ce.2)) := by
            rw [← cut, ← List.map_append, List.take_append_drop]
          rw [full] at sub1 fnd
          have lw : wd.length = n := lyi.2
          rw [tk, ← List.append_assoc]
          generalize (mv p)[j]'jl = ce at hx2 hv2 sub1 fnd
          obtain ⟨lt, en⟩ := ce
          generalize ((mv p).drop (j + 1)).map (fun ce => (wd ++ [ce.1], ce.2)) = rest at sub1 fnd
          generalize ((mv p).take j).map (fun ce => (wd ++ [ce.1], ce.2)) = done at pr sub1 fnd
          have joined : ∀ {α : Type} (a : List α) (b : List α) (x : α) (r : List α), a ++ (b ++ x :: r) = (a ++ b) ++ (x :: r) := fun a b x r => by simp
          rw [joined] at sub1 fnd
          generalize evs mv (l.take i) ++ done = before at pr sub1 fnd ⊢
          have LY2 := proc_lay (P := Ps) (n := n + 1) (fun w q h => sub1 w q (List.mem_append_left _ h)) ⟨LY.nd, LY.sub, fun pw h => by cases h⟩ pr
          have s2P : s2.length ≤ Ps.length := nodup_sub LY2.1.nd LY2.1.sub
          refine k_gt (SqT.of hx2) rfl ?_
          walk_at "go"
          have cat : (sOf wd).length + (⟨#[lt]⟩ : Str).length ≤ sizeLine := by
            rw [sOf_len, lw]
            exact Nat.le_trans (show n + 1 ≤ 1000 by omega) (by decide)
          cases en with
          | none =>
            have : v2 = .non := hv2
            subst this
            refine iteT ?_
            walk_at "go"
            refine ⟨_, _, rfl, rfl, cat, ?_⟩
            rw [sOf_snoc]
            exact k (some (wd ++ [lt])) H4 z4 (fnd _ (by rw [proc_app, pr]; rfl))
          | some q =>
            obtain ⟨tq, ev2, hq⟩ := hv2
            subst ev2
            refine iteF ?_
            walk_at "go"
            have dg := DGet.t eS4 hq
            rw [valV_skv] at dg
            refine ⟨S, _, rfl, dg, ?_⟩
            walk_at "go"
            have step : proc (before ++ [(wd ++ [lt], some q)]) s [] = if q ∈ s2 then .inr (s2, l2) else .inr (s2 ++ [q], l2 ++ [(q, wd ++ [lt])]) := by
              rw [proc_app, pr]
              rfl
            by_cases d : q ∈ s2
            · rw [if_pos d] at step ⊢
              refine iteF ?_
              walk_at "go"
              exact ⟨s2, l2, us2, _, _, z4, eS4, eM4, lay2, eL4, layL, step, rfl⟩
            · rw [if_neg d] at step ⊢
              refine iteT ?_
              walk_at "go"
              have small : (skv s2).length < sizeLine := by
                unfold skv
                rw [List.length_map]
                exact Nat.lt_of_le_of_lt (show _ ≤ 1000 by omega) (by decide)
              refine ⟨S, _, rfl, DPut.t eS4 hq small, ?_⟩
              rw [putK_skv d]
              have nS : ∀ xs, H4 S ≠ some (.tup xs) := fun xs e => by rw [eS4] at e; cases e
              have nM : ∀ xs, H4 M ≠ some (.tup xs) := fun xs e => by rw [eM4] at e; cases e
              have eM5 : (upd H4 S (.dT (skv (s2 ++ [q])))) M = some (.lst us2) := by rw [upd_ne nMS]; exact eM4
              have eL5 : (upd H4 S (.dT (skv (s2 ++ [q])))) L = some (.lst us) := by rw [upd_ne nLS]; exact eL4
              have hq5 : PlAt (upd H4 S (.dT (skv (s2 ++ [q])))) tq q := tupl_upd nS hq
              have lay5 := lay2.put (o := .dT (skv (s2 ++ [q]))) nS
              have layL5 := layL.put (o := .dT (skv (s2 ++ [q]))) nS
              have z5 : Same H (upd H4 S (.dT (skv (s2 ++ [q])))) := Same.mut z4 hS0
              have eS5 : (upd H4 S (.dT (skv (s2 ++ [q])))) S = some (.dT (skv (s2 ++ [q]))) := upd_same
              generalize upd H4 S (.dT (skv (s2 ++ [q]))) = H5 at eM5 eL5 hq5 lay5 layL5 z5 eS5 ⊢
              clear lay2 layL eS4 eM4 eL4 z4 hx2 hq dg nS nM
              walk_at "go"
              refine ⟨.inl ⟨rfl, _, SqL.of eM5⟩, ?_⟩
              walk_at "go"
              refine ⟨_, _, rfl, rfl, cat, ?_⟩
              rw [sOf_snoc]
              walk_at "go"
              refine ⟨(by decide : 2 ≤ sizeLine), fun y2 hy2 => ?_⟩
              have zy := Same.new (o := .tup [V.ref tq, .str (sOf (wd ++ [lt]))]) hy2
              have ey : (upd H5 y2 (.tup [V.ref tq, .str (sOf (wd ++ [lt]))])) y2 = some (.tup [V.ref tq, .str (sOf (wd ++ [lt]))]) := upd_same
              have eM6 := zy _ _ eM5
              have eL6 := zy _ _ eL5
              have eS6 := zy _ _ eS5
              have hq6 : PlAt _ tq q := zy _ _ hq5
              have lay6 := (lay5.same zy).snoc (pw := (q, wd ++ [lt])) ey hq6
              have layL6 := layL5.same zy
              have z6 := z5.trans zy
              generalize upd H5 y2 (.tup [V.ref tq, .str (sOf (wd ++ [lt]))]) = H6 at eM6 eL6 eS6 lay6 layL6 z6 ⊢
              clear zy ey hq6 hq5 lay5 layL5 z5 eS5 eM5 eL5
              walk_at "go"
              have nM6 : ∀ xs, H6 M ≠ some (.tup xs) := fun xs e => by rw [eM6] at e; cases e
              refine k_append eM6 ?_ ?_
              · have := lay6.1
                rw [List.length_append, List.length_append] at this
                have := LY2.2
                rw [List.length_nil] at this
                simp only [List.length_singleton] at *
                exact Nat.lt_of_le_of_lt (show us2.length ≤ 1000 by omega) (by decide)
              exact ⟨s2 ++ [q], l2 ++ [(q, wd ++ [lt])], us2 ++ [.ref y2], _, _, Same.mut z6 hM0, by rw [upd_ne nMS.symm]; exact eS6, upd_same, lay6.put nM6, by rw [upd_ne nML.symm]; exact eL6, layL6.put nM6, step, rfl⟩
        · rintro σ H4 ⟨s2, l2, us2, a7, a8, z4, eS4, eM4, lay2, eL4, layL, pr, rfl⟩
          rw [evm.1, List.take_length] at pr
          exact ⟨s2, l2, us2, _, _, _, _, z4, eS4, eM4, lay2, eL4, layL, pr, rfl⟩
      · rintro σ H3 ⟨s2, l2, us2, a5, a6, a7, a8, z3, eS3, eM3, lay2, eL3, layL, pr, rfl⟩
        rw [lay.1, List.take_length] at pr
        have LY2 := proc_lay (P := Ps) (n := n + 1) (evs_in cl LY) ⟨LY.nd, LY.sub, fun pw h => by cases h⟩ pr
        have s2P : s2.length ≤ Ps.length := nodup_sub LY2.1.nd LY2.1.sub
        have ll := LY2.2
        rw [List.length_nil] at ll
        have key : (l2 = [] ∧ s2.length = s.length) ∨ (l2 ≠ [] ∧ s.length + 1 ≤ s2.length) := by
          by_cases d : l2 = []
          · rw [d] at ll; exact .inl ⟨d, by simpa using ll⟩
          · have := List.length_pos_iff.mpr d
            exact .inr ⟨d, by omega⟩
        walk_at "go"
        refine ⟨2 * (1000 - s2.length) + (if l2 = [] then 0 else 1), ?_, s2, l2, n + 1, M, us2, _, _, _, _, _, rfl, z3, eS3, eM3, hM0, nMS, lay2, LY2.1, ?_, fun r h => pre r (.next c pr h), rfl⟩
        · rw [if_neg c]
          rcases key with ⟨d, e⟩ | ⟨d, e⟩
          · rw [if_pos d]; omega
          · rw [if_neg d]; omega
        · rcases key with ⟨d, e⟩ | ⟨d, e⟩
          · rw [if_pos d]; omega
          · rw [if_neg d]; omega
end
/-! ### first_leaving -/
def mvB (m : MD) (lo hi : Int) : Mv := fun p => (m.ss.filter fun s => decide ((s.b : Int) = p.1)).map fun s => (s.c, if lo ≤ p.2 + s.g ∧ p.2 + s.g ≤ hi then some ((s.e : Int), p.2 + s.g) else none)
theorem EvAt.nil {H : Hp} : EvAt H [] [] := ⟨rfl, fun i ce e => by simp at e⟩
theorem EvAt.snoc {H : Hp} {us : List V} {l : List (Nat × Option Pl)} {x : Addr} {v : V} {ce : Nat × Option Pl} (h : EvAt H us l) (hx : H x = some (.tup [.str ⟨#[ce.1]⟩, v])) (hv : EndAt H v ce.2) : EvAt H (us ++ [V.ref x]) (l ++ [ce]) := by
  refine ⟨by rw [List.length_append, List.length_append, h.1]; rfl, fun i q e => ?_⟩
  by_cases c : i < l.length
  · rw [List.getElem?_append_left c] at e
    obtain ⟨a, b, e1, q1⟩ := h.2 i q e
    exact ⟨a, b, by rw [List.getElem?_append_left (by rw [h.1]; exact c)]; exact e1, q1⟩
  · rw [List.getElem?_append_right (by omega)] at e
    have z : i - l.length = 0 := by
      have := (List.getElem?_eq_some_iff.mp e).1
      simp at this
      omega
    rw [z] at e
    cases e
    exact ⟨x, v, by rw [List.getElem?_append_right (by rw [h.1]; omega), h.1, z]; rfl, hx, hv⟩
theorem EndAt.put {H : Hp} {v : V} {e : Option Pl} {F : Addr} {o : HO} (h : EndAt H v e) (hF : ∀ xs, H F ≠ some (.tup xs)) : EndAt (upd H F o) v e := by
  cases e with
  | none => exact h
  | some q => obtain ⟨t, a, b⟩ := h; exact ⟨t, a, tupl_upd hF b⟩
theorem EvAt.put {H : Hp} {us : List V} {l : List (Nat × Option Pl)} {F : Addr} {o : HO} (h : EvAt H us l) (hF : ∀ xs, H F ≠ some (.tup xs)) : EvAt (upd H F o) us l := ⟨h.1, fun i ce e => let ⟨x, v, a, b, c⟩ := h.2 i ce e; ⟨x, v, a, tupl_upd hF b, c.put hF⟩⟩
def sp_mfrom (K : PySem.W.Frag) (C : Addr) : Sp := fun vs H Q _ => ∃ (x : Addr) (m : MD) (p : Pl) (lo hi : Int), vs = [.ref x, .int p.1, .int p.2, .int lo, .int hi] ∧ MAt K C H x m ∧ m.Ok ∧
  ∀ q us H', Same H H' → H q = none → H' q = some (.lst us) → EvAt H' us (mvB m lo hi p) → Q (.ref q) H'
def sp_fl (K : PySem.W.Frag) (C : Addr) : Sp := fun vs H Q _ => ∃ (x : Addr) (m : MD) (lo hi : Int), vs = [.ref x, .int lo, .int hi] ∧ MAt K C H x m ∧ m.Ok ∧ -20 ≤ lo ∧ lo ≤ hi ∧ hi ≤ 20 ∧
  (¬ (lo ≤ 0 ∧ 0 ≤ hi) → ∀ H', Same H H' → Q (.str "") H') ∧ (lo ≤ 0 ∧ 0 ≤ hi → ∀ r H', Same H H' → Bfs (mvB m lo hi) [(0, 0)] [((0, 0), [])] r → Q (resV r) H')
/-- all places of a machine in bounds -/
def allP (n : Nat) (lo hi : Int) : List Pl := (List.range n).flatMap fun a : Nat => (List.range (hi + 1 - lo).toNat).map fun j : Nat => (((a : Nat) : Int), lo + ((j : Nat) : Int))
theorem allP_mem {n : Nat} {lo hi : Int} {p : Pl} : p ∈ allP n lo hi ↔ ∃ a : Nat, a < n ∧ p.1 = (a : Int) ∧ lo ≤ p.2 ∧ p.2 ≤ hi := by
  unfold allP
  rw [List.mem_flatMap]
  constructor
  · rintro ⟨a, ha, h⟩
    obtain ⟨j, hj, rfl⟩ := List.mem_map.mp h
    have := List.mem_range.mp hj
    exact ⟨a, List.mem_range.mp ha, rfl, by show lo ≤ lo + (j : Int); omega, by show lo + (j : Int) ≤ hi; omega⟩
  · rintro ⟨a, ha, e, h1, h2⟩
    refine ⟨a, List.mem_range.mpr ha, List.mem_map.mpr ⟨(p.2 - lo).toNat, List.mem_range.mpr (by omega), ?_⟩⟩
    refine Prod.ext e.symm ?_
    show lo + (((p.2 - lo).toNat : Nat) : Int) = p.2
    omega
theorem allP_len (n : Nat) (lo hi : Int) : (allP n lo hi).length = n * (hi + 1 - lo).toNat := by
  unfold allP
  induction n with
  | zero => simp
  | succ n ih =>
    rw [List.range_succ, List.flatMap_append, List.length_append, ih]
    simp [Nat.succ_mul]
theorem mvB_closed {m : MD} (o : m.Ok) (lo hi : Int) : ClosedM (mvB m lo hi) (allP m.n lo hi) := fun p _ c q h => by
  obtain ⟨s, hs, e⟩ := List.mem_map.mp h
  injection e with e1 e2
  split at e2
  · rename_i b
    injection e2 with e2
    rw [← e2]
    exact allP_mem.mpr ⟨s.e, (o.ok s (List.mem_filter.mp hs).1).e, rfl, b.1, b.2⟩
  · cases e2
theorem mvB_len {m : MD} (o : m.Ok) (lo hi : Int) (p : Pl) : (mvB m lo hi p).length ≤ 100 := by
  unfold mvB
  rw [List.length_map]
  have := List.length_filter_le (fun s : Stp => decide ((s.b : Int) = p.1)) m.ss
  have := o.len
  omega
theorem mvB_take {m : MD} {lo hi : Int} {p : Pl} {i : Nat} {s : Stp} (h : m.ss[i]? = some s) : ((m.ss.take (i + 1)).filter fun s => decide ((s.b : Int) = p.1)) = ((m.ss.take i).filter fun s => decide ((s.b : Int) = p.1)) ++ (if (s.b : Int) = p.1 then [s] else []) := by
  rw [List.take_add_one, h, List.filter_append]
  congr 1
  show List.filter _ [s] = _
  rw [List.filter_cons]
  by_cases c : (s.b : Int) = p.1
  · rw [if_pos c, if_pos (decide_eq_true c)]; rfl
  · rw [if_neg c, if_neg (by rw [decide_eq_false c]; exact Bool.false_ne_true)]; rfl
theorem k_rng2 {ta : TA} {σ : L2.St} {H : Hp} {R : It → Hp → Prop} (h : ta σ H fun vs H1 => ∃ i j : Int, vs = [.int i, .int j] ∧ (-(2 ^ 62) ≤ i ∧ i < 2 ^ 62 ∧ -(2 ^ 62) ≤ j ∧ j < 2 ^ 62) ∧ R (Itr i (j - i).toNat) H1) : iRng2 ta σ H R := h
theorem k_dc2T {wi : TI} {g : TG} {tt : TT} {wi1 : TI} {g1 : TG} {tt1 : TT} {tk tv : TE} {vs vs1 : List Nat} {σ : L2.St} {H : Hp} {Q : VK} (h : wi σ H fun J H1 => ∀ D, H1 D = none → ∃ W : Nat → Nat → Hp → Prop, (∃ m, W 0 m (upd H1 D (.dT []))) ∧ ∀ i m H, W i m H →
  (J.stop i H ∧ Q (.ref D) H) ∨ (J.go i H ∧ ∃ Nx : Hp → Prop, (∀ H', Nx H' → ∃ m', m' < m ∧ W (i + 1) m' H') ∧ ∀ x H', J.yld i H x H' → g x (wipe σ vs) H' fun σ2 H2 => wipe σ2 vs = wipe σ vs ∧ tt σ2 H2 fun b H3 =>
    if b = true then wi1 σ2 H3 fun J1 H4 => ∃ W1 : Nat → Nat → Hp → Prop, (∃ m, W1 0 m H4) ∧ ∀ j k H, W1 j k H →
      (J1.stop j H ∧ Nx H) ∨ (J1.go j H ∧ ∃ Nx1 : Hp → Prop, (∀ H', Nx1 H' → ∃ k', k' < k ∧ W1 (j + 1) k' H') ∧ ∀ x H', J1.yld j H x H' → g1 x (wipe σ2 vs1) H' fun σ3 H5 => wipe σ3 vs1 = wipe σ2 vs1 ∧ tt1 σ3 H5 fun b H6 =>
        if b = true then tk σ3 H6 fun y H7 => tv σ3 H7 fun z H8 => ∃ kvs k b, y = .ref b ∧ H8 b = some (.tup (k.map kV)) ∧ H8 D = some (.dT kvs) ∧ kvs.length < sizeLine ∧ Nx1 (upd H8 D (.dT (putK kvs k z))) else Nx1 H6)
    else Nx H3)) : tDc2T wi g tt wi1 g1 tt1 tk tv vs vs1 σ H Q := h
section
variable {P : Program} {w : World} {K : PySem.W.Frag} {mg : Str → Option Value} {base : Heap}
theorem ok_moves_from (T : Txt K mg) : FnOk P w K mg base (L2.CX P w) 3 T.a_moves_from T.fd_moves_from ["machine", "stand", "tally", "low", "high"] (sp_mfrom K T.c_Machine) := by
  refine T.F_moves_from.okX sc_moves_from (fun vs H Q E h => ?_) (fun cdv A outer s H vs Q E hr h => ?_)
  · obtain ⟨x, m, p, lo, hi, rfl, _⟩ := h
    rfl
  · obtain ⟨x, m, p, lo, hi, rfl, hm, o, k⟩ := h
    obtain ⟨dx, tt, u, hx, hp0⟩ := id hm
    obtain ⟨us, hs, hu⟩ := id hp0.1
    have l32 := o.len
    refine ⟨_, (PSs.nox (pss_cons (ps_set (i := 5) sc_moves_from.nd rfl (Or.inl rfl) (pe_lst pa_nil))
  (pss_cons (ps_for PassesOwn.never rfl (pi_tup (pe_prop (pv 0) T.cl_Machine T.p_steps (ok_Machine_steps T) (hr.mono (by decide)) T.b_Machine_steps .nil passL rfl)) (pg_tup rfl (pgs_cons (pg_name (i := 6) sc_moves_from.nd rfl (Or.inl rfl)) (pgs_cons (pg_name (i := 7) sc_moves_from.nd rfl (Or.inl rfl)) (pgs_cons (pg_name (i := 8) sc_moves_from.nd rfl (Or.inl rfl)) (pgs_cons (pg_name (i := 9) sc_moves_from.nd rfl (Or.inl rfl)) pgs_nil)))))
  (pss_one (ps_if (pt_cmpR op_eq (pv 6) (pv 1) (nomark _))
  (pss_one (ps_expr (pe_bm PySem.F.plainAttrs_list PySem.F.slot_list_append PySem.F.type_list_append mt_append (pv 5) (pa_cons (pe_tup (pa_cons (pv 7) (pa_cons (pe_ifExp (pt_chain op_le op_le (pv 3) (pe_op op_add (pv 2) (pv 9)) (pv 4)) (pe_tup (pa_cons (pv 8) (pa_cons (pe_op op_add (pv 2) (pv 9)) pa_nil))) pe_non) pa_nil))) pa_nil))))
  pss_nil)))
  (pss_one (ps_ret (pv 5)))))), ?_⟩
    walk_at "begin"
    walk_at "go"
    refine ⟨(by decide : 0 ≤ sizeLine), fun L hL => ?_⟩
    have zL := Same.new (o := .lst []) hL
    walk_at "go"
    refine ⟨x, dx, _, rfl, zL _ _ hx, x, dx, _, .ref tt, rfl, zL _ _ hx, rfl, ?_⟩
    walk_at "go"
    refine ⟨tt, rfl, ⟨us, (same_tups zL).sq hs⟩, for_tup (xs := us) (fun i σ H' => ∃ vs a6 a7 a8 a9, Same H H' ∧ H' L = some (.lst vs) ∧ vs.length ≤ i ∧ EvAt H' vs (((m.ss.take i).filter fun s => decide ((s.b : Int) = p.1)).map fun s => (s.c, if lo ≤ p.2 + s.g ∧ p.2 + s.g ≤ hi then some ((s.e : Int), p.2 + s.g) else none)) ∧
      σ = [some (.ref x), some (.int p.1), some (.int p.2), some (.int lo), some (.int hi), some (.ref L), a6, a7, a8, a9]) ⟨[], _, _, _, _, zL, upd_same, Nat.le_refl _, EvAt.nil, rfl⟩ (fun i σ H' _ ⟨_, _, _, _, _, z, _⟩ => (same_tups z).sq hs) ?_ ?_⟩
    · rintro i y σ H1 hy ⟨vs, a6, a7, a8, a9, z, eL, lv, ev, rfl⟩
      have il : i < m.ss.length := by rw [← hu.1]; exact (List.getElem?_eq_some_iff.mp hy).1
      have ei : m.ss[i]? = some (m.ss[i]'il) := List.getElem?_eq_getElem il
      obtain ⟨q, eq, hq⟩ := hu.2 i _ ei
      rw [hy] at eq
      cases eq
      rw [mvB_take (lo := lo) (hi := hi) (p := p) ei]
      generalize m.ss[i]'il = s0 at hq
      refine k_gt ((same_tups z).sq hq) rfl ?_
      unfold stpV
      walk_at "go"
      rw [dec_int]
      refine k_ite (fun c => ?_) (fun c => ?_)
      · rw [if_pos c, List.map_append]
        walk_at "go"
        refine ⟨.inl ⟨rfl, _, SqL.of eL⟩, ?_⟩
        walk_at "go"
        have small : vs.length < sizeLine := Nat.lt_of_le_of_lt (show _ ≤ 100 by omega) (by decide)
        -- the pair laid
        have fin : ∀ (v : V) (H2 : Hp), Same H H2 → H2 L = some (.lst vs) → EvAt H2 vs (((m.ss.take i).filter fun s => decide ((s.b : Int) = p.1)).map fun s => (s.c, if lo ≤ p.2 + s.g ∧ p.2 + s.g ≤ hi then some ((s.e : Int), p.2 + s.g) else none)) →
            EndAt H2 v (if lo ≤ p.2 + s0.g ∧ p.2 + s0.g ≤ hi then some ((s0.e : Int), p.2 + s0.g) else none) → ∀ pn, H2 pn = none → ∃ vs' a6' a7' a8' a9', Same H (upd (upd H2 pn (.tup [.str ⟨#[s0.c]⟩, v])) L (.lst (vs ++ [.ref pn]))) ∧ (upd (upd H2 pn (.tup [.str ⟨#[s0.c]⟩, v])) L (.lst (vs ++ [.ref pn]))) L = some (.lst vs') ∧ vs'.length ≤ i + 1 ∧
              EvAt (upd (upd H2 pn (.tup [.str ⟨#[s0.c]⟩, v])) L (.lst (vs ++ [.ref pn]))) vs' ((((m.ss.take i).filter fun s => decide ((s.b : Int) = p.1)).map fun s => (s.c, if lo ≤ p.2 + s.g ∧ p.2 + s.g ≤ hi then some ((s.e : Int), p.2 + s.g) else none)) ++ [s0].map fun s => (s.c, if lo ≤ p.2 + s.g ∧ p.2 + s.g ≤ hi then some ((s.e : Int), p.2 + s.g) else none)) ∧
              [some (V.ref x), some (.int p.1), some (.int p.2), some (.int lo), some (.int hi), some (.ref L), some (.int (s0.b : Nat)), some (.str ⟨#[s0.c]⟩), some (.int (s0.e : Nat)), some (.int s0.g)] = [some (V.ref x), some (.int p.1), some (.int p.2), some (.int lo), some (.int hi), some (.ref L), a6', a7', a8', a9'] := fun v H2 z2 eL2 ev2 hv pn hpn => by
          have zp := Same.new (o := .tup [V.str ⟨#[s0.c]⟩, v]) hpn
          have eL3 := zp _ _ eL2
          have nT : ∀ xs, (upd H2 pn (.tup [V.str ⟨#[s0.c]⟩, v])) L ≠ some (.tup xs) := fun xs e => by rw [eL3] at e; cases e
          exact ⟨_, _, _, _, _, Same.mut (z2.trans zp) hL, upd_same, by rw [List.length_append, List.length_singleton]; omega, ((ev2.same zp).snoc (ce := (s0.c, _)) upd_same (hv.same zp)).put nT, rfl⟩
        refine k_chain ?_
        walk_at "go"
        refine k_ite (fun c1 => ?_) (fun c1 => ?_)
        · walk_at "go"
          refine k_ite (fun c2 => ?_) (fun c2 => ?_)
          · walk_at "go"
            refine ⟨(by decide : 2 ≤ sizeLine), fun pt hpt => ?_⟩
            have zt := Same.new (o := .tup [V.int (s0.e : Nat), .int (p.2 + s0.g)]) hpt
            walk_at "go"
            refine ⟨(by decide : 2 ≤ sizeLine), fun pn hpn => ?_⟩
            walk_at "go"
            refine k_append (by rw [upd_ne (ne_of_none (zt _ _ eL) hpn)]; exact zt _ _ eL) small ?_
            exact fin _ _ (z.trans zt) (zt _ _ eL) (ev.same zt) (by rw [if_pos ⟨c1, c2⟩]; exact ⟨pt, rfl, upd_same⟩) pn hpn
          · walk_at "go"
            refine ⟨(by decide : 2 ≤ sizeLine), fun pn hpn => ?_⟩
            walk_at "go"
            refine k_append (by rw [upd_ne (ne_of_none eL hpn)]; exact eL) small ?_
            exact fin .non H1 z eL ev (by rw [if_neg (fun w => c2 w.2)]; rfl) pn hpn
        · walk_at "go"
          refine iteF ?_
          walk_at "go"
          refine ⟨(by decide : 2 ≤ sizeLine), fun pn hpn => ?_⟩
          walk_at "go"
          refine k_append (by rw [upd_ne (ne_of_none eL hpn)]; exact eL) small ?_
          exact fin .non H1 z eL ev (by rw [if_neg (fun w => c1 w.1)]; rfl) pn hpn
      · rw [if_neg c, List.append_nil]
        walk_at "go"
        exact ⟨vs, _, _, _, _, z, eL, by omega, ev, rfl⟩
    · rintro σ H1 ⟨vs, a6, a7, a8, a9, z, eL, lv, ev, rfl⟩
      rw [hu.1, List.take_length] at ev
      walk_at "go"
      exact k L vs H1 z hL eL ev
theorem ok_first_leaving (T : Txt K mg) : FnOk P w K mg base (L2.CX P w) 5 T.a_first_leaving T.fd_first_leaving ["machine", "low", "high"] (sp_fl K T.c_Machine) := by
  refine T.F_first_leaving.okX sc_first_leaving (fun vs H Q E h => ?_) (fun cdv A outer s H vs Q E hr h => ?_)
  · obtain ⟨x, m, lo, hi, rfl, _⟩ := h
    rfl
  · obtain ⟨x, m, lo, hi, rfl, hm, o, b1, b2, b3, k1, k2⟩ := h
    obtain ⟨dx, tt, u, hx, hp0⟩ := id hm
    have n8 := o.n8
    have n1 := o.n1
    refine ⟨_, (PSs.nox (pss_cons (ps_expr (pe_call (ok_check_machine T) (hr.mono (by decide)) (by rfl) T.m_check_machine T.k_check_machine T.b_check_machine .nil passL (pa_cons (pv 0) pa_nil)))
  (pss_cons (ps_expr (pe_call (ok_check_bounds T) (hr.mono (by decide)) (by rfl) T.m_check_bounds T.k_check_bounds T.b_check_bounds .nil passL (pa_cons (pv 1) (pa_cons (pv 2) (pa_cons (pe_glob (by rfl) T.m_MOST_SMALL_BOUND T.r_MOST_SMALL_BOUND) pa_nil)))))
  (pss_cons (ps_if (pt_not (pt_chain op_le op_le (pv 1) pe_int (pv 2)))
  (pss_one (ps_ret pe_str))
  pss_nil)
  (pss_cons (ps_setDc2T (i := 3) (own := [("stand", 4), ("tally", 5)]) (g := (gName 4)) (tt := tYes) (g1 := (gName 5)) (tt1 := tYes) (vs1 := [5]) (hu_of hr) rfl sc_first_leaving.nd rfl rfl (sw_trueD rfl rfl rfl (by decide +kernel)) (pi_range1 (by rfl) T.z_range (pa_cons (pe_prop (pv 0) T.cl_Machine T.p_stands (ok_Machine_stands T) (hr.mono (by decide)) T.b_Machine_stands .nil passL rfl) pa_nil)) (blkOk_by (own := [("stand", 4), ("tally", 5)]) (N := ["machine", "low", "high", "moves", "stand", "tally"]) (sc := defScope s_first_leaving) (by decide +kernel)) (fun _ _ _ _ _ => (pg_name (i := 4) sc_first_leaving.nd rfl (Or.inl rfl))) (fun _ _ _ _ _ => pts_nil) (fun _ _ _ _ _ => (pe_tup (pa_cons (pv 4) (pa_cons (pv 5) pa_nil)))) (fun _ _ _ _ _ => (pe_call (ok_moves_from T) (hr.mono (by decide)) (by rfl) T.m_moves_from T.k_moves_from T.b_moves_from .nil passL (pa_cons (pv 0) (pa_cons (pv 4) (pa_cons (pv 5) (pa_cons (pv 1) (pa_cons (pv 2) pa_nil))))))) (fun _ _ _ _ _ => (pi_range2 (by rfl) T.z_range (pa_cons (pv 1) (pa_cons (pe_op op_add (pv 2) pe_int) pa_nil)))) (fun _ _ _ _ _ => (pg_name (i := 5) sc_first_leaving.nd rfl (Or.inl rfl))) (fun _ _ _ _ _ => pts_nil) (by decide))
  (pss_one (ps_ret (pe_call (ok_first_row_out T) (hr.mono (by decide)) (by rfl) T.m_first_row_out T.k_first_row_out T.b_first_row_out .nil passL (pa_cons (pv 3) (pa_cons (pe_tup (pa_cons pe_int (pa_cons pe_int pa_nil))) pa_nil)))))))))), ?_⟩
    walk_at "begin"
    walk_at "go"
    refine ⟨x, dx, _, rfl, hx, ?_⟩
    walk_at "go"
    refine ⟨_, _, _, rfl, by omega, by omega, by omega, ?_⟩
    walk_at "go"
    refine k_chain ?_
    walk_at "go"
    have out : ¬ (lo ≤ 0 ∧ 0 ≤ hi) → Q (.str "") H := fun c => k1 c H (Same.refl _)
    refine k_ite (fun c1 => ?_) (fun c1 => ?_)
    · walk_at "go"
      refine k_iteN (fun c2 => ?_) (fun c2 => ?_)
      · walk_at "go"
        refine k_dc2T ?_
        walk_at "go"
        refine ⟨x, dx, _, rfl, hx, x, dx, _, .int (m.n : Nat), rfl, hx, rfl, ?_⟩
        walk_at "go"
        refine k_rg (by omega) (by omega) fun D hD => ?_
        obtain ⟨N2, eN2⟩ : ∃ N2, N2 = (hi + 1 - lo).toNat := ⟨_, rfl⟩
        have N41 : N2 ≤ 41 := by omega
        refine it_gen walk_range (fun i H' => Same H H' ∧ ∃ kvs, H' D = some (.dT kvs) ∧ kvs.length ≤ i * N2 ∧ ∀ a t : Nat, t < N2 → a < i → ∃ q us, valV kvs (pk ((a : Int), lo + (t : Int))) = some (.ref q) ∧ H' q = some (.lst us) ∧ EvAt H' us (mvB m lo hi ((a : Int), lo + (t : Int))))
          ⟨Same.new hD, [], upd_same, Nat.zero_le _, fun a t _ h => absurd h (Nat.not_lt_zero _)⟩ (fun _ _ _ _ => trivial) ?_ ?_
        · rintro i y H1 H1' hi1 ⟨z1, kvs, eD, lk, ents⟩ ⟨rfl, hy⟩
          have iN : i < m.n := hi1
          have hy : y = V.int ((i : Nat) : Int) := by
            rw [hy]
            show V.int (0 + ((i : Nat) : Int)) = _
            congr 1
            omega
          subst hy
          walk_at "go"
          refine ⟨rfl, ?_⟩
          walk_at "go"
          refine iteT ?_
          refine k_rng2 ?_
          walk_at "go"
          refine ⟨_, _, rfl, ⟨by omega, by omega, by omega, by omega⟩, ?_⟩
          rw [← eN2]
          refine it_gen walk_range (fun j H' => Same H H' ∧ ∃ kvs, H' D = some (.dT kvs) ∧ kvs.length ≤ i * N2 + j ∧ ∀ a t : Nat, t < N2 → (a < i ∨ (a = i ∧ t < j)) → ∃ q us, valV kvs (pk ((a : Int), lo + (t : Int))) = some (.ref q) ∧ H' q = some (.lst us) ∧ EvAt H' us (mvB m lo hi ((a : Int), lo + (t : Int))))
            ⟨z1, kvs, eD, lk, fun a t ht h => ents a t ht (h.elim id fun w => absurd w.2 (Nat.not_lt_zero _))⟩ (fun _ _ _ _ => trivial) ?_ ?_
          · clear ents lk eD z1
            rintro j y H2 H2' hj ⟨z2, kvs, eD, lk, ents⟩ ⟨rfl, hy⟩
            have hy : y = V.int (lo + ((j : Nat) : Int)) := hy
            subst hy
            walk_at "go"
            refine ⟨rfl, ?_⟩
            walk_at "go"
            refine iteT ?_
            walk_at "go"
            refine ⟨(by decide : 2 ≤ sizeLine), fun b hb => ?_⟩
            have zb := Same.new (o := .tup [V.int ((i : Nat) : Int), .int (lo + ((j : Nat) : Int))]) hb
            walk_at "go"
            refine ⟨x, m, (((i : Nat) : Int), lo + ((j : Nat) : Int)), lo, hi, rfl, hm.same (z2.trans zb), o, fun q us H3 z3 hq eq ev => ?_⟩
            have small : kvs.length < sizeLine := by
              have : i * N2 ≤ 8 * 41 := Nat.mul_le_mul (by omega) N41
              exact Nat.lt_of_le_of_lt (show _ ≤ 1000 by omega) (by decide)
            have eD3 := z3 _ _ (zb _ _ eD)
            refine ⟨kvs, pk (((i : Nat) : Int), lo + ((j : Nat) : Int)), b, rfl, z3 _ _ upd_same, eD3, small, Same.mut ((z2.trans zb).trans z3) hD, _, upd_same, Nat.le_trans (length_putK _ _ _) (by omega), fun a t ht h => ?_⟩
            have nD : ∀ xs, H3 D ≠ some (.tup xs) := fun xs e => by rw [eD3] at e; cases e
            by_cases c : a = i ∧ t = j
            · obtain ⟨rfl, rfl⟩ := c
              have nq : q ≠ D := fun e => by rw [e, zb _ _ eD] at hq; cases hq
              exact ⟨q, us, by rw [valV_put, if_pos rfl], by rw [upd_ne nq]; exact eq, ev.put nD⟩
            · obtain ⟨q', us', v1, v2, v3⟩ := ents a t ht (by omega)
              have v2' := z3 _ _ (zb _ _ v2)
              have nq : q' ≠ D := fun e => by rw [e, eD] at v2; cases v2
              refine ⟨q', us', ?_, by rw [upd_ne nq]; exact v2', ((v3.same zb).same z3).put nD⟩
              rw [valV_put, if_neg (fun w => c ?_)]
              · exact v1
              · have := pk_inj w
                injection this with w1 w2
                exact ⟨by omega, by omega⟩
          · rintro H2 ⟨z2, kvs, eD, lk, ents⟩
            exact ⟨z2, kvs, eD, by rw [Nat.succ_mul]; exact lk, fun a t ht h => ents a t ht (by omega)⟩
        · rintro H1 ⟨z1, kvs, eD, lk, ents⟩
          walk_at "go"
          refine ⟨(by decide : 2 ≤ sizeLine), fun b hb => ?_⟩
          have zb := Same.new (o := .tup [V.int 0, .int 0]) hb
          walk_at "go"
          refine ⟨D, b, mvB m lo hi, allP m.n lo hi, (0, 0), rfl, ⟨kvs, zb _ _ eD, fun p hp => ?_⟩, upd_same, allP_mem.mpr ⟨0, n1, rfl, c1, c2⟩, mvB_closed o lo hi, ?_, mvB_len o lo hi, fun r H2 z2 B => ?_⟩
          · obtain ⟨a, ha, e1, h1, h2⟩ := allP_mem.mp hp
            obtain ⟨q, us, v1, v2, v3⟩ := ents a (p.2 - lo).toNat (by omega) ha
            have ep : p = (((a : Nat) : Int), lo + (((p.2 - lo).toNat : Nat) : Int)) := Prod.ext e1 (by show p.2 = lo + _; omega)
            rw [ep]
            exact ⟨q, us, v1, zb _ _ v2, v3.same zb⟩
          · rw [allP_len, ← eN2]
            exact Nat.le_trans (Nat.mul_le_mul n8 N41) (by decide)
          · walk_at "go"
            exact k2 ⟨c1, c2⟩ r H2 ((z1.trans zb).trans z2) B
      · walk_at "go"
        exact out fun w => c2 w.2
    · walk_at "go"
      refine iteT ?_
      walk_at "go"
      exact out fun w => c1 w.1
end
/-! ### a call of one of several defs, picked out of a list -/
def HeldX (P : Program) (w : World) (K : PySem.W.Frag) (mg : Str → Option Value) (base : Heap) (k : Nat) (f : Addr) (sp : Sp) : Prop := ∃ (j : Nat) (fd : FuncData) (ps : List Str), j ≤ k ∧ FnOk P w K mg base (L2.CX P w) j f fd ps sp ∧ PySem.W.keepIn K (.ref f) = true ∧ Binds K fd ps []
def tCallE (H0 : Addr → Sp → Prop) (tf : TE) (E : L2.St → XK) (t : TA) : TE := fun σ H Q => tf σ H fun v H1 => ∃ f sp, v = .ref f ∧ H0 f sp ∧ t σ H1 fun vs H2 => sp vs H2 Q (E σ)
theorem pe_callE {P : Program} {w : World} {K : PySem.W.Frag} {mg : Str → Option Value} {base : Heap} {X : Cx} {k : Nat} {l i e : Expr} {es : List Expr} {ip pos : Pos} {tf : TE} {E : L2.St → XK} {t : TA} (hh : ∀ f sp, HeldX P w K mg base k f sp → HeldX X.prog X.w X.K X.mg X.base k f sp)
    (hf : PE X (.Subscript l i ip) tf) (hr : Room k X.A) (hx : ∀ σ, PassesAt (L2.CX X.prog X.w) X σ (E σ)) (ha : PA X (e :: es) t)
    (he : starEach (e :: es) X.env = (false, eval e X.env) :: starEach es X.env := by rfl) (hpl : (backTo pos (starEach es X.env)).any (·.1) = false := by rfl) :
    PE X (.Call (.Subscript l i ip) (e :: es) [] pos) (tCallE (HeldX P w K mg base k) tf E t) := by
  refine ⟨fun pins s σ H Q I h => ?_⟩
  have ev : eval (.Call (.Subscript l i ip) (e :: es) [] pos) X.env = (do callWith pos (← eval (.Subscript l i ip) X.env) [] (backTo pos (starEach (e :: es) X.env)) (backToKw pos (keywordEach [] X.env))) := rfl
  rw [ev]
  refine wpAny_bind (thn (hf.run pins s σ H _ I h) fun u s0 ⟨v, H0, I0, r0, f, sp, ev, hd, q0⟩ => ?_)
  obtain ⟨j, fd, ps, hj, F, hk, hb⟩ := hh f sp hd
  subst ev
  obtain rfl : u = Value.ref f := r0
  refine PySem.W.callWith_K (h₀ := X.base) I.ok.mod.kin hk (thn (ha.run pos pins s0 σ H0 _ I0 q0) fun us s1 ⟨vs, H1, I1, r, q⟩ => ⟨I1.kIn, ?_⟩) he hpl
  exact run_fnS F (hr.mono hj) hb (hx σ) I1 r q
theorem k_callE {σ : L2.St} {H : Hp} {Q : VK} {H0 : Addr → Sp → Prop} {tf : TE} {E : L2.St → XK} {t : TA} (h : tf σ H fun v H1 => ∃ f sp, v = .ref f ∧ H0 f sp ∧ t σ H1 fun vs H2 => sp vs H2 Q (E σ)) : tCallE H0 tf E t σ H Q := h
/-! ### a number that is refused -/
/-- no integer from lo to hi, and stays so -/
def BadNum (K : PySem.W.Frag) (H : Hp) (lo hi : Int) (v : V) : Prop := (∃ i : Int, v = .int i ∧ ¬ (lo ≤ i ∧ i ≤ hi)) ∨ NotInt K H v
def sp_num (K : PySem.W.Frag) (B : Addr) : Sp := fun vs H Q E => ∃ (v : V) (lo hi : Int), vs = [v, .int lo, .int hi] ∧ ((∃ i : Int, v = .int i ∧ lo ≤ i ∧ i ≤ hi ∧ Q .non H) ∨ (BadNum K H lo hi v ∧ ∀ d H', Same H H' → H' d = some (.xd [("n", v)]) → E (.ref B) (some d) H'))
section
variable {P : Program} {w : World} {K : PySem.W.Frag} {mg : Str → Option Value} {base : Heap}
theorem ok_BadNumber_init (T : Txt K mg) : FnOk P w K mg base (L2.CX P w) 1 T.a_BadNumber_init T.fd_BadNumber_init ["self", "n"] (sp_einit K T.c_BadNumber "n") := by
  refine T.F_BadNumber_init.okX sc_BadNumber_init (fun vs H Q E h => ?_) (fun cdv A outer s H vs Q E hr h => ?_)
  · obtain ⟨a, v, rfl, _⟩ := h
    rfl
  · obtain ⟨a, v, rfl, ea, k⟩ := h
    refine ⟨_, (PSs.nox (pss_cons (ps_expr (pe_tveinit (by rfl) T.m_TallyError T.rd_TallyError T.fv_TallyError T.sg_TallyError (pa_cons (pv 0) (pa_cons pe_str pa_nil))))
  (pss_one (ps_ost (pv 0) (pv 1))))), ?_⟩
    walk_at "begin"
    walk_at "go"
    refine k_vei ?_
    walk_at "go"
    refine ⟨a, T.c_BadNumber, _, rfl, by decide, T.o_BadNumber, ea, ?_⟩
    dsimp only
    refine k_ost ?_
    walk_at "go"
    refine ⟨a, T.c_BadNumber, rfl, T.o_BadNumber, T.no_BadNumber_n, .inl ⟨ea, fun dx hd ne => ?_⟩⟩
    walk_at "go"
    exact k dx hd ne
theorem ok_check_number_bad (T : Txt K mg) : FnOk P w K mg base (L2.CX P w) 4 T.a_check_number T.fd_check_number ["value", "least", "most"] (sp_num K T.c_BadNumber) := by
  refine T.F_check_number.okX sc_check_number (fun vs H Q E h => ?_) (fun cdv A outer s H vs Q E hr h => ?_)
  · obtain ⟨v, lo, hi, rfl, _⟩ := h
    rfl
  · obtain ⟨v, lo, hi, rfl, h⟩ := h
    refine ⟨_, (pss_one (ps_if (pt_not (pt_val (pe_call (ok_is_integer_between T) (hr.mono (by decide)) (by rfl) T.m_is_integer_between T.k_is_integer_between T.b_is_integer_between .nil passL (pa_cons (pv 0) (pa_cons (pv 1) (pa_cons (pv 2) pa_nil))))))
  (pss_one (ps_raise rfl (takes_of rfl rfl rfl rfl) (pmk_oex T.o_BadNumber T.ie_BadNumber T.ti_BadNumber (ok_BadNumber_init T) (hr.mono (by decide)) T.b_BadNumber_init .nil passL (by rfl) T.m_BadNumber (pa_cons (pv 0) pa_nil))))
  pss_nil)), ?_⟩
    walk_at "begin"
    walk_at "go"
    refine ⟨_, _, _, rfl, ?_⟩
    rcases h with ⟨i, rfl, h1, h2, k⟩ | ⟨⟨i, rfl, hi⟩ | ni, k⟩
    · refine .inl ⟨i, rfl, ?_⟩
      rw [decide_eq_true ⟨h1, h2⟩]
      walk_at "go"
      refine iteF ?_
      walk_at "go"
      exact k
    · refine .inl ⟨i, rfl, ?_⟩
      rw [decide_eq_false hi]
      walk_at "go"
      refine iteT ?_
      walk_at "go"
      refine k_mkO ?_
      walk_at "go"
      refine ⟨(by decide : 1 ≤ 1000), fun a ha => ⟨a, _, rfl, upd_same, fun dx hd ne => ?_⟩⟩
      have hd' : H dx = none := by rw [upd_ne ne] at hd; exact hd
      exact ⟨rfl, dx, _, upd_same, by rw [upd_ne ne]; exact upd_same, hd', k _ _ (exc_same ha hd') upd_same⟩
    · refine .inr ⟨ni, ?_⟩
      walk_at "go"
      refine iteT ?_
      walk_at "go"
      refine k_mkO ?_
      walk_at "go"
      refine ⟨(by decide : 1 ≤ 1000), fun a ha => ⟨a, _, rfl, upd_same, fun dx hd ne => ?_⟩⟩
      have hd' : H dx = none := by rw [upd_ne ne] at hd; exact hd
      exact ⟨rfl, dx, _, upd_same, by rw [upd_ne ne]; exact upd_same, hd', k _ _ (exc_same ha hd') upd_same⟩
end
/-! ### bounds that are refused -/
def BadBnd (K : PySem.W.Frag) (H : Hp) (M : Int) (lo hi : V) : Prop := BadNum K H (-M) M lo ∨ ∃ i : Int, lo = .int i ∧ -M ≤ i ∧ i ≤ M ∧ BadNum K H i M hi
def sp_bnd (K : PySem.W.Frag) (B : Addr) : Sp := fun vs H Q E => ∃ (lo hi : V) (M : Int), vs = [lo, hi, .int M] ∧ ((∃ i j : Int, lo = .int i ∧ hi = .int j ∧ -M ≤ i ∧ i ≤ j ∧ j ≤ M ∧ Q .non H) ∨ (BadBnd K H M lo hi ∧ E (.ref B) none H))
section
variable {P : Program} {w : World} {K : PySem.W.Frag} {mg : Str → Option Value} {base : Heap}
theorem ok_check_bounds_bad (T : Txt K mg) : FnOk P w K mg base (L2.CX P w) 4 T.a_check_bounds T.fd_check_bounds ["low", "high", "most"] (sp_bnd K T.c_BadBounds) := by
  refine T.F_check_bounds.okX sc_check_bounds (fun vs H Q E h => ?_) (fun cdv A outer s H vs Q E hr h => ?_)
  · obtain ⟨lo, hi, M, rfl, _⟩ := h
    rfl
  · obtain ⟨lo, hi, M, rfl, h⟩ := h
    refine ⟨_, (pss_one (ps_if (PW.pt (pw_or (pt_not (pt_val (pe_call (ok_is_integer_between T) (hr.mono (by decide)) (by rfl) T.m_is_integer_between T.k_is_integer_between T.b_is_integer_between .nil passL (pa_cons (pv 0) (pa_cons (pe_un un_neg (pv 2)) (pa_cons (pv 2) pa_nil)))))) (pw_or1 (pt_not (pt_val (pe_call (ok_is_integer_between T) (hr.mono (by decide)) (by rfl) T.m_is_integer_between T.k_is_integer_between T.b_is_integer_between .nil passL (pa_cons (pv 1) (pa_cons (pv 0) (pa_cons (pv 2) pa_nil)))))))))
  (pss_one (ps_raise rfl (takes_of rfl rfl rfl rfl) (pmk_own PySem.F.excBase_ValueError T.x_BadBounds T.m_BadBounds T.k_BadBounds (raises_own T.b_BadBounds T.t_BadBounds) (by exact rfl))))
  pss_nil)), ?_⟩
    walk_at "begin"
    walk_at "go"
    refine ⟨_, _, _, rfl, ?_⟩
    rcases h with ⟨i, j, rfl, rfl, h1, h2, h3, k⟩ | ⟨(⟨i, rfl, hi⟩ | ni) | ⟨i, rfl, h1, h2, ⟨j, rfl, hj⟩ | nj⟩, k⟩
    · refine .inl ⟨i, rfl, ?_⟩
      rw [decide_eq_true ⟨h1, Int.le_trans h2 h3⟩]
      walk_at "go"
      refine iteF ?_
      walk_at "go"
      refine ⟨_, _, _, rfl, .inl ⟨j, rfl, ?_⟩⟩
      rw [decide_eq_true ⟨h2, h3⟩]
      walk_at "go"
      refine iteF ?_
      walk_at "go"
      exact k
    · refine .inl ⟨i, rfl, ?_⟩
      rw [decide_eq_false hi]
      walk_at "go"
      refine iteT ?_
      walk_at "go"
      exact k
    · refine .inr ⟨ni, ?_⟩
      walk_at "go"
      refine iteT ?_
      walk_at "go"
      exact k
    · refine .inl ⟨i, rfl, ?_⟩
      rw [decide_eq_true ⟨h1, h2⟩]
      walk_at "go"
      refine iteF ?_
      walk_at "go"
      refine ⟨_, _, _, rfl, .inl ⟨j, rfl, ?_⟩⟩
      rw [decide_eq_false hj]
      walk_at "go"
      refine iteT ?_
      walk_at "go"
      exact k
    · refine .inl ⟨i, rfl, ?_⟩
      rw [decide_eq_true ⟨h1, h2⟩]
      walk_at "go"
      refine iteF ?_
      walk_at "go"
      refine ⟨_, _, _, rfl, .inr ⟨nj, ?_⟩⟩
      walk_at "go"
      refine iteT ?_
      walk_at "go"
      exact k
end
/-! ### the functions refuse bounds -/
def big40 : Int := 10000000000000000000000000000000000000000
def sp_odd3 (K : PySem.W.Frag) (C B : Addr) (M : Int) : Sp := fun vs H _ E => ∃ (x dx : Addr) (fs : List (Str × V)) (lo hi : V), vs = [.ref x, lo, hi] ∧ H x = some (.ins C dx fs) ∧ BadBnd K H M lo hi ∧ E (.ref B) none H
def sp_odd4 (K : PySem.W.Frag) (C B : Addr) (M : Int) : Sp := fun vs H _ E => ∃ (x dx : Addr) (fs : List (Str × V)) (lo hi v : V), vs = [.ref x, lo, hi, v] ∧ H x = some (.ins C dx fs) ∧ BadBnd K H M lo hi ∧ E (.ref B) none H
def sp_oddc (K : PySem.W.Frag) (C B : Addr) (M : Int) : Sp := fun vs H _ E => ∃ (x dx : Addr) (fs : List (Str × V)) (lo hi : V), vs = [.ref x, .int 3, lo, hi] ∧ H x = some (.ins C dx fs) ∧ BadBnd K H M lo hi ∧ E (.ref B) none H
section
variable {P : Program} {w : World} {K : PySem.W.Frag} {mg : Str → Option Value} {base : Heap}
theorem ok_bar_odd (T : Txt K mg) : FnOk P w K mg base (L2.CX P w) 8 T.a_bar T.fd_bar ["machine", "low", "high"] (sp_odd3 K T.c_Machine T.c_BadBounds big40) := by
  refine T.F_bar.okX sc_bar (fun vs H Q E h => ?_) (fun cdv A outer s H vs Q E hr h => ?_)
  · obtain ⟨x, dx, fs, lo, hi, rfl, _⟩ := h
    rfl
  · obtain ⟨x, dx, fs, lo, hi, rfl, hx, bad, k⟩ := h
    refine ⟨_, (pss_cons (ps_expr (pe_call (ok_check_machine T) (hr.mono (by decide)) (by rfl) T.m_check_machine T.k_check_machine T.b_check_machine .nil passL (pa_cons (pv 0) pa_nil)))
  (pss_cons (ps_expr (pe_callS (ok_check_bounds_bad T) (hr.mono (by decide)) (by rfl) T.m_check_bounds T.k_check_bounds T.b_check_bounds (fun σ => passAt (takes_of rfl rfl rfl rfl) σ) (pa_cons (pv 1) (pa_cons (pv 2) (pa_cons (pe_glob (by rfl) T.m_MOST_NUMBER T.r_MOST_NUMBER) pa_nil)))))
  pss_any)), ?_⟩
    walk_at "begin"
    walk_at "go"
    refine ⟨x, dx, fs, rfl, hx, ?_⟩
    walk_at "go"
    refine k_callS ?_
    walk_at "go"
    exact ⟨lo, hi, _, rfl, .inr ⟨bad, k⟩⟩
theorem ok_first_leaving_odd (T : Txt K mg) : FnOk P w K mg base (L2.CX P w) 8 T.a_first_leaving T.fd_first_leaving ["machine", "low", "high"] (sp_odd3 K T.c_Machine T.c_BadBounds 20) := by
  refine T.F_first_leaving.okX sc_first_leaving (fun vs H Q E h => ?_) (fun cdv A outer s H vs Q E hr h => ?_)
  · obtain ⟨x, dx, fs, lo, hi, rfl, _⟩ := h
    rfl
  · obtain ⟨x, dx, fs, lo, hi, rfl, hx, bad, k⟩ := h
    refine ⟨_, (pss_cons (ps_expr (pe_call (ok_check_machine T) (hr.mono (by decide)) (by rfl) T.m_check_machine T.k_check_machine T.b_check_machine .nil passL (pa_cons (pv 0) pa_nil)))
  (pss_cons (ps_expr (pe_callS (ok_check_bounds_bad T) (hr.mono (by decide)) (by rfl) T.m_check_bounds T.k_check_bounds T.b_check_bounds (fun σ => passAt (takes_of rfl rfl rfl rfl) σ) (pa_cons (pv 1) (pa_cons (pv 2) (pa_cons (pe_glob (by rfl) T.m_MOST_SMALL_BOUND T.r_MOST_SMALL_BOUND) pa_nil)))))
  pss_any)), ?_⟩
    walk_at "begin"
    walk_at "go"
    refine ⟨x, dx, fs, rfl, hx, ?_⟩
    walk_at "go"
    refine k_callS ?_
    walk_at "go"
    exact ⟨lo, hi, _, rfl, .inr ⟨bad, k⟩⟩
theorem ok_stays_odd (T : Txt K mg) : FnOk P w K mg base (L2.CX P w) 8 T.a_stays T.fd_stays ["machine", "low", "high"] (sp_odd3 K T.c_Machine T.c_BadBounds big40) := by
  refine T.F_stays.okX sc_stays (fun vs H Q E h => ?_) (fun cdv A outer s H vs Q E hr h => ?_)
  · obtain ⟨x, dx, fs, lo, hi, rfl, _⟩ := h
    rfl
  · obtain ⟨x, dx, fs, lo, hi, rfl, hx, bad, k⟩ := h
    refine ⟨_, (pss_cons (ps_expr (pe_call (ok_check_machine T) (hr.mono (by decide)) (by rfl) T.m_check_machine T.k_check_machine T.b_check_machine .nil passL (pa_cons (pv 0) pa_nil)))
  (pss_cons (ps_expr (pe_callS (ok_check_bounds_bad T) (hr.mono (by decide)) (by rfl) T.m_check_bounds T.k_check_bounds T.b_check_bounds (fun σ => passAt (takes_of rfl rfl rfl rfl) σ) (pa_cons (pv 1) (pa_cons (pv 2) (pa_cons (pe_glob (by rfl) T.m_MOST_NUMBER T.r_MOST_NUMBER) pa_nil)))))
  pss_any)), ?_⟩
    walk_at "begin"
    walk_at "go"
    refine ⟨x, dx, fs, rfl, hx, ?_⟩
    walk_at "go"
    refine k_callS ?_
    walk_at "go"
    exact ⟨lo, hi, _, rfl, .inr ⟨bad, k⟩⟩
theorem ok_stays_bad (T : Txt K mg) : FnOk P w K mg base (L2.CX P w) 8 T.a_stays T.fd_stays ["machine", "low", "high"] (fun vs H Q E => sp_odd3 K T.c_Machine T.c_BadBounds big40 vs H Q E ∨ sp_stays K T.c_Machine vs H Q E) := FnOk.or (ok_stays_odd T) (ok_stays T)
theorem ok_paper_odd (T : Txt K mg) : FnOk P w K mg base (L2.CX P w) 9 T.a_paper T.fd_paper ["machine", "low", "high"] (sp_odd3 K T.c_Machine T.c_BadBounds big40) := by
  refine T.F_paper.okX sc_paper (fun vs H Q E h => ?_) (fun cdv A outer s H vs Q E hr h => ?_)
  · obtain ⟨x, dx, fs, lo, hi, rfl, _⟩ := h
    rfl
  · obtain ⟨x, dx, fs, lo, hi, rfl, hx, bad, k⟩ := h
    refine ⟨_, (pss_cons (ps_if (pt_not (pt_val (pe_callS (ok_stays_bad T) (hr.mono (by decide)) (by rfl) T.m_stays T.k_stays T.b_stays (fun σ => passAt (takes_of rfl rfl rfl rfl) σ) (pa_cons (pv 0) (pa_cons (pv 1) (pa_cons (pv 2) pa_nil))))))
  (pss_one (ps_ret pe_non))
  pss_nil)
  pss_any), ?_⟩
    walk_at "begin"
    walk_at "go"
    refine k_callS ?_
    walk_at "go"
    exact .inl ⟨x, dx, fs, lo, hi, rfl, hx, bad, k⟩
theorem ok_right_bar_odd (T : Txt K mg) : FnOk P w K mg base (L2.CX P w) 8 T.a_right_bar T.fd_right_bar ["machine", "low", "high", "value"] (sp_odd4 K T.c_Machine T.c_BadBounds big40) := by
  refine T.F_right_bar.okX sc_right_bar (fun vs H Q E h => ?_) (fun cdv A outer s H vs Q E hr h => ?_)
  · obtain ⟨x, dx, fs, lo, hi, v, rfl, _⟩ := h
    rfl
  · obtain ⟨x, dx, fs, lo, hi, v, rfl, hx, bad, k⟩ := h
    refine ⟨_, (pss_cons (ps_expr (pe_call (ok_check_machine T) (hr.mono (by decide)) (by rfl) T.m_check_machine T.k_check_machine T.b_check_machine .nil passL (pa_cons (pv 0) pa_nil)))
  (pss_cons (ps_expr (pe_callS (ok_check_bounds_bad T) (hr.mono (by decide)) (by rfl) T.m_check_bounds T.k_check_bounds T.b_check_bounds (fun σ => passAt (takes_of rfl rfl rfl rfl) σ) (pa_cons (pv 1) (pa_cons (pv 2) (pa_cons (pe_glob (by rfl) T.m_MOST_NUMBER T.r_MOST_NUMBER) pa_nil)))))
  pss_any)), ?_⟩
    walk_at "begin"
    walk_at "go"
    refine ⟨x, dx, fs, rfl, hx, ?_⟩
    walk_at "go"
    refine k_callS ?_
    walk_at "go"
    exact ⟨lo, hi, _, rfl, .inr ⟨bad, k⟩⟩
theorem ok_right_paper_odd (T : Txt K mg) : FnOk P w K mg base (L2.CX P w) 8 T.a_right_paper T.fd_right_paper ["machine", "low", "high", "value"] (sp_odd4 K T.c_Machine T.c_BadBounds big40) := by
  refine T.F_right_paper.okX sc_right_paper (fun vs H Q E h => ?_) (fun cdv A outer s H vs Q E hr h => ?_)
  · obtain ⟨x, dx, fs, lo, hi, v, rfl, _⟩ := h
    rfl
  · obtain ⟨x, dx, fs, lo, hi, v, rfl, hx, bad, k⟩ := h
    refine ⟨_, (pss_cons (ps_expr (pe_call (ok_check_machine T) (hr.mono (by decide)) (by rfl) T.m_check_machine T.k_check_machine T.b_check_machine .nil passL (pa_cons (pv 0) pa_nil)))
  (pss_cons (ps_expr (pe_callS (ok_check_bounds_bad T) (hr.mono (by decide)) (by rfl) T.m_check_bounds T.k_check_bounds T.b_check_bounds (fun σ => passAt (takes_of rfl rfl rfl rfl) σ) (pa_cons (pv 1) (pa_cons (pv 2) (pa_cons (pe_glob (by rfl) T.m_MOST_NUMBER T.r_MOST_NUMBER) pa_nil)))))
  pss_any)), ?_⟩
    walk_at "begin"
    walk_at "go"
    refine ⟨x, dx, fs, rfl, hx, ?_⟩
    walk_at "go"
    refine k_callS ?_
    walk_at "go"
    exact ⟨lo, hi, _, rfl, .inr ⟨bad, k⟩⟩
theorem ok_count_staying_odd (T : Txt K mg) : FnOk P w K mg base (L2.CX P w) 6 T.a_count_staying T.fd_count_staying ["machine", "length", "low", "high"] (sp_oddc K T.c_Machine T.c_BadBounds big40) := by
  refine T.F_count_staying.okX sc_count_staying (fun vs H Q E h => ?_) (fun cdv A outer s H vs Q E hr h => ?_)
  · obtain ⟨x, dx, fs, lo, hi, rfl, _⟩ := h
    rfl
  · obtain ⟨x, dx, fs, lo, hi, rfl, hx, bad, k⟩ := h
    refine ⟨_, (pss_cons (ps_expr (pe_call (ok_check_machine T) (hr.mono (by decide)) (by rfl) T.m_check_machine T.k_check_machine T.b_check_machine .nil passL (pa_cons (pv 0) pa_nil)))
  (pss_cons (ps_expr (pe_callS (ok_check_number_bad T) (hr.mono (by decide)) (by rfl) T.m_check_number T.k_check_number T.b_check_number (fun σ => passAt (takes_of rfl rfl rfl rfl) σ) (pa_cons (pv 1) (pa_cons pe_int (pa_cons (pe_glob (by rfl) T.m_MOST_LENGTH T.r_MOST_LENGTH) pa_nil)))))
  (pss_cons (ps_expr (pe_callS (ok_check_bounds_bad T) (hr.mono (by decide)) (by rfl) T.m_check_bounds T.k_check_bounds T.b_check_bounds (fun σ => passAt (takes_of rfl rfl rfl rfl) σ) (pa_cons (pv 2) (pa_cons (pv 3) (pa_cons (pe_glob (by rfl) T.m_MOST_NUMBER T.r_MOST_NUMBER) pa_nil)))))
  pss_any))), ?_⟩
    walk_at "begin"
    walk_at "go"
    refine ⟨x, dx, fs, rfl, hx, ?_⟩
    walk_at "go"
    refine k_callS ?_
    walk_at "go"
    refine ⟨_, _, _, rfl, .inl ⟨3, rfl, by decide, by decide, ?_⟩⟩
    walk_at "go"
    refine k_callS ?_
    walk_at "go"
    exact ⟨lo, hi, _, rfl, .inr ⟨bad, k⟩⟩
theorem ok_count_staying_bad (T : Txt K mg) : FnOk P w K mg base (L2.CX P w) 6 T.a_count_staying T.fd_count_staying ["machine", "length", "low", "high"] (fun vs H Q E => sp_oddc K T.c_Machine T.c_BadBounds big40 vs H Q E ∨ sp_cstay K T.c_Machine vs H Q E) := FnOk.or (ok_count_staying_odd T) (ok_count_staying T)
theorem ok_first_leaving8 (T : Txt K mg) : FnOk P w K mg base (L2.CX P w) 8 T.a_first_leaving T.fd_first_leaving ["machine", "low", "high"] (sp_fl K T.c_Machine) :=
  ⟨(ok_first_leaving (P := P) (w := w) (base := base) T).len, fun A outer s H args us vs Q E hr => (ok_first_leaving (P := P) (w := w) (base := base) T).run A outer s H args us vs Q E (hr.mono (by decide))⟩
end
/-! ### the law's call -/
def Mx (i : Int) : Int := if i = 1 then 20 else big40
def sp_lcall (K : PySem.W.Frag) (B : Addr) : Sp := fun vs H Q E => ∃ (i : Int) (lo hi : V), vs = [.int i, lo, hi] ∧ 0 ≤ i ∧ i < 7 ∧
  (((∀ H', Same H H' → BadBnd K H' (Mx i) lo hi) ∧ ∀ H', Same H H' → E (.ref B) none H') ∨ ((∃ l h : Int, lo = .int l ∧ hi = .int h ∧ -(Mx i) ≤ l ∧ l ≤ h ∧ h ≤ Mx i) ∧ ∀ H', Same H H' → Q .non H'))
theorem md1_ok : (MD.mk 1 [⟨0, 97, 0, 1⟩] [0]).Ok := by
  refine ⟨Nat.le_refl 1, (by decide : 1 ≤ 8), fun s h => ?_, List.pairwise_singleton _ _, (by decide : 1 ≤ 32), fun s h => ?_, List.pairwise_singleton _ _, (by decide : 1 ≤ 8)⟩
  · rw [List.mem_singleton.mp h]
    exact ⟨by decide, by decide, by decide, by decide, by decide, by decide⟩
  · rw [List.mem_singleton.mp h]; decide
section
variable {P : Program} {w : World} {K : PySem.W.Frag} {mg : Str → Option Value} {base : Heap}
theorem ok_law_call_bad (T : Txt K mg) : FnOk P w K mg base (L2.CX P w) 14 T.a_law_call T.fd_law_call ["_law_kind", "_law_low", "_law_high"] (sp_lcall K T.c_BadBounds) := by
  refine T.F_law_call.okX sc_law_call (fun vs H Q E h => ?_) (fun cdv A outer s H vs Q E hr h => ?_)
  · obtain ⟨i, lo, hi, rfl, _⟩ := h
    rfl
  · obtain ⟨i, lo, hi, rfl, i0, i7, hlh⟩ := h
    refine ⟨_, (pss_cons (ps_set (i := 3) sc_law_call.nd rfl (Or.inl rfl) (pe_make T.mk_Machine (ok_Machine_init T) (hr.mono (by decide)) (by rfl) T.m_Machine T.b_Machine_init .nil passL (pa_cons pe_int (pa_cons (pe_tup (pa_cons (pe_tup (pa_cons pe_int (pa_cons pe_str (pa_cons pe_int (pa_cons pe_int pa_nil))))) pa_nil)) (pa_cons (pe_tup (pa_cons pe_int pa_nil)) pa_nil)))))
  (pss_one (ps_if (pt_cmpR op_lt (pv 0) pe_int (nomark _))
  (pss_one (ps_expr (pe_callE (P := P) (w := w) (K := K) (mg := mg) (base := base) (fun _ _ z => z) (pe_ix ix_list (pe_lst (pa_cons (pe_glob (v := .ref T.a_bar) (by rfl) T.m_bar rfl) (pa_cons (pe_glob (v := .ref T.a_first_leaving) (by rfl) T.m_first_leaving rfl) (pa_cons (pe_glob (v := .ref T.a_paper) (by rfl) T.m_paper rfl) (pa_cons (pe_glob (v := .ref T.a_stays) (by rfl) T.m_stays rfl) pa_nil))))) (pv 0) (fun _ _ => rfl)) hr (fun σ => passAt (takes_of rfl rfl rfl rfl) σ) (pa_cons (pv 3) (pa_cons (pv 1) (pa_cons (pv 2) pa_nil))))))
  (pss_one (ps_if (pt_cmpR op_lt (pv 0) pe_int (nomark _))
  (pss_one (ps_expr (pe_callE (P := P) (w := w) (K := K) (mg := mg) (base := base) (fun _ _ z => z) (pe_ix ix_list (pe_lst (pa_cons (pe_glob (v := .ref T.a_right_bar) (by rfl) T.m_right_bar rfl) (pa_cons (pe_glob (v := .ref T.a_right_paper) (by rfl) T.m_right_paper rfl) pa_nil))) (pe_op op_sub (pv 0) pe_int) (fun _ _ => rfl)) hr (fun σ => passAt (takes_of rfl rfl rfl rfl) σ) (pa_cons (pv 3) (pa_cons (pv 1) (pa_cons (pv 2) (pa_cons pe_non pa_nil)))))))
  (pss_one (ps_expr (pe_callS (ok_count_staying_bad T) (hr.mono (by decide)) (by rfl) T.m_count_staying T.k_count_staying T.b_count_staying (fun σ => passAt (takes_of rfl rfl rfl rfl) σ) (pa_cons (pv 3) (pa_cons pe_int (pa_cons (pv 1) (pa_cons (pv 2) pa_nil)))))))))))), ?_⟩
    walk_at "begin"
    walk_at "go"
    refine ⟨(by decide : 4 ≤ sizeLine), fun p1 h1 => ?_⟩
    have z1 := Same.new (o := .tup [V.int 0, V.str "a", V.int 0, V.int 1]) h1
    have e1 := upd_same (H := H) (a := p1) (o := .tup [V.int 0, V.str "a", V.int 0, V.int 1])
    generalize upd H p1 (.tup [V.int 0, V.str "a", V.int 0, V.int 1]) = H1 at z1 e1 ⊢
    walk_at "go"
    refine ⟨(by decide : 1 ≤ sizeLine), fun p2 h2 => ?_⟩
    have z2 := Same.new (o := .tup [V.ref p1]) h2
    have e2 := upd_same (H := H1) (a := p2) (o := .tup [V.ref p1])
    generalize upd H1 p2 (.tup [V.ref p1]) = H2 at z2 e2 ⊢
    walk_at "go"
    refine ⟨(by decide : 1 ≤ sizeLine), fun p3 h3 => ?_⟩
    have z3 := Same.new (o := .tup [V.int 0]) h3
    have e3 := upd_same (H := H2) (a := p3) (o := .tup [V.int 0])
    generalize upd H2 p3 (.tup [V.int 0]) = H3 at z3 e3 ⊢
    walk_at "go"
    intro x dx hx hdx ne
    have z4 : Same H3 (upd (upd H3 dx (.own x)) x (.ins T.c_Machine dx [])) := (Same.new hdx).trans (Same.new (by rw [upd_ne ne.symm]; exact hx))
    have f1 := z4 _ _ (z3 _ _ (z2 _ _ e1))
    have f2 := z4 _ _ (z3 _ _ e2)
    have f3 := z4 _ _ e3
    have pa : PartsAt K (upd (upd H3 dx (.own x)) x (.ins T.c_Machine dx [])) p2 p3 (MD.mk 1 [⟨0, 97, 0, 1⟩] [0]) := by
      refine ⟨⟨[.ref p1], .inl (.inl f2), rfl, fun i s e => ?_⟩, .inl (.inl f3)⟩
      match i, e with
      | 0, e => cases e; exact ⟨p1, rfl, .inl (.inl f1)⟩
      | _ + 1, e => simp at e
    refine ⟨x, dx, p2, p3, MD.mk 1 [⟨0, 97, 0, 1⟩] [0], rfl, upd_same, pa, md1_ok, fun H5 k5 e5 => ⟨rfl, ?_⟩⟩
    have z35 : Same H3 H5 := fun b ob e => k5 b ob (ne_of_none e hx) (z4 _ _ e)
    have z5 : Same H H5 := ((z1.trans z2).trans z3).trans z35
    have hm : MAt K T.c_Machine H5 x (MD.mk 1 [⟨0, 97, 0, 1⟩] [0]) := by
      refine ⟨dx, p2, p3, e5, ⟨[.ref p1], SqT.of (z35 _ _ (z3 _ _ e2)), rfl, fun i s e => ?_⟩, SqT.of (z35 _ _ e3)⟩
      match i, e with
      | 0, e => cases e; exact ⟨p1, rfl, SqT.of (z35 _ _ (z3 _ _ (z2 _ _ e1)))⟩
      | _ + 1, e => simp at e
    clear pa z1 z2 z3 z4 z35 f1 f2 f3 e1 e2 e3 k5 hx hdx ne h1 h2 h3
    obtain ⟨m, em⟩ : ∃ m, m = MD.mk 1 [⟨0, 97, 0, 1⟩] [0] := ⟨_, rfl⟩
    have om : m.Ok := by rw [em]; exact md1_ok
    rw [← em] at hm
    clear em e5
    walk_at "go"
    have b40 : (10 : Int) ^ 40 = big40 := rfl
    refine k_ite (fun c4 => ?_) (fun c4 => ?_)
    · walk_at "go"
      refine ⟨by show 4 ≤ sizeLine; decide, fun l hl => ?_⟩
      have zl := Same.new (o := .lst [V.ref T.a_bar, V.ref T.a_first_leaving, V.ref T.a_paper, V.ref T.a_stays]) hl
      have el := upd_same (H := H5) (a := l) (o := .lst [V.ref T.a_bar, V.ref T.a_first_leaving, V.ref T.a_paper, V.ref T.a_stays])
      generalize upd H5 l (.lst [V.ref T.a_bar, V.ref T.a_first_leaving, V.ref T.a_paper, V.ref T.a_stays]) = H6 at zl el ⊢
      have z6 := z5.trans zl
      have hm6 := hm.same zl
      obtain ⟨dx6, t6, u6, hx6, _⟩ := id hm6
      clear zl hm z5
      walk_at "go"
      have done : ∃ (f : Addr) (sp : Sp), atI [V.ref T.a_bar, V.ref T.a_first_leaving, V.ref T.a_paper, V.ref T.a_stays] i = some (.ref f) ∧ HeldX P w K mg base 13 f sp ∧
          ∀ (Q : VK) (E : XK), ((BadBnd K H6 (Mx i) lo hi ∧ E (.ref T.c_BadBounds) none H6) ∨ ((∃ l h : Int, lo = .int l ∧ hi = .int h ∧ -(Mx i) ≤ l ∧ l ≤ h ∧ h ≤ Mx i) ∧ ∀ v H', Same H6 H' → Q v H')) → sp [.ref x, lo, hi] H6 Q E := by
        have h : i = 0 ∨ i = 1 ∨ i = 2 ∨ i = 3 := by omega
        rcases h with rfl | rfl | rfl | rfl
        · refine ⟨_, _, rfl, ⟨_, _, _, by decide, FnOk.or (ok_bar_odd T) (ok_bar T), T.k_bar, T.b_bar⟩, fun Q E h => ?_⟩
          rcases h with ⟨bad, k⟩ | ⟨⟨l, h, rfl, rfl, c1, c2, c3⟩, k⟩
          · exact .inl ⟨x, _, _, _, _, rfl, hx6, bad, k⟩
          · exact .inr ⟨x, l, h, m, rfl, hm6, om, c1, c2, c3, fun _ H' z => k _ _ z, fun _ p xs H' z _ _ _ => k _ _ z⟩
        · refine ⟨_, _, rfl, ⟨_, _, _, by decide, FnOk.or (ok_first_leaving_odd T) (ok_first_leaving8 T), T.k_first_leaving, T.b_first_leaving⟩, fun Q E h => ?_⟩
          rcases h with ⟨bad, k⟩ | ⟨⟨l, h, rfl, rfl, c1, c2, c3⟩, k⟩
          · exact .inl ⟨x, _, _, _, _, rfl, hx6, bad, k⟩
          · exact .inr ⟨x, m, l, h, rfl, hm6, om, c1, c2, c3, fun _ H' z => k _ _ z, fun _ r H' z _ => k _ _ z⟩
        · refine ⟨_, _, rfl, ⟨_, _, _, by decide, FnOk.or (ok_paper_odd T) (ok_paper T), T.k_paper, T.b_paper⟩, fun Q E h => ?_⟩
          rcases h with ⟨bad, k⟩ | ⟨⟨l, h, rfl, rfl, c1, c2, c3⟩, k⟩
          · exact .inl ⟨x, _, _, _, _, rfl, hx6, bad, k⟩
          · exact .inr ⟨x, l, h, m, rfl, hm6, om, c1, c2, c3, fun _ H' z => k _ _ z, fun _ p xs H' z _ _ _ => k _ _ z⟩
        · refine ⟨_, _, rfl, ⟨_, _, _, by decide, ok_stays_bad T, T.k_stays, T.b_stays⟩, fun Q E h => ?_⟩
          rcases h with ⟨bad, k⟩ | ⟨⟨l, h, rfl, rfl, c1, c2, c3⟩, k⟩
          · exact .inl ⟨x, _, _, _, _, rfl, hx6, bad, k⟩
          · exact .inr ⟨x, l, h, m, rfl, hm6, om, c1, c2, c3, fun H' z => k _ _ z⟩
      obtain ⟨f, sp, ef, hf, hsp⟩ := done
      refine k_ixL (SqL.of el) ef ⟨f, sp, rfl, hf, ?_⟩
      walk_at "go"
      refine hsp _ _ ?_
      rcases hlh with ⟨bad, k⟩ | ⟨good, k⟩
      · exact .inl ⟨bad _ z6, k _ z6⟩
      · exact .inr ⟨good, fun v H' z => k _ (z6.trans z)⟩
    · walk_at "go"
      refine k_ite (fun c6 => ?_) (fun c6 => ?_)
      · walk_at "go"
        refine ⟨by show 2 ≤ sizeLine; decide, fun l hl => ?_⟩
        have zl := Same.new (o := .lst [V.ref T.a_right_bar, V.ref T.a_right_paper]) hl
        have el := upd_same (H := H5) (a := l) (o := .lst [V.ref T.a_right_bar, V.ref T.a_right_paper])
        generalize upd H5 l (.lst [V.ref T.a_right_bar, V.ref T.a_right_paper]) = H6 at zl el ⊢
        have z6 := z5.trans zl
        have hm6 := hm.same zl
        obtain ⟨dx6, t6, u6, hx6, _⟩ := id hm6
        clear zl hm z5
        walk_at "go"
        have done : ∃ (f : Addr) (sp : Sp), atI [V.ref T.a_right_bar, V.ref T.a_right_paper] (i - 4) = some (.ref f) ∧ HeldX P w K mg base 13 f sp ∧
            ∀ (Q : VK) (E : XK), ((BadBnd K H6 (Mx i) lo hi ∧ E (.ref T.c_BadBounds) none H6) ∨ ((∃ l h : Int, lo = .int l ∧ hi = .int h ∧ -(Mx i) ≤ l ∧ l ≤ h ∧ h ≤ Mx i) ∧ ∀ v H', Same H6 H' → Q v H')) → sp [.ref x, lo, hi, .non] H6 Q E := by
          have h : i = 4 ∨ i = 5 := by omega
          rcases h with rfl | rfl
          · refine ⟨_, _, rfl, ⟨_, _, _, by decide, FnOk.or (ok_right_bar_odd T) (ok_right_bar T), T.k_right_bar, T.b_right_bar⟩, fun Q E h => ?_⟩
            rcases h with ⟨bad, k⟩ | ⟨⟨l, h, rfl, rfl, c1, c2, c3⟩, k⟩
            · exact .inl ⟨x, _, _, _, _, _, rfl, hx6, bad, k⟩
            · exact .inr ⟨x, l, h, _, m, rfl, hm6, om, c1, c2, c3, .inl ⟨⟨_, .base .non, kit_ty (b := "tuple") (r := false) (by decide +kernel)⟩, k _ _ (Same.refl _)⟩⟩
          · refine ⟨_, _, rfl, ⟨_, _, _, by decide, FnOk.or (ok_right_paper_odd T) (ok_right_paper T), T.k_right_paper, T.b_right_paper⟩, fun Q E h => ?_⟩
            rcases h with ⟨bad, k⟩ | ⟨⟨l, h, rfl, rfl, c1, c2, c3⟩, k⟩
            · exact .inl ⟨x, _, _, _, _, _, rfl, hx6, bad, k⟩
            · exact .inr ⟨x, l, h, _, m, rfl, hm6, om, c1, c2, c3, .inl ⟨⟨_, .base .non, kit_ty (b := "tuple") (r := false) (by decide +kernel)⟩, k _ _ (Same.refl _)⟩⟩
        obtain ⟨f, sp, ef, hf, hsp⟩ := done
        refine k_ixL (SqL.of el) ef ⟨f, sp, rfl, hf, ?_⟩
        walk_at "go"
        refine hsp _ _ ?_
        rcases hlh with ⟨bad, k⟩ | ⟨good, k⟩
        · exact .inl ⟨bad _ z6, k _ z6⟩
        · exact .inr ⟨good, fun v H' z => k _ (z6.trans z)⟩
      · walk_at "go"
        have i6 : i = 6 := by omega
        subst i6
        obtain ⟨dx6, t6, u6, hx6, _⟩ := id hm
        refine k_callS ?_
        walk_at "go"
        rcases hlh with ⟨bad, k⟩ | ⟨⟨l, h, rfl, rfl, c1, c2, c3⟩, k⟩
        · exact .inl ⟨x, _, _, lo, hi, rfl, hx6, bad _ z5, k _ z5⟩
        · exact .inr ⟨x, m, 3, l, h, rfl, hm, om, by decide, c1, c2, c3, ⟨allT m 3, allT_len om (by decide), fun n hn k u h => allT_has hn h⟩, fun H' z => k _ (z5.trans z)⟩
def sp_ref (K : PySem.W.Frag) : Sp := fun vs H Q _ => ∃ (i : Int) (lo hi : V), vs = [.int i, lo, hi] ∧ 0 ≤ i ∧ i < 7 ∧
  (((∀ H', Same H H' → BadBnd K H' (Mx i) lo hi) ∧ ∀ H', Same H H' → Q (.bl true) H') ∨ ((∃ l h : Int, lo = .int l ∧ hi = .int h ∧ -(Mx i) ≤ l ∧ l ≤ h ∧ h ≤ Mx i) ∧ ∀ H', Same H H' → Q (.bl false) H'))
theorem ok_law_refused (T : Txt K mg) : FnOk P w K mg base (L2.CX P w) 15 T.a_law_refused T.fd_law_refused ["_law_kind", "_law_low", "_law_high"] (sp_ref K) := by
  refine T.F_law_refused.okX sc_law_refused (fun vs H Q E h => ?_) (fun cdv A outer s H vs Q E hr h => ?_)
  · obtain ⟨i, lo, hi, rfl, _⟩ := h
    rfl
  · obtain ⟨i, lo, hi, rfl, i0, i7, h⟩ := h
    refine ⟨_, (PSs.nox (pss_cons (ps_set (i := 3) sc_law_refused.nd rfl (Or.inl rfl) pe_bl)
  (pss_cons (ps_try_only rfl rfl ⟨rfl, by decide, .inl T.m_BadBounds⟩ takes0 (fun W pn xe tk _ => (pss_one (ps_expr (pe_callS (ok_law_call_bad T) (hr.mono (by decide)) (by rfl) T.m_law_call T.k_law_call T.b_law_call (fun σ => passAt tk σ) (pa_cons (pv 0) (pa_cons (pv 1) (pa_cons (pv 2) pa_nil))))))) (fun a oe cls d pn _ _ => (pss_one (ps_set (i := 3) sc_law_refused.nd rfl (Or.inl rfl) pe_bl))))
  (pss_one (ps_ret (pv 3)))))), ?_⟩
    walk_at "begin"
    walk_at "go"
    refine k_callS ?_
    walk_at "go"
    rcases h with ⟨bad, k⟩ | ⟨good, k⟩
    · refine ⟨i, lo, hi, rfl, i0, i7, .inl ⟨bad, fun H' z => ⟨true, T.e_BadBounds, fun _ b hb => ?_, fun q => nomatch q⟩⟩⟩
      dsimp only
      walk_at "go"
      exact k _ z
    · refine ⟨i, lo, hi, rfl, i0, i7, .inr ⟨good, fun H' z => ?_⟩⟩
      walk_at "go"
      exact k _ z
end
/-! ### the law -/
theorem Mx_lo (i : Int) : 20 ≤ Mx i := by
  unfold Mx
  split
  · decide
  · decide
theorem Mx_hi (i : Int) : Mx i ≤ big40 := by
  unfold Mx
  split
  · decide
  · decide
theorem ni_non {K : PySem.W.Frag} {H : Hp} : NotInt K H .non := .inr ⟨_, .base .non, kit_ty (b := "int") (r := false) (by decide +kernel)⟩
theorem ni_str {K : PySem.W.Frag} {H : Hp} {z : Str} : NotInt K H (.str z) := .inr ⟨_, .base (.str _), kit_ty (b := "int") (r := false) (by decide +kernel)⟩
theorem ni_tup {K : PySem.W.Frag} {H : Hp} {p : Addr} {xs : List V} (h : H p = some (.tup xs)) : NotInt K H (.ref p) := .inr ⟨_, .base (.tup h), kit_ty (b := "int") (r := false) (by decide +kernel)⟩
def sp_law (K : PySem.W.Frag) : Sp := fun vs H Q _ => ∃ (sc : Addr) (ns : List Int), vs = [.ref sc] ∧ ScAt K H sc (ns.map V.int) ∧ ns.length ≤ 63 ∧ ∀ H', Q (.bl true) H'
section
variable {P : Program} {w : World} {K : PySem.W.Frag} {mg : Str → Option Value} {base : Heap}
theorem ok_law (T : Txt K mg) : FnOk P w K mg base (L2.CX P w) 20 T.a_law T.fd_law ["_law_script"] (sp_law K) := by
  refine T.F_law.okX sc_law (fun vs H Q E h => ?_) (fun cdv A outer s H vs Q E hr h => ?_)
  · obtain ⟨sc, ns, rfl, _⟩ := h
    rfl
  · obtain ⟨sc, ns, rfl, hsc, hns, k⟩ := h
    refine ⟨_, (PSs.nox (pss_cons (ps_set (i := 1) sc_law.nd rfl (Or.inl rfl) (pe_lst (pa_cons (pv 0) (pa_cons pe_int (pa_cons pe_int (pa_cons pe_int pa_nil))))))
  (pss_cons (ps_for PassesOwn.never rfl (pi_range1 (by rfl) T.z_range (pa_cons pe_int pa_nil)) (pg_name (i := 2) sc_law.nd rfl (Or.inl rfl))
  (pss_cons (ps_set (i := 3) sc_law.nd rfl (Or.inl rfl) (pe_op op_pow pe_int pe_int))
  (pss_cons (ps_set (i := 4) sc_law.nd rfl (Or.inl rfl) (pe_lst (pa_cons (pe_tup (pa_cons pe_non (pa_cons pe_int pa_nil))) (pa_cons (pe_tup (pa_cons pe_int (pa_cons pe_non pa_nil))) (pa_cons (pe_tup (pa_cons pe_int (pa_cons pe_int pa_nil))) (pa_cons (pe_tup (pa_cons (pe_op op_sub (pe_un un_neg (pv 3)) pe_int) (pa_cons pe_int pa_nil))) (pa_cons (pe_tup (pa_cons pe_int (pa_cons (pe_op op_add (pv 3) pe_int) pa_nil))) (pa_cons (pe_tup (pa_cons pe_bl (pa_cons pe_int pa_nil))) (pa_cons (pe_tup (pa_cons pe_int (pa_cons pe_bl pa_nil))) (pa_cons (pe_tup (pa_cons pe_str (pa_cons pe_int pa_nil))) pa_nil))))))))))
  (pss_cons (ps_set (i := 4) sc_law.nd rfl (Or.inl rfl) (pe_op op_cat (pv 4) (pe_lst (pa_cons (pe_tup (pa_cons pe_int (pa_cons pe_str pa_nil))) (pa_cons (pe_tup (pa_cons (pe_tup (pa_cons pe_int pa_nil)) (pa_cons pe_int pa_nil))) pa_nil)))))
  (pss_cons (ps_asg (pe_ix ix_list (pv 4) (pe_call (ok_law_taken T) (hr.mono (by decide)) (by rfl) T.m_law_taken T.k_law_taken T.b_law_taken .nil passL (pa_cons (pv 1) (pa_cons (pe_callB call_len_seq (by rfl) T.z_len PySem.boot_len (pa_cons (pv 4) pa_nil)) pa_nil))) (fun _ _ => rfl)) (pg_tup rfl (pgs_cons (pg_name (i := 5) sc_law.nd rfl (Or.inl rfl)) (pgs_cons (pg_name (i := 6) sc_law.nd rfl (Or.inl rfl)) pgs_nil))))
  (pss_cons (ps_if (pt_not (pt_val (pe_call (ok_law_refused T) (hr.mono (by decide)) (by rfl) T.m_law_refused T.k_law_refused T.b_law_refused .nil passL (pa_cons (pe_call (ok_law_taken T) (hr.mono (by decide)) (by rfl) T.m_law_taken T.k_law_taken T.b_law_taken .nil passL (pa_cons (pv 1) (pa_cons pe_int pa_nil))) (pa_cons (pv 5) (pa_cons (pv 6) pa_nil))))))
  (pss_one (ps_ret pe_bl))
  pss_nil)
  (pss_cons (ps_if (PW.pt (pw_or (pt_not (pt_val (pe_call (ok_law_refused T) (hr.mono (by decide)) (by rfl) T.m_law_refused T.k_law_refused T.b_law_refused .nil passL (pa_cons pe_int (pa_cons (pe_op op_sub (pe_un un_neg pe_int) (pe_call (ok_law_taken T) (hr.mono (by decide)) (by rfl) T.m_law_taken T.k_law_taken T.b_law_taken .nil passL (pa_cons (pv 1) (pa_cons pe_int pa_nil)))) (pa_cons pe_int pa_nil)))))) (pw_or1 (pt_not (pt_val (pe_call (ok_law_refused T) (hr.mono (by decide)) (by rfl) T.m_law_refused T.k_law_refused T.b_law_refused .nil passL (pa_cons pe_int (pa_cons pe_int (pa_cons (pe_op op_add pe_int (pe_call (ok_law_taken T) (hr.mono (by decide)) (by rfl) T.m_law_taken T.k_law_taken T.b_law_taken .nil passL (pa_cons (pv 1) (pa_cons pe_int pa_nil)))) pa_nil)))))))))
  (pss_one (ps_ret pe_bl))
  pss_nil)
  (pss_one (ps_if (PW.pt (pw_or (pt_val (pe_call (ok_law_refused T) (hr.mono (by decide)) (by rfl) T.m_law_refused T.k_law_refused T.b_law_refused .nil passL (pa_cons (pe_call (ok_law_taken T) (hr.mono (by decide)) (by rfl) T.m_law_taken T.k_law_taken T.b_law_taken .nil passL (pa_cons (pv 1) (pa_cons pe_int pa_nil))) (pa_cons (pe_un un_neg pe_int) (pa_cons (pe_call (ok_law_taken T) (hr.mono (by decide)) (by rfl) T.m_law_taken T.k_law_taken T.b_law_taken .nil passL (pa_cons (pv 1) (pa_cons pe_int pa_nil))) pa_nil))))) (pw_or1 (pt_val (pe_call (ok_law_refused T) (hr.mono (by decide)) (by rfl) T.m_law_refused T.k_law_refused T.b_law_refused .nil passL (pa_cons pe_int (pa_cons (pe_un un_neg (pv 3)) (pa_cons (pv 3) pa_nil))))))))
  (pss_one (ps_ret pe_bl))
  pss_nil)))))))))
  (pss_one (ps_ret pe_bl))))), ?_⟩
    walk_at "begin"
    walk_at "go"
    refine ⟨(by decide : 4 ≤ sizeLine), fun a ha => ?_⟩
    have R1 : RowOk K (upd H a (.lst [.ref sc, .int 0, .int 210, .int 0])) a := ⟨sc, ns, 0, 210, 0, upd_same, hsc.same (Same.new ha), hns, by decide, by decide, by decide⟩
    generalize upd H a (.lst [.ref sc, .int 0, .int 210, .int 0]) = H1 at R1 ⊢
    walk_at "go"
    refine k_rg (by decide) (by decide) ?_
    refine for_range (lo := 0) (n := 9) (fun i σ H' => ∃ b2 b3 b4 b5 b6, RowOk K H' a ∧ σ = [some (.ref sc), some (.ref a), b2, b3, b4, b5, b6]) ⟨_, _, _, _, _, R1, rfl⟩ ?_ ?_
    · rintro it σ H2 hi ⟨b2, b3, b4, b5, b6, R2, rfl⟩
      walk_at "go"
      refine k_I (by exact ⟨by decide, by decide, by decide⟩) ?_
      walk_at "go"
      obtain ⟨M, eM⟩ : ∃ M : Int, M = 10 ^ Int.toNat 40 := ⟨_, rfl⟩
      have eM' : M = big40 := by rw [eM]; decide
      have bM : big40 = 10000000000000000000000000000000000000000 := rfl
      rw [← eM]
      clear eM
      refine ⟨(by decide : 2 ≤ sizeLine), fun t1 ht1 => ?_⟩
      have zt1 := Same.new (o := .tup [V.non, .int 1]) ht1
      have et1 := upd_same (H := H2) (a := t1) (o := .tup [V.non, .int 1])
      have nt1 := R2.ne ht1
      have R3 := R2.same zt1
      generalize upd H2 t1 (.tup [V.non, .int 1]) = H3 at zt1 et1 R3 ⊢
      clear zt1 ht1 R2
      walk_at "go"
      refine ⟨(by decide : 2 ≤ sizeLine), fun t2 ht2 => ?_⟩
      have zt2 := Same.new (o := .tup [V.int 0, .non]) ht2
      have et2 := upd_same (H := H3) (a := t2) (o := .tup [V.int 0, .non])
      have nt2 := R3.ne ht2
      have R4 := R3.same zt2
      generalize upd H3 t2 (.tup [V.int 0, .non]) = H4 at zt2 et2 R4 ⊢
      have et1 := zt2 _ _ et1
      clear zt2 ht2 R3
      walk_at "go"
      refine ⟨(by decide : 2 ≤ sizeLine), fun t3 ht3 => ?_⟩
      have zt3 := Same.new (o := .tup [V.int 1, .int 0]) ht3
      have et3 := upd_same (H := H4) (a := t3) (o := .tup [V.int 1, .int 0])
      have nt3 := R4.ne ht3
      have R5 := R4.same zt3
      generalize upd H4 t3 (.tup [V.int 1, .int 0]) = H5 at zt3 et3 R5 ⊢
      have et1 := zt3 _ _ et1
      have et2 := zt3 _ _ et2
      clear zt3 ht3 R4
      walk_at "go"
      refine ⟨(by decide : 2 ≤ sizeLine), fun t4 ht4 => ?_⟩
      have zt4 := Same.new (o := .tup [V.int (-M - 1), .int 0]) ht4
      have et4 := upd_same (H := H5) (a := t4) (o := .tup [V.int (-M - 1), .int 0])
      have nt4 := R5.ne ht4
      have R6 := R5.same zt4
      generalize upd H5 t4 (.tup [V.int (-M - 1), .int 0]) = H6 at zt4 et4 R6 ⊢
      have et1 := zt4 _ _ et1
      have et2 := zt4 _ _ et2
      have et3 := zt4 _ _ et3
      clear zt4 ht4 R5
      walk_at "go"
      refine ⟨(by decide : 2 ≤ sizeLine), fun t5 ht5 => ?_⟩
      have zt5 := Same.new (o := .tup [V.int 0, .int (M + 1)]) ht5
      have et5 := upd_same (H := H6) (a := t5) (o := .tup [V.int 0, .int (M + 1)])
      have nt5 := R6.ne ht5
      have R7 := R6.same zt5
      generalize upd H6 t5 (.tup [V.int 0, .int (M + 1)]) = H7 at zt5 et5 R7 ⊢
      have et1 := zt5 _ _ et1
      have et2 := zt5 _ _ et2
      have et3 := zt5 _ _ et3
      have et4 := zt5 _ _ et4
      clear zt5 ht5 R6
      walk_at "go"
      refine ⟨(by decide : 2 ≤ sizeLine), fun t6 ht6 => ?_⟩
      have zt6 := Same.new (o := .tup [V.bl true, .int 1]) ht6
      have et6 := upd_same (H := H7) (a := t6) (o := .tup [V.bl true, .int 1])
      have nt6 := R7.ne ht6
      have R8 := R7.same zt6
      generalize upd H7 t6 (.tup [V.bl true, .int 1]) = H8 at zt6 et6 R8 ⊢
      have et1 := zt6 _ _ et1
      have et2 := zt6 _ _ et2
      have et3 := zt6 _ _ et3
      have et4 := zt6 _ _ et4
      have et5 := zt6 _ _ et5
      clear zt6 ht6 R7
      walk_at "go"
      refine ⟨(by decide : 2 ≤ sizeLine), fun t7 ht7 => ?_⟩
      have zt7 := Same.new (o := .tup [V.int 0, .bl true]) ht7
      have et7 := upd_same (H := H8) (a := t7) (o := .tup [V.int 0, .bl true])
      have nt7 := R8.ne ht7
      have R9 := R8.same zt7
      generalize upd H8 t7 (.tup [V.int 0, .bl true]) = H9 at zt7 et7 R9 ⊢
      have et1 := zt7 _ _ et1
      have et2 := zt7 _ _ et2
      have et3 := zt7 _ _ et3
      have et4 := zt7 _ _ et4
      have et5 := zt7 _ _ et5
      have et6 := zt7 _ _ et6
      clear zt7 ht7 R8
      walk_at "go"
      refine ⟨(by decide : 2 ≤ sizeLine), fun t8 ht8 => ?_⟩
      have zt8 := Same.new (o := .tup [V.str "0", .int 1]) ht8
      have et8 := upd_same (H := H9) (a := t8) (o := .tup [V.str "0", .int 1])
      have nt8 := R9.ne ht8
      have R10 := R9.same zt8
      generalize upd H9 t8 (.tup [V.str "0", .int 1]) = H10 at zt8 et8 R10 ⊢
      have et1 := zt8 _ _ et1
      have et2 := zt8 _ _ et2
      have et3 := zt8 _ _ et3
      have et4 := zt8 _ _ et4
      have et5 := zt8 _ _ et5
      have et6 := zt8 _ _ et6
      have et7 := zt8 _ _ et7
      clear zt8 ht8 R9
      walk_at "go"
      refine ⟨(by decide : 8 ≤ sizeLine), fun l1 hl1 => ?_⟩
      have zl1 := Same.new (o := .lst [V.ref t1, .ref t2, .ref t3, .ref t4, .ref t5, .ref t6, .ref t7, .ref t8]) hl1
      have el1 := upd_same (H := H10) (a := l1) (o := .lst [V.ref t1, .ref t2, .ref t3, .ref t4, .ref t5, .ref t6, .ref t7, .ref t8])
      have nl1 := R10.ne hl1
      have R11 := R10.same zl1
      generalize upd H10 l1 (.lst [V.ref t1, .ref t2, .ref t3, .ref t4, .ref t5, .ref t6, .ref t7, .ref t8]) = H11 at zl1 el1 R11 ⊢
      have et1 := zl1 _ _ et1
      have et2 := zl1 _ _ et2
      have et3 := zl1 _ _ et3
      have et4 := zl1 _ _ et4
      have et5 := zl1 _ _ et5
      have et6 := zl1 _ _ et6
      have et7 := zl1 _ _ et7
      have et8 := zl1 _ _ et8
      clear zl1 hl1 R10
      walk_at "go"
      refine ⟨(by decide : 2 ≤ sizeLine), fun t9 ht9 => ?_⟩
      have zt9 := Same.new (o := .tup [V.int 0, .str "1"]) ht9
      have et9 := upd_same (H := H11) (a := t9) (o := .tup [V.int 0, .str "1"])
      have nt9 := R11.ne ht9
      have R12 := R11.same zt9
      generalize upd H11 t9 (.tup [V.int 0, .str "1"]) = H12 at zt9 et9 R12 ⊢
      have et1 := zt9 _ _ et1
      have et2 := zt9 _ _ et2
      have et3 := zt9 _ _ et3
      have et4 := zt9 _ _ et4
      have et5 := zt9 _ _ et5
      have et6 := zt9 _ _ et6
      have et7 := zt9 _ _ et7
      have et8 := zt9 _ _ et8
      have el1 := zt9 _ _ el1
      clear zt9 ht9 R11
      walk_at "go"
      refine ⟨(by decide : 1 ≤ sizeLine), fun u0 hu0 => ?_⟩
      have zu0 := Same.new (o := .tup [V.int 0]) hu0
      have eu0 := upd_same (H := H12) (a := u0) (o := .tup [V.int 0])
      have nu0 := R12.ne hu0
      have R13 := R12.same zu0
      generalize upd H12 u0 (.tup [V.int 0]) = H13 at zu0 eu0 R13 ⊢
      have et1 := zu0 _ _ et1
      have et2 := zu0 _ _ et2
      have et3 := zu0 _ _ et3
      have et4 := zu0 _ _ et4
      have et5 := zu0 _ _ et5
      have et6 := zu0 _ _ et6
      have et7 := zu0 _ _ et7
      have et8 := zu0 _ _ et8
      have el1 := zu0 _ _ el1
      have et9 := zu0 _ _ et9
      clear zu0 hu0 R12
      walk_at "go"
      refine ⟨(by decide : 2 ≤ sizeLine), fun ta hta => ?_⟩
      have zta := Same.new (o := .tup [V.ref u0, .int 1]) hta
      have eta := upd_same (H := H13) (a := ta) (o := .tup [V.ref u0, .int 1])
      have nta := R13.ne hta
      have R14 := R13.same zta
      generalize upd H13 ta (.tup [V.ref u0, .int 1]) = H14 at zta eta R14 ⊢
      have et1 := zta _ _ et1
      have et2 := zta _ _ et2
      have et3 := zta _ _ et3
      have et4 := zta _ _ et4
      have et5 := zta _ _ et5
      have et6 := zta _ _ et6
      have et7 := zta _ _ et7
      have et8 := zta _ _ et8
      have el1 := zta _ _ el1
      have et9 := zta _ _ et9
      have eu0 := zta _ _ eu0
      clear zta hta R13
      walk_at "go"
      refine ⟨(by decide : 2 ≤ sizeLine), fun l2 hl2 => ?_⟩
      have zl2 := Same.new (o := .lst [V.ref t9, .ref ta]) hl2
      have el2 := upd_same (H := H14) (a := l2) (o := .lst [V.ref t9, .ref ta])
      have nl2 := R14.ne hl2
      have R15 := R14.same zl2
      generalize upd H14 l2 (.lst [V.ref t9, .ref ta]) = H15 at zl2 el2 R15 ⊢
      have et1 := zl2 _ _ et1
      have et2 := zl2 _ _ et2
      have et3 := zl2 _ _ et3
      have et4 := zl2 _ _ et4
      have et5 := zl2 _ _ et5
      have et6 := zl2 _ _ et6
      have et7 := zl2 _ _ et7
      have et8 := zl2 _ _ et8
      have el1 := zl2 _ _ el1
      have et9 := zl2 _ _ et9
      have eu0 := zl2 _ _ eu0
      have eta := zl2 _ _ eta
      clear zl2 hl2 R14
      walk_at "go"
      refine ⟨l1, l2, _, _, rfl, rfl, el1, el2, (by show 8 + 2 ≤ sizeLine; decide), fun l3 hl3 => ?_⟩
      have zl3 := Same.new (o := .lst [V.ref t1, .ref t2, .ref t3, .ref t4, .ref t5, .ref t6, .ref t7, .ref t8, .ref t9, .ref ta]) hl3
      have el3 := upd_same (H := H15) (a := l3) (o := .lst [V.ref t1, .ref t2, .ref t3, .ref t4, .ref t5, .ref t6, .ref t7, .ref t8, .ref t9, .ref ta])
      have nl3 := R15.ne hl3
      have R16 := R15.same zl3
      have hh : upd H15 l3 (.lst ([V.ref t1, .ref t2, .ref t3, .ref t4, .ref t5, .ref t6, .ref t7, .ref t8] ++ [V.ref t9, .ref ta])) = upd H15 l3 (.lst [V.ref t1, .ref t2, .ref t3, .ref t4, .ref t5, .ref t6, .ref t7, .ref t8, .ref t9, .ref ta]) := rfl
      rw [hh]
      generalize upd H15 l3 (.lst [V.ref t1, .ref t2, .ref t3, .ref t4, .ref t5, .ref t6, .ref t7, .ref t8, .ref t9, .ref ta]) = H16 at zl3 el3 R16 ⊢
      have et1 := zl3 _ _ et1
      have et2 := zl3 _ _ et2
      have et3 := zl3 _ _ et3
      have et4 := zl3 _ _ et4
      have et5 := zl3 _ _ et5
      have et6 := zl3 _ _ et6
      have et7 := zl3 _ _ et7
      have et8 := zl3 _ _ et8
      have et9 := zl3 _ _ et9
      have eta := zl3 _ _ eta
      have eu0 := zl3 _ _ eu0
      clear hh zl3 hl3 R15 el1 el2
      walk_at "go"
      refine ⟨l3, _, rfl, .inl (SqL.of el3), ?_⟩
      walk_at "go"
      refine ⟨a, _, rfl, (by decide : (0 : Int) < 10), (by decide : (10 : Int).natAbs < 2 ^ 8000), R16, fun y H17 y0 y10 R17 K17 => ?_⟩
      have y10 : y < 10 := y10
      have et1 := K17 _ _ nt1.symm et1
      have et2 := K17 _ _ nt2.symm et2
      have et3 := K17 _ _ nt3.symm et3
      have et4 := K17 _ _ nt4.symm et4
      have et5 := K17 _ _ nt5.symm et5
      have et6 := K17 _ _ nt6.symm et6
      have et7 := K17 _ _ nt7.symm et7
      have et8 := K17 _ _ nt8.symm et8
      have et9 := K17 _ _ nt9.symm et9
      have eta := K17 _ _ nta.symm eta
      have eu0 := K17 _ _ nu0.symm eu0
      have el3 := K17 _ _ nl3.symm el3
      have done : ∃ (p : Addr) (lo hi : V), atI [V.ref t1, .ref t2, .ref t3, .ref t4, .ref t5, .ref t6, .ref t7, .ref t8, .ref t9, .ref ta] y = some (.ref p) ∧ H17 p = some (.tup [lo, hi]) ∧ ∀ N : Int, 20 ≤ N → N ≤ big40 → ∀ H2, H2 u0 = some (.tup [V.int 0]) → BadBnd K H2 N lo hi := by
        have h : y = 0 ∨ y = 1 ∨ y = 2 ∨ y = 3 ∨ y = 4 ∨ y = 5 ∨ y = 6 ∨ y = 7 ∨ y = 8 ∨ y = 9 := by omega
        rcases h with rfl | rfl | rfl | rfl | rfl | rfl | rfl | rfl | rfl | rfl
        · exact ⟨t1, _, _, rfl, et1, fun N a1 a2 H2 z => .inl (.inr ni_non)⟩
        · exact ⟨t2, _, _, rfl, et2, fun N a1 a2 H2 z => .inr ⟨0, rfl, by omega, by omega, .inr ni_non⟩⟩
        · exact ⟨t3, _, _, rfl, et3, fun N a1 a2 H2 z => .inr ⟨1, rfl, by omega, by omega, .inl ⟨0, rfl, by omega⟩⟩⟩
        · exact ⟨t4, _, _, rfl, et4, fun N a1 a2 H2 z => .inl (.inl ⟨_, rfl, by omega⟩)⟩
        · exact ⟨t5, _, _, rfl, et5, fun N a1 a2 H2 z => .inr ⟨0, rfl, by omega, by omega, .inl ⟨_, rfl, by omega⟩⟩⟩
        · exact ⟨t6, _, _, rfl, et6, fun N a1 a2 H2 z => .inl (.inr (.inl ⟨_, rfl⟩))⟩
        · exact ⟨t7, _, _, rfl, et7, fun N a1 a2 H2 z => .inr ⟨0, rfl, by omega, by omega, .inr (.inl ⟨_, rfl⟩)⟩⟩
        · exact ⟨t8, _, _, rfl, et8, fun N a1 a2 H2 z => .inl (.inr ni_str)⟩
        · exact ⟨t9, _, _, rfl, et9, fun N a1 a2 H2 z => .inr ⟨0, rfl, by omega, by omega, .inr ni_str⟩⟩
        · exact ⟨ta, _, _, rfl, eta, fun N a1 a2 H2 z => .inl (.inr (ni_tup z))⟩
      obtain ⟨p, lo, hi, ep, hp, bad⟩ := done
      refine k_ixL (SqL.of el3) ep ?_
      refine k_gt (SqT.of hp) rfl ?_
      walk_at "go"
      obtain ⟨lr, er⟩ := R17.lst
      refine ⟨a, 7, rfl, by decide, by decide, R17, fun i1 Ha i10 i17 Ra Ka => ?_⟩
      walk_at "go"
      have eu1 := Ka _ _ nu0.symm eu0
      walk_at "go"
      refine ⟨i1, lo, hi, rfl, i10, i17, .inl ⟨fun H' z => bad _ (Mx_lo _) (Mx_hi _) _ (z _ _ eu1), fun Hb zb => ?_⟩⟩
      have Rb := Ra.same zb
      walk_at "go"
      refine iteF ?_
      walk_at "go"
      refine ⟨a, 9, rfl, by decide, by decide, Rb, fun x1 Hc x10 x19 Rc Kc => ?_⟩
      walk_at "go"
      refine ⟨1, _, _, rfl, by decide, by decide, .inl ⟨fun H' z => .inl (.inl ⟨_, rfl, by show ¬ (-20 ≤ -21 - x1 ∧ -21 - x1 ≤ 20); omega⟩), fun Hd zd => ?_⟩⟩
      have Rd := Rc.same zd
      walk_at "go"
      refine iteF ?_
      walk_at "go"
      refine ⟨a, 9, rfl, by decide, by decide, Rd, fun x2 He x20 x29 Re Ke => ?_⟩
      walk_at "go"
      refine ⟨1, _, _, rfl, by decide, by decide, .inl ⟨fun H' z => .inr ⟨0, rfl, by decide, by decide, .inl ⟨_, rfl, by show ¬ (0 ≤ 21 + x2 ∧ 21 + x2 ≤ 20); omega⟩⟩, fun Hf zf => ?_⟩⟩
      have Rf := Re.same zf
      walk_at "go"
      refine iteF ?_
      walk_at "go"
      refine ⟨a, 7, rfl, by decide, by decide, Rf, fun i2 Hg i20 i27 Rg Kg => ?_⟩
      walk_at "go"
      refine ⟨a, 21, rfl, by decide, by decide, Rg, fun x3 Hi x30 x31 Ri Ki => ?_⟩
      walk_at "go"
      refine ⟨i2, _, _, rfl, i20, i27, .inr ⟨⟨-20, x3, rfl, rfl, by have := Mx_lo i2; omega, by omega, by have := Mx_lo i2; omega⟩, fun Hj zj => ?_⟩⟩
      have Rj := Ri.same zj
      walk_at "go"
      refine iteF ?_
      walk_at "go"
      refine ⟨0, _, _, rfl, by decide, by decide, .inr ⟨⟨-M, M, rfl, rfl, by show -big40 ≤ -M; omega, by omega, by show M ≤ big40; omega⟩, fun Hk zk => ?_⟩⟩
      have Rk := Rj.same zk
      walk_at "go"
      refine iteF ?_
      walk_at "go"
      exact ⟨_, _, _, _, _, Rk, rfl⟩
    · rintro σ H2 ⟨b2, b3, b4, b5, b6, R2, rfl⟩
      walk_at "go"
      exact k _
end
/-! ### what the written part says -/
theorem exc_self {K : PySem.W.Frag} {S : Addr} (hb : PySem.W.subIn K (.ref S) (.type "BaseException") = some true) (hc : PySem.W.isClsIn K S = true) (ht : PySem.W.typeIn K (.ref S) = some (.type "type")) (hs : PySem.W.subIn K (.ref S) (.ref S) = some true) : PySem.W.exmOne K (.ref S) (.ref S) = some true := by
  have hc' : (PySem.W.clsIn K S).isSome = true := hc
  unfold PySem.W.exmOne PySem.W.kitCls
  simp only [hb, ht, hc', hs, beq_self_eq_true, Bool.and_self, if_true]
theorem bb_BadNumber_init (kV doc pm : Value) (an : Option Addr) (cdv ct : Value) (us : List Value) (hl : us.length = 2) : bindArgs (PySem.W.fnOf "__init__" "BadNumber.__init__" (defArgs s_BadNumber_init) (defBody s_BadNumber_init) (defScope s_BadNumber_init) .none kV doc pm an cdv ct) ⟨us, []⟩ = pure ((["self", "n"] : List Str).zip us) := match us, hl with | [_, _], _ => rfl
theorem bb_led_to (kV doc pm : Value) (an : Option Addr) (cdv ct : Value) (us : List Value) (hl : us.length = 2) : bindArgs (PySem.W.fnOf "led_to" "led_to" (defArgs s_led_to) (defBody s_led_to) (defScope s_led_to) .none kV doc pm an cdv ct) ⟨us, []⟩ = pure ((["steps", "begins"] : List Str).zip us) := match us, hl with | [_, _], _ => rfl
theorem bb_longer_rows (kV doc pm : Value) (an : Option Addr) (cdv ct : Value) (us : List Value) (hl : us.length = 3) : bindArgs (PySem.W.fnOf "longer_rows" "longer_rows" (defArgs s_longer_rows) (defBody s_longer_rows) (defScope s_longer_rows) .none kV doc pm an cdv ct) ⟨us, []⟩ = pure ((["steps", "sign", "rows"] : List Str).zip us) := match us, hl with | [_, _, _], _ => rfl
theorem bb_improved (kV doc pm : Value) (an : Option Addr) (cdv ct : Value) (us : List Value) (hl : us.length = 2) : bindArgs (PySem.W.fnOf "_improved" "_improved" (defArgs s_improved) (defBody s_improved) (defScope s_improved) .none kV doc pm an cdv ct) ⟨us, []⟩ = pure ((["rows", "best"] : List Str).zip us) := match us, hl with | [_, _], _ => rfl
theorem bb_best_rows (kV doc pm : Value) (an : Option Addr) (cdv ct : Value) (us : List Value) (hl : us.length = 3) : bindArgs (PySem.W.fnOf "best_rows" "best_rows" (defArgs s_best_rows) (defBody s_best_rows) (defScope s_best_rows) .none kV doc pm an cdv ct) ⟨us, []⟩ = pure ((["many", "steps", "sign"] : List Str).zip us) := match us, hl with | [_, _, _], _ => rfl
theorem bb_shortest_rows (kV doc pm : Value) (an : Option Addr) (cdv ct : Value) (us : List Value) (hl : us.length = 2) : bindArgs (PySem.W.fnOf "shortest_rows" "shortest_rows" (defArgs s_shortest_rows) (defBody s_shortest_rows) (defScope s_shortest_rows) .none kV doc pm an cdv ct) ⟨us, []⟩ = pure ((["many", "steps"] : List Str).zip us) := match us, hl with | [_, _], _ => rfl
theorem bb_best_loops (kV doc pm : Value) (an : Option Addr) (cdv ct : Value) (us : List Value) (hl : us.length = 4) : bindArgs (PySem.W.fnOf "best_loops" "best_loops" (defArgs s_best_loops) (defBody s_best_loops) (defScope s_best_loops) .none kV doc pm an cdv ct) ⟨us, []⟩ = pure ((["many", "steps", "stand", "sign"] : List Str).zip us) := match us, hl with | [_, _, _, _], _ => rfl
theorem bb_best_of (kV doc pm : Value) (an : Option Addr) (cdv ct : Value) (us : List Value) (hl : us.length = 4) : bindArgs (PySem.W.fnOf "_best_of" "_best_of" (defArgs s_best_of) (defBody s_best_of) (defScope s_best_of) .none kV doc pm an cdv ct) ⟨us, []⟩ = pure ((["many", "steps", "sign", "stands"] : List Str).zip us) := match us, hl with | [_, _, _, _], _ => rfl
theorem bb_least_and_greatest (kV doc pm : Value) (an : Option Addr) (cdv ct : Value) (us : List Value) (hl : us.length = 3) : bindArgs (PySem.W.fnOf "least_and_greatest" "least_and_greatest" (defArgs s_least_and_greatest) (defBody s_least_and_greatest) (defScope s_least_and_greatest) .none kV doc pm an cdv ct) ⟨us, []⟩ = pure ((["many", "steps", "stands"] : List Str).zip us) := match us, hl with | [_, _, _], _ => rfl
theorem bb_is_within (kV doc pm : Value) (an : Option Addr) (cdv ct : Value) (us : List Value) (hl : us.length = 3) : bindArgs (PySem.W.fnOf "is_within" "is_within" (defArgs s_is_within) (defBody s_is_within) (defScope s_is_within) .none kV doc pm an cdv ct) ⟨us, []⟩ = pure ((["pair", "low", "high"] : List Str).zip us) := match us, hl with | [_, _, _], _ => rfl
theorem bb_first_row_out (kV doc pm : Value) (an : Option Addr) (cdv ct : Value) (us : List Value) (hl : us.length = 2) : bindArgs (PySem.W.fnOf "first_row_out" "first_row_out" (defArgs s_first_row_out) (defBody s_first_row_out) (defScope s_first_row_out) .none kV doc pm an cdv ct) ⟨us, []⟩ = pure ((["moves", "begin"] : List Str).zip us) := match us, hl with | [_, _], _ => rfl
theorem bb_Machine_init (kV doc pm : Value) (an : Option Addr) (cdv ct : Value) (us : List Value) (hl : us.length = 4) : bindArgs (PySem.W.fnOf "__init__" "Machine.__init__" (defArgs s_Machine_init) (defBody s_Machine_init) (defScope s_Machine_init) .none kV doc pm an cdv ct) ⟨us, []⟩ = pure ((["self", "stands", "steps", "ends"] : List Str).zip us) := match us, hl with | [_, _, _, _], _ => rfl
theorem bb_Machine_stands (kV doc pm : Value) (an : Option Addr) (cdv ct : Value) (us : List Value) (hl : us.length = 1) : bindArgs (PySem.W.fnOf "stands" "Machine.stands" (defArgs s_Machine_stands) (defBody s_Machine_stands) (defScope s_Machine_stands) .none kV doc pm an cdv ct) ⟨us, []⟩ = pure ((["self"] : List Str).zip us) := match us, hl with | [_], _ => rfl
theorem bb_Machine_steps (kV doc pm : Value) (an : Option Addr) (cdv ct : Value) (us : List Value) (hl : us.length = 1) : bindArgs (PySem.W.fnOf "steps" "Machine.steps" (defArgs s_Machine_steps) (defBody s_Machine_steps) (defScope s_Machine_steps) .none kV doc pm an cdv ct) ⟨us, []⟩ = pure ((["self"] : List Str).zip us) := match us, hl with | [_], _ => rfl
theorem bb_Machine_ends (kV doc pm : Value) (an : Option Addr) (cdv ct : Value) (us : List Value) (hl : us.length = 1) : bindArgs (PySem.W.fnOf "ends" "Machine.ends" (defArgs s_Machine_ends) (defBody s_Machine_ends) (defScope s_Machine_ends) .none kV doc pm an cdv ct) ⟨us, []⟩ = pure ((["self"] : List Str).zip us) := match us, hl with | [_], _ => rfl
theorem bb_is_whole_number (kV doc pm : Value) (an : Option Addr) (cdv ct : Value) (us : List Value) (hl : us.length = 1) : bindArgs (PySem.W.fnOf "is_whole_number" "is_whole_number" (defArgs s_is_whole_number) (defBody s_is_whole_number) (defScope s_is_whole_number) .none kV doc pm an cdv ct) ⟨us, []⟩ = pure ((["value"] : List Str).zip us) := match us, hl with | [_], _ => rfl
theorem bb_is_integer_between (kV doc pm : Value) (an : Option Addr) (cdv ct : Value) (us : List Value) (hl : us.length = 3) : bindArgs (PySem.W.fnOf "is_integer_between" "is_integer_between" (defArgs s_is_integer_between) (defBody s_is_integer_between) (defScope s_is_integer_between) .none kV doc pm an cdv ct) ⟨us, []⟩ = pure ((["value", "least", "most"] : List Str).zip us) := match us, hl with | [_, _, _], _ => rfl
theorem bb_is_stand (kV doc pm : Value) (an : Option Addr) (cdv ct : Value) (us : List Value) (hl : us.length = 2) : bindArgs (PySem.W.fnOf "_is_stand" "_is_stand" (defArgs s_is_stand) (defBody s_is_stand) (defScope s_is_stand) .none kV doc pm an cdv ct) ⟨us, []⟩ = pure ((["stands", "value"] : List Str).zip us) := match us, hl with | [_, _], _ => rfl
theorem bb_check_stands (kV doc pm : Value) (an : Option Addr) (cdv ct : Value) (us : List Value) (hl : us.length = 1) : bindArgs (PySem.W.fnOf "_check_stands" "_check_stands" (defArgs s_check_stands) (defBody s_check_stands) (defScope s_check_stands) .none kV doc pm an cdv ct) ⟨us, []⟩ = pure ((["stands"] : List Str).zip us) := match us, hl with | [_], _ => rfl
theorem bb_is_step (kV doc pm : Value) (an : Option Addr) (cdv ct : Value) (us : List Value) (hl : us.length = 2) : bindArgs (PySem.W.fnOf "_is_step" "_is_step" (defArgs s_is_step) (defBody s_is_step) (defScope s_is_step) .none kV doc pm an cdv ct) ⟨us, []⟩ = pure ((["stands", "value"] : List Str).zip us) := match us, hl with | [_, _], _ => rfl
theorem bb_check_steps (kV doc pm : Value) (an : Option Addr) (cdv ct : Value) (us : List Value) (hl : us.length = 2) : bindArgs (PySem.W.fnOf "_check_steps" "_check_steps" (defArgs s_check_steps) (defBody s_check_steps) (defScope s_check_steps) .none kV doc pm an cdv ct) ⟨us, []⟩ = pure ((["stands", "steps"] : List Str).zip us) := match us, hl with | [_, _], _ => rfl
theorem bb_is_ascending (kV doc pm : Value) (an : Option Addr) (cdv ct : Value) (us : List Value) (hl : us.length = 2) : bindArgs (PySem.W.fnOf "is_ascending" "is_ascending" (defArgs s_is_ascending) (defBody s_is_ascending) (defScope s_is_ascending) .none kV doc pm an cdv ct) ⟨us, []⟩ = pure ((["value", "many"] : List Str).zip us) := match us, hl with | [_, _], _ => rfl
theorem bb_check_ends (kV doc pm : Value) (an : Option Addr) (cdv ct : Value) (us : List Value) (hl : us.length = 2) : bindArgs (PySem.W.fnOf "_check_ends" "_check_ends" (defArgs s_check_ends) (defBody s_check_ends) (defScope s_check_ends) .none kV doc pm an cdv ct) ⟨us, []⟩ = pure ((["stands", "ends"] : List Str).zip us) := match us, hl with | [_, _], _ => rfl
theorem bb_check_machine (kV doc pm : Value) (an : Option Addr) (cdv ct : Value) (us : List Value) (hl : us.length = 1) : bindArgs (PySem.W.fnOf "check_machine" "check_machine" (defArgs s_check_machine) (defBody s_check_machine) (defScope s_check_machine) .none kV doc pm an cdv ct) ⟨us, []⟩ = pure ((["value"] : List Str).zip us) := match us, hl with | [_], _ => rfl
theorem bb_check_stand (kV doc pm : Value) (an : Option Addr) (cdv ct : Value) (us : List Value) (hl : us.length = 2) : bindArgs (PySem.W.fnOf "check_stand" "check_stand" (defArgs s_check_stand) (defBody s_check_stand) (defScope s_check_stand) .none kV doc pm an cdv ct) ⟨us, []⟩ = pure ((["machine", "value"] : List Str).zip us) := match us, hl with | [_, _], _ => rfl
theorem bb_check_number (kV doc pm : Value) (an : Option Addr) (cdv ct : Value) (us : List Value) (hl : us.length = 3) : bindArgs (PySem.W.fnOf "check_number" "check_number" (defArgs s_check_number) (defBody s_check_number) (defScope s_check_number) .none kV doc pm an cdv ct) ⟨us, []⟩ = pure ((["value", "least", "most"] : List Str).zip us) := match us, hl with | [_, _, _], _ => rfl
theorem bb_moves_of (kV doc pm : Value) (an : Option Addr) (cdv ct : Value) (us : List Value) (hl : us.length = 1) : bindArgs (PySem.W.fnOf "moves_of" "moves_of" (defArgs s_moves_of) (defBody s_moves_of) (defScope s_moves_of) .none kV doc pm an cdv ct) ⟨us, []⟩ = pure ((["machine"] : List Str).zip us) := match us, hl with | [_], _ => rfl
theorem bb_way (kV doc pm : Value) (an : Option Addr) (cdv ct : Value) (us : List Value) (hl : us.length = 3) : bindArgs (PySem.W.fnOf "way" "way" (defArgs s_way) (defBody s_way) (defScope s_way) .none kV doc pm an cdv ct) ⟨us, []⟩ = pure ((["machine", "stand", "value"] : List Str).zip us) := match us, hl with | [_, _, _], _ => rfl
theorem bb_gain_of_loop (kV doc pm : Value) (an : Option Addr) (cdv ct : Value) (us : List Value) (hl : us.length = 3) : bindArgs (PySem.W.fnOf "gain_of_loop" "gain_of_loop" (defArgs s_gain_of_loop) (defBody s_gain_of_loop) (defScope s_gain_of_loop) .none kV doc pm an cdv ct) ⟨us, []⟩ = pure ((["machine", "lead", "loop"] : List Str).zip us) := match us, hl with | [_, _, _], _ => rfl
theorem bb_reached (kV doc pm : Value) (an : Option Addr) (cdv ct : Value) (us : List Value) (hl : us.length = 1) : bindArgs (PySem.W.fnOf "reached" "reached" (defArgs s_reached) (defBody s_reached) (defScope s_reached) .none kV doc pm an cdv ct) ⟨us, []⟩ = pure ((["machine"] : List Str).zip us) := match us, hl with | [_], _ => rfl
theorem bb_tally_at (kV doc pm : Value) (an : Option Addr) (cdv ct : Value) (us : List Value) (hl : us.length = 3) : bindArgs (PySem.W.fnOf "_tally_at" "_tally_at" (defArgs s_tally_at) (defBody s_tally_at) (defScope s_tally_at) .none kV doc pm an cdv ct) ⟨us, []⟩ = pure ((["machine", "stand", "sign"] : List Str).zip us) := match us, hl with | [_, _, _], _ => rfl
theorem bb_greatest_at (kV doc pm : Value) (an : Option Addr) (cdv ct : Value) (us : List Value) (hl : us.length = 2) : bindArgs (PySem.W.fnOf "greatest_at" "greatest_at" (defArgs s_greatest_at) (defBody s_greatest_at) (defScope s_greatest_at) .none kV doc pm an cdv ct) ⟨us, []⟩ = pure ((["machine", "stand"] : List Str).zip us) := match us, hl with | [_, _], _ => rfl
theorem bb_least_at (kV doc pm : Value) (an : Option Addr) (cdv ct : Value) (us : List Value) (hl : us.length = 2) : bindArgs (PySem.W.fnOf "least_at" "least_at" (defArgs s_least_at) (defBody s_least_at) (defScope s_least_at) .none kV doc pm an cdv ct) ⟨us, []⟩ = pure ((["machine", "stand"] : List Str).zip us) := match us, hl with | [_, _], _ => rfl
theorem bb_bounds (kV doc pm : Value) (an : Option Addr) (cdv ct : Value) (us : List Value) (hl : us.length = 1) : bindArgs (PySem.W.fnOf "bounds" "bounds" (defArgs s_bounds) (defBody s_bounds) (defScope s_bounds) .none kV doc pm an cdv ct) ⟨us, []⟩ = pure ((["machine"] : List Str).zip us) := match us, hl with | [_], _ => rfl
theorem bb_check_bounds (kV doc pm : Value) (an : Option Addr) (cdv ct : Value) (us : List Value) (hl : us.length = 3) : bindArgs (PySem.W.fnOf "check_bounds" "check_bounds" (defArgs s_check_bounds) (defBody s_check_bounds) (defScope s_check_bounds) .none kV doc pm an cdv ct) ⟨us, []⟩ = pure ((["low", "high", "most"] : List Str).zip us) := match us, hl with | [_, _, _], _ => rfl
theorem bb_stays (kV doc pm : Value) (an : Option Addr) (cdv ct : Value) (us : List Value) (hl : us.length = 3) : bindArgs (PySem.W.fnOf "stays" "stays" (defArgs s_stays) (defBody s_stays) (defScope s_stays) .none kV doc pm an cdv ct) ⟨us, []⟩ = pure ((["machine", "low", "high"] : List Str).zip us) := match us, hl with | [_, _, _], _ => rfl
theorem bb_ring (kV doc pm : Value) (an : Option Addr) (cdv ct : Value) (us : List Value) (hl : us.length = 1) : bindArgs (PySem.W.fnOf "_ring" "_ring" (defArgs s_ring) (defBody s_ring) (defScope s_ring) .none kV doc pm an cdv ct) ⟨us, []⟩ = pure ((["machine"] : List Str).zip us) := match us, hl with | [_], _ => rfl
theorem bb_row_outside (kV doc pm : Value) (an : Option Addr) (cdv ct : Value) (us : List Value) (hl : us.length = 3) : bindArgs (PySem.W.fnOf "_row_outside" "_row_outside" (defArgs s_row_outside) (defBody s_row_outside) (defScope s_row_outside) .none kV doc pm an cdv ct) ⟨us, []⟩ = pure ((["machine", "low", "high"] : List Str).zip us) := match us, hl with | [_, _, _], _ => rfl
theorem bb_bar (kV doc pm : Value) (an : Option Addr) (cdv ct : Value) (us : List Value) (hl : us.length = 3) : bindArgs (PySem.W.fnOf "bar" "bar" (defArgs s_bar) (defBody s_bar) (defScope s_bar) .none kV doc pm an cdv ct) ⟨us, []⟩ = pure ((["machine", "low", "high"] : List Str).zip us) := match us, hl with | [_, _, _], _ => rfl
theorem bb_bars_as_row (kV doc pm : Value) (an : Option Addr) (cdv ct : Value) (us : List Value) (hl : us.length = 4) : bindArgs (PySem.W.fnOf "_bars_as_row" "_bars_as_row" (defArgs s_bars_as_row) (defBody s_bars_as_row) (defScope s_bars_as_row) .none kV doc pm an cdv ct) ⟨us, []⟩ = pure ((["machine", "low", "high", "row"] : List Str).zip us) := match us, hl with | [_, _, _, _], _ => rfl
theorem bb_bars_as_ring (kV doc pm : Value) (an : Option Addr) (cdv ct : Value) (us : List Value) (hl : us.length = 3) : bindArgs (PySem.W.fnOf "_bars_as_ring" "_bars_as_ring" (defArgs s_bars_as_ring) (defBody s_bars_as_ring) (defScope s_bars_as_ring) .none kV doc pm an cdv ct) ⟨us, []⟩ = pure ((["machine", "lead", "loop"] : List Str).zip us) := match us, hl with | [_, _, _], _ => rfl
theorem bb_right_bar (kV doc pm : Value) (an : Option Addr) (cdv ct : Value) (us : List Value) (hl : us.length = 4) : bindArgs (PySem.W.fnOf "right_bar" "right_bar" (defArgs s_right_bar) (defBody s_right_bar) (defScope s_right_bar) .none kV doc pm an cdv ct) ⟨us, []⟩ = pure ((["machine", "low", "high", "value"] : List Str).zip us) := match us, hl with | [_, _, _, _], _ => rfl
theorem bb_span_at (kV doc pm : Value) (an : Option Addr) (cdv ct : Value) (us : List Value) (hl : us.length = 2) : bindArgs (PySem.W.fnOf "_span_at" "_span_at" (defArgs s_span_at) (defBody s_span_at) (defScope s_span_at) .none kV doc pm an cdv ct) ⟨us, []⟩ = pure ((["machine", "stand"] : List Str).zip us) := match us, hl with | [_, _], _ => rfl
theorem bb_paper (kV doc pm : Value) (an : Option Addr) (cdv ct : Value) (us : List Value) (hl : us.length = 3) : bindArgs (PySem.W.fnOf "paper" "paper" (defArgs s_paper) (defBody s_paper) (defScope s_paper) .none kV doc pm an cdv ct) ⟨us, []⟩ = pure ((["machine", "low", "high"] : List Str).zip us) := match us, hl with | [_, _, _], _ => rfl
theorem bb_is_span (kV doc pm : Value) (an : Option Addr) (cdv ct : Value) (us : List Value) (hl : us.length = 3) : bindArgs (PySem.W.fnOf "_is_span" "_is_span" (defArgs s_is_span) (defBody s_is_span) (defScope s_is_span) .none kV doc pm an cdv ct) ⟨us, []⟩ = pure ((["value", "low", "high"] : List Str).zip us) := match us, hl with | [_, _, _], _ => rfl
theorem bb_covers (kV doc pm : Value) (an : Option Addr) (cdv ct : Value) (us : List Value) (hl : us.length = 3) : bindArgs (PySem.W.fnOf "_covers" "_covers" (defArgs s_covers) (defBody s_covers) (defScope s_covers) .none kV doc pm an cdv ct) ⟨us, []⟩ = pure ((["span", "least", "most"] : List Str).zip us) := match us, hl with | [_, _, _], _ => rfl
theorem bb_leads_on (kV doc pm : Value) (an : Option Addr) (cdv ct : Value) (us : List Value) (hl : us.length = 2) : bindArgs (PySem.W.fnOf "_leads_on" "_leads_on" (defArgs s_leads_on) (defBody s_leads_on) (defScope s_leads_on) .none kV doc pm an cdv ct) ⟨us, []⟩ = pure ((["spans", "step"] : List Str).zip us) := match us, hl with | [_, _], _ => rfl
theorem bb_right_paper (kV doc pm : Value) (an : Option Addr) (cdv ct : Value) (us : List Value) (hl : us.length = 4) : bindArgs (PySem.W.fnOf "right_paper" "right_paper" (defArgs s_right_paper) (defBody s_right_paper) (defScope s_right_paper) .none kV doc pm an cdv ct) ⟨us, []⟩ = pure ((["machine", "low", "high", "value"] : List Str).zip us) := match us, hl with | [_, _, _, _], _ => rfl
theorem bb_moves_from (kV doc pm : Value) (an : Option Addr) (cdv ct : Value) (us : List Value) (hl : us.length = 5) : bindArgs (PySem.W.fnOf "_moves_from" "_moves_from" (defArgs s_moves_from) (defBody s_moves_from) (defScope s_moves_from) .none kV doc pm an cdv ct) ⟨us, []⟩ = pure ((["machine", "stand", "tally", "low", "high"] : List Str).zip us) := match us, hl with | [_, _, _, _, _], _ => rfl
theorem bb_first_leaving (kV doc pm : Value) (an : Option Addr) (cdv ct : Value) (us : List Value) (hl : us.length = 3) : bindArgs (PySem.W.fnOf "first_leaving" "first_leaving" (defArgs s_first_leaving) (defBody s_first_leaving) (defScope s_first_leaving) .none kV doc pm an cdv ct) ⟨us, []⟩ = pure ((["machine", "low", "high"] : List Str).zip us) := match us, hl with | [_, _, _], _ => rfl
theorem bb_longer (kV doc pm : Value) (an : Option Addr) (cdv ct : Value) (us : List Value) (hl : us.length = 4) : bindArgs (PySem.W.fnOf "_longer" "_longer" (defArgs s_longer) (defBody s_longer) (defScope s_longer) .none kV doc pm an cdv ct) ⟨us, []⟩ = pure ((["steps", "numbers", "low", "high"] : List Str).zip us) := match us, hl with | [_, _, _, _], _ => rfl
theorem bb_numbers (kV doc pm : Value) (an : Option Addr) (cdv ct : Value) (us : List Value) (hl : us.length = 4) : bindArgs (PySem.W.fnOf "_numbers" "_numbers" (defArgs s_numbers) (defBody s_numbers) (defScope s_numbers) .none kV doc pm an cdv ct) ⟨us, []⟩ = pure ((["machine", "length", "low", "high"] : List Str).zip us) := match us, hl with | [_, _, _, _], _ => rfl
theorem bb_count_staying (kV doc pm : Value) (an : Option Addr) (cdv ct : Value) (us : List Value) (hl : us.length = 4) : bindArgs (PySem.W.fnOf "count_staying" "count_staying" (defArgs s_count_staying) (defBody s_count_staying) (defScope s_count_staying) .none kV doc pm an cdv ct) ⟨us, []⟩ = pure ((["machine", "length", "low", "high"] : List Str).zip us) := match us, hl with | [_, _, _, _], _ => rfl
theorem bb_law_taken (kV doc pm : Value) (an : Option Addr) (cdv ct : Value) (us : List Value) (hl : us.length = 2) : bindArgs (PySem.W.fnOf "_law_taken" "_law_taken" (defArgs s_law_taken) (defBody s_law_taken) (defScope s_law_taken) .none kV doc pm an cdv ct) ⟨us, []⟩ = pure ((["_law_row", "_law_many"] : List Str).zip us) := match us, hl with | [_, _], _ => rfl
theorem bb_law_call (kV doc pm : Value) (an : Option Addr) (cdv ct : Value) (us : List Value) (hl : us.length = 3) : bindArgs (PySem.W.fnOf "_law_call" "_law_call" (defArgs s_law_call) (defBody s_law_call) (defScope s_law_call) .none kV doc pm an cdv ct) ⟨us, []⟩ = pure ((["_law_kind", "_law_low", "_law_high"] : List Str).zip us) := match us, hl with | [_, _, _], _ => rfl
theorem bb_law_refused (kV doc pm : Value) (an : Option Addr) (cdv ct : Value) (us : List Value) (hl : us.length = 3) : bindArgs (PySem.W.fnOf "_law_refused" "_law_refused" (defArgs s_law_refused) (defBody s_law_refused) (defScope s_law_refused) .none kV doc pm an cdv ct) ⟨us, []⟩ = pure ((["_law_kind", "_law_low", "_law_high"] : List Str).zip us) := match us, hl with | [_, _, _], _ => rfl
theorem bb_law (kV doc pm : Value) (an : Option Addr) (cdv ct : Value) (us : List Value) (hl : us.length = 1) : bindArgs (PySem.W.fnOf "law" "law" (defArgs s_law) (defBody s_law) (defScope s_law) .none kV doc pm an cdv ct) ⟨us, []⟩ = pure ((["_law_script"] : List Str).zip us) := match us, hl with | [_], _ => rfl
set_option maxHeartbeats 0 in
def txt_mk {K : PySem.W.Frag} {h : Heap} {mg : Str → Option Value} (X : K.In h) (G : h.Ns mainGlobals mg)
    {a_BadNumber_init : Addr} {od_BadNumber_init an_BadNumber_init : Option Addr} {sl_BadNumber_init : Array (Option Value)} {oc_BadNumber_init kV_BadNumber_init dc_BadNumber_init pm_BadNumber_init cd_BadNumber_init ct_BadNumber_init : Value}
    {a_led_to : Addr} {od_led_to an_led_to : Option Addr} {sl_led_to : Array (Option Value)} {oc_led_to kV_led_to dc_led_to pm_led_to cd_led_to ct_led_to : Value}
    {a_longer_rows : Addr} {od_longer_rows an_longer_rows : Option Addr} {sl_longer_rows : Array (Option Value)} {oc_longer_rows kV_longer_rows dc_longer_rows pm_longer_rows cd_longer_rows ct_longer_rows : Value}
    {a_improved : Addr} {od_improved an_improved : Option Addr} {sl_improved : Array (Option Value)} {oc_improved kV_improved dc_improved pm_improved cd_improved ct_improved : Value}
    {a_best_rows : Addr} {od_best_rows an_best_rows : Option Addr} {sl_best_rows : Array (Option Value)} {oc_best_rows kV_best_rows dc_best_rows pm_best_rows cd_best_rows ct_best_rows : Value}
    {a_shortest_rows : Addr} {od_shortest_rows an_shortest_rows : Option Addr} {sl_shortest_rows : Array (Option Value)} {oc_shortest_rows kV_shortest_rows dc_shortest_rows pm_shortest_rows cd_shortest_rows ct_shortest_rows : Value}
    {a_best_loops : Addr} {od_best_loops an_best_loops : Option Addr} {sl_best_loops : Array (Option Value)} {oc_best_loops kV_best_loops dc_best_loops pm_best_loops cd_best_loops ct_best_loops : Value}
    {a_best_of : Addr} {od_best_of an_best_of : Option Addr} {sl_best_of : Array (Option Value)} {oc_best_of kV_best_of dc_best_of pm_best_of cd_best_of ct_best_of : Value}
    {a_least_and_greatest : Addr} {od_least_and_greatest an_least_and_greatest : Option Addr} {sl_least_and_greatest : Array (Option Value)} {oc_least_and_greatest kV_least_and_greatest dc_least_and_greatest pm_least_and_greatest cd_least_and_greatest ct_least_and_greatest : Value}
    {a_is_within : Addr} {od_is_within an_is_within : Option Addr} {sl_is_within : Array (Option Value)} {oc_is_within kV_is_within dc_is_within pm_is_within cd_is_within ct_is_within : Value}
    {a_first_row_out : Addr} {od_first_row_out an_first_row_out : Option Addr} {sl_first_row_out : Array (Option Value)} {oc_first_row_out kV_first_row_out dc_first_row_out pm_first_row_out cd_first_row_out ct_first_row_out : Value}
    {a_Machine_init : Addr} {od_Machine_init an_Machine_init : Option Addr} {sl_Machine_init : Array (Option Value)} {oc_Machine_init kV_Machine_init dc_Machine_init pm_Machine_init cd_Machine_init ct_Machine_init : Value}
    {a_Machine_stands : Addr} {od_Machine_stands an_Machine_stands : Option Addr} {sl_Machine_stands : Array (Option Value)} {oc_Machine_stands kV_Machine_stands dc_Machine_stands pm_Machine_stands cd_Machine_stands ct_Machine_stands : Value}
    {a_Machine_steps : Addr} {od_Machine_steps an_Machine_steps : Option Addr} {sl_Machine_steps : Array (Option Value)} {oc_Machine_steps kV_Machine_steps dc_Machine_steps pm_Machine_steps cd_Machine_steps ct_Machine_steps : Value}
    {a_Machine_ends : Addr} {od_Machine_ends an_Machine_ends : Option Addr} {sl_Machine_ends : Array (Option Value)} {oc_Machine_ends kV_Machine_ends dc_Machine_ends pm_Machine_ends cd_Machine_ends ct_Machine_ends : Value}
    {a_is_whole_number : Addr} {od_is_whole_number an_is_whole_number : Option Addr} {sl_is_whole_number : Array (Option Value)} {oc_is_whole_number kV_is_whole_number dc_is_whole_number pm_is_whole_number cd_is_whole_number ct_is_whole_number : Value}
    {a_is_integer_between : Addr} {od_is_integer_between an_is_integer_between : Option Addr} {sl_is_integer_between : Array (Option Value)} {oc_is_integer_between kV_is_integer_between dc_is_integer_between pm_is_integer_between cd_is_integer_between ct_is_integer_between : Value}
    {a_is_stand : Addr} {od_is_stand an_is_stand : Option Addr} {sl_is_stand : Array (Option Value)} {oc_is_stand kV_is_stand dc_is_stand pm_is_stand cd_is_stand ct_is_stand : Value}
    {a_check_stands : Addr} {od_check_stands an_check_stands : Option Addr} {sl_check_stands : Array (Option Value)} {oc_check_stands kV_check_stands dc_check_stands pm_check_stands cd_check_stands ct_check_stands : Value}
    {a_is_step : Addr} {od_is_step an_is_step : Option Addr} {sl_is_step : Array (Option Value)} {oc_is_step kV_is_step dc_is_step pm_is_step cd_is_step ct_is_step : Value}
    {a_check_steps : Addr} {od_check_steps an_check_steps : Option Addr} {sl_check_steps : Array (Option Value)} {oc_check_steps kV_check_steps dc_check_steps pm_check_steps cd_check_steps ct_check_steps : Value}
    {a_is_ascending : Addr} {od_is_ascending an_is_ascending : Option Addr} {sl_is_ascending : Array (Option Value)} {oc_is_ascending kV_is_ascending dc_is_ascending pm_is_ascending cd_is_ascending ct_is_ascending : Value}
    {a_check_ends : Addr} {od_check_ends an_check_ends : Option Addr} {sl_check_ends : Array (Option Value)} {oc_check_ends kV_check_ends dc_check_ends pm_check_ends cd_check_ends ct_check_ends : Value}
    {a_check_machine : Addr} {od_check_machine an_check_machine : Option Addr} {sl_check_machine : Array (Option Value)} {oc_check_machine kV_check_machine dc_check_machine pm_check_machine cd_check_machine ct_check_machine : Value}
    {a_check_stand : Addr} {od_check_stand an_check_stand : Option Addr} {sl_check_stand : Array (Option Value)} {oc_check_stand kV_check_stand dc_check_stand pm_check_stand cd_check_stand ct_check_stand : Value}
    {a_check_number : Addr} {od_check_number an_check_number : Option Addr} {sl_check_number : Array (Option Value)} {oc_check_number kV_check_number dc_check_number pm_check_number cd_check_number ct_check_number : Value}
    {a_moves_of : Addr} {od_moves_of an_moves_of : Option Addr} {sl_moves_of : Array (Option Value)} {oc_moves_of kV_moves_of dc_moves_of pm_moves_of cd_moves_of ct_moves_of : Value}
    {a_way : Addr} {od_way an_way : Option Addr} {sl_way : Array (Option Value)} {oc_way kV_way dc_way pm_way cd_way ct_way : Value}
    {a_gain_of_loop : Addr} {od_gain_of_loop an_gain_of_loop : Option Addr} {sl_gain_of_loop : Array (Option Value)} {oc_gain_of_loop kV_gain_of_loop dc_gain_of_loop pm_gain_of_loop cd_gain_of_loop ct_gain_of_loop : Value}
    {a_reached : Addr} {od_reached an_reached : Option Addr} {sl_reached : Array (Option Value)} {oc_reached kV_reached dc_reached pm_reached cd_reached ct_reached : Value}
    {a_tally_at : Addr} {od_tally_at an_tally_at : Option Addr} {sl_tally_at : Array (Option Value)} {oc_tally_at kV_tally_at dc_tally_at pm_tally_at cd_tally_at ct_tally_at : Value}
    {a_greatest_at : Addr} {od_greatest_at an_greatest_at : Option Addr} {sl_greatest_at : Array (Option Value)} {oc_greatest_at kV_greatest_at dc_greatest_at pm_greatest_at cd_greatest_at ct_greatest_at : Value}
    {a_least_at : Addr} {od_least_at an_least_at : Option Addr} {sl_least_at : Array (Option Value)} {oc_least_at kV_least_at dc_least_at pm_least_at cd_least_at ct_least_at : Value}
    {a_bounds : Addr} {od_bounds an_bounds : Option Addr} {sl_bounds : Array (Option Value)} {oc_bounds kV_bounds dc_bounds pm_bounds cd_bounds ct_bounds : Value}
    {a_check_bounds : Addr} {od_check_bounds an_check_bounds : Option Addr} {sl_check_bounds : Array (Option Value)} {oc_check_bounds kV_check_bounds dc_check_bounds pm_check_bounds cd_check_bounds ct_check_bounds : Value}
    {a_stays : Addr} {od_stays an_stays : Option Addr} {sl_stays : Array (Option Value)} {oc_stays kV_stays dc_stays pm_stays cd_stays ct_stays : Value}
    {a_ring : Addr} {od_ring an_ring : Option Addr} {sl_ring : Array (Option Value)} {oc_ring kV_ring dc_ring pm_ring cd_ring ct_ring : Value}
    {a_row_outside : Addr} {od_row_outside an_row_outside : Option Addr} {sl_row_outside : Array (Option Value)} {oc_row_outside kV_row_outside dc_row_outside pm_row_outside cd_row_outside ct_row_outside : Value}
    {a_bar : Addr} {od_bar an_bar : Option Addr} {sl_bar : Array (Option Value)} {oc_bar kV_bar dc_bar pm_bar cd_bar ct_bar : Value}
    {a_bars_as_row : Addr} {od_bars_as_row an_bars_as_row : Option Addr} {sl_bars_as_row : Array (Option Value)} {oc_bars_as_row kV_bars_as_row dc_bars_as_row pm_bars_as_row cd_bars_as_row ct_bars_as_row : Value}
    {a_bars_as_ring : Addr} {od_bars_as_ring an_bars_as_ring : Option Addr} {sl_bars_as_ring : Array (Option Value)} {oc_bars_as_ring kV_bars_as_ring dc_bars_as_ring pm_bars_as_ring cd_bars_as_ring ct_bars_as_ring : Value}
    {a_right_bar : Addr} {od_right_bar an_right_bar : Option Addr} {sl_right_bar : Array (Option Value)} {oc_right_bar kV_right_bar dc_right_bar pm_right_bar cd_right_bar ct_right_bar : Value}
    {a_span_at : Addr} {od_span_at an_span_at : Option Addr} {sl_span_at : Array (Option Value)} {oc_span_at kV_span_at dc_span_at pm_span_at cd_span_at ct_span_at : Value}
    {a_paper : Addr} {od_paper an_paper : Option Addr} {sl_paper : Array (Option Value)} {oc_paper kV_paper dc_paper pm_paper cd_paper ct_paper : Value}
    {a_is_span : Addr} {od_is_span an_is_span : Option Addr} {sl_is_span : Array (Option Value)} {oc_is_span kV_is_span dc_is_span pm_is_span cd_is_span ct_is_span : Value}
    {a_covers : Addr} {od_covers an_covers : Option Addr} {sl_covers : Array (Option Value)} {oc_covers kV_covers dc_covers pm_covers cd_covers ct_covers : Value}
    {a_leads_on : Addr} {od_leads_on an_leads_on : Option Addr} {sl_leads_on : Array (Option Value)} {oc_leads_on kV_leads_on dc_leads_on pm_leads_on cd_leads_on ct_leads_on : Value}
    {a_right_paper : Addr} {od_right_paper an_right_paper : Option Addr} {sl_right_paper : Array (Option Value)} {oc_right_paper kV_right_paper dc_right_paper pm_right_paper cd_right_paper ct_right_paper : Value}
    {a_moves_from : Addr} {od_moves_from an_moves_from : Option Addr} {sl_moves_from : Array (Option Value)} {oc_moves_from kV_moves_from dc_moves_from pm_moves_from cd_moves_from ct_moves_from : Value}
    {a_first_leaving : Addr} {od_first_leaving an_first_leaving : Option Addr} {sl_first_leaving : Array (Option Value)} {oc_first_leaving kV_first_leaving dc_first_leaving pm_first_leaving cd_first_leaving ct_first_leaving : Value}
    {a_longer : Addr} {od_longer an_longer : Option Addr} {sl_longer : Array (Option Value)} {oc_longer kV_longer dc_longer pm_longer cd_longer ct_longer : Value}
    {a_numbers : Addr} {od_numbers an_numbers : Option Addr} {sl_numbers : Array (Option Value)} {oc_numbers kV_numbers dc_numbers pm_numbers cd_numbers ct_numbers : Value}
    {a_count_staying : Addr} {od_count_staying an_count_staying : Option Addr} {sl_count_staying : Array (Option Value)} {oc_count_staying kV_count_staying dc_count_staying pm_count_staying cd_count_staying ct_count_staying : Value}
    {a_law_taken : Addr} {od_law_taken an_law_taken : Option Addr} {sl_law_taken : Array (Option Value)} {oc_law_taken kV_law_taken dc_law_taken pm_law_taken cd_law_taken ct_law_taken : Value}
    {a_law_call : Addr} {od_law_call an_law_call : Option Addr} {sl_law_call : Array (Option Value)} {oc_law_call kV_law_call dc_law_call pm_law_call cd_law_call ct_law_call : Value}
    {a_law_refused : Addr} {od_law_refused an_law_refused : Option Addr} {sl_law_refused : Array (Option Value)} {oc_law_refused kV_law_refused dc_law_refused pm_law_refused cd_law_refused ct_law_refused : Value}
    {a_law : Addr} {od_law an_law : Option Addr} {sl_law : Array (Option Value)} {oc_law kV_law dc_law pm_law cd_law ct_law : Value}
    {c_Machine : Addr}
    {q_stands : Addr} {rest_stands : List Value}
    {q_steps : Addr} {rest_steps : List Value}
    {q_ends : Addr} {rest_ends : List Value}
    {c_BadBounds : Addr}
    {c_BadNumber : Addr}
    {c_TallyError : Addr}
    {t_MOST_STANDS : Tok}
    {t_MOST_GAIN : Tok}
    {a_LETTERS : Addr}
    {t_ENDLESS : Tok}
    {t_MOST_NUMBER : Tok}
    {t_MOST_LENGTH : Tok}
    {t_MOST_SMALL_BOUND : Tok}
    (g_led_to : PySem.W.nsIn K mainGlobals "led_to" = some (some (.ref a_led_to)))
    (g_longer_rows : PySem.W.nsIn K mainGlobals "longer_rows" = some (some (.ref a_longer_rows)))
    (g_improved : PySem.W.nsIn K mainGlobals "_improved" = some (some (.ref a_improved)))
    (g_best_rows : PySem.W.nsIn K mainGlobals "best_rows" = some (some (.ref a_best_rows)))
    (g_shortest_rows : PySem.W.nsIn K mainGlobals "shortest_rows" = some (some (.ref a_shortest_rows)))
    (g_best_loops : PySem.W.nsIn K mainGlobals "best_loops" = some (some (.ref a_best_loops)))
    (g_best_of : PySem.W.nsIn K mainGlobals "_best_of" = some (some (.ref a_best_of)))
    (g_least_and_greatest : PySem.W.nsIn K mainGlobals "least_and_greatest" = some (some (.ref a_least_and_greatest)))
    (g_is_within : PySem.W.nsIn K mainGlobals "is_within" = some (some (.ref a_is_within)))
    (g_first_row_out : PySem.W.nsIn K mainGlobals "first_row_out" = some (some (.ref a_first_row_out)))
    (g_is_whole_number : PySem.W.nsIn K mainGlobals "is_whole_number" = some (some (.ref a_is_whole_number)))
    (g_is_integer_between : PySem.W.nsIn K mainGlobals "is_integer_between" = some (some (.ref a_is_integer_between)))
    (g_is_stand : PySem.W.nsIn K mainGlobals "_is_stand" = some (some (.ref a_is_stand)))
    (g_check_stands : PySem.W.nsIn K mainGlobals "_check_stands" = some (some (.ref a_check_stands)))
    (g_is_step : PySem.W.nsIn K mainGlobals "_is_step" = some (some (.ref a_is_step)))
    (g_check_steps : PySem.W.nsIn K mainGlobals "_check_steps" = some (some (.ref a_check_steps)))
    (g_is_ascending : PySem.W.nsIn K mainGlobals "is_ascending" = some (some (.ref a_is_ascending)))
    (g_check_ends : PySem.W.nsIn K mainGlobals "_check_ends" = some (some (.ref a_check_ends)))
    (g_check_machine : PySem.W.nsIn K mainGlobals "check_machine" = some (some (.ref a_check_machine)))
    (g_check_stand : PySem.W.nsIn K mainGlobals "check_stand" = some (some (.ref a_check_stand)))
    (g_check_number : PySem.W.nsIn K mainGlobals "check_number" = some (some (.ref a_check_number)))
    (g_moves_of : PySem.W.nsIn K mainGlobals "moves_of" = some (some (.ref a_moves_of)))
    (g_way : PySem.W.nsIn K mainGlobals "way" = some (some (.ref a_way)))
    (g_gain_of_loop : PySem.W.nsIn K mainGlobals "gain_of_loop" = some (some (.ref a_gain_of_loop)))
    (g_reached : PySem.W.nsIn K mainGlobals "reached" = some (some (.ref a_reached)))
    (g_tally_at : PySem.W.nsIn K mainGlobals "_tally_at" = some (some (.ref a_tally_at)))
    (g_greatest_at : PySem.W.nsIn K mainGlobals "greatest_at" = some (some (.ref a_greatest_at)))
    (g_least_at : PySem.W.nsIn K mainGlobals "least_at" = some (some (.ref a_least_at)))
    (g_bounds : PySem.W.nsIn K mainGlobals "bounds" = some (some (.ref a_bounds)))
    (g_check_bounds : PySem.W.nsIn K mainGlobals "check_bounds" = some (some (.ref a_check_bounds)))
    (g_stays : PySem.W.nsIn K mainGlobals "stays" = some (some (.ref a_stays)))
    (g_ring : PySem.W.nsIn K mainGlobals "_ring" = some (some (.ref a_ring)))
    (g_row_outside : PySem.W.nsIn K mainGlobals "_row_outside" = some (some (.ref a_row_outside)))
    (g_bar : PySem.W.nsIn K mainGlobals "bar" = some (some (.ref a_bar)))
    (g_bars_as_row : PySem.W.nsIn K mainGlobals "_bars_as_row" = some (some (.ref a_bars_as_row)))
    (g_bars_as_ring : PySem.W.nsIn K mainGlobals "_bars_as_ring" = some (some (.ref a_bars_as_ring)))
    (g_right_bar : PySem.W.nsIn K mainGlobals "right_bar" = some (some (.ref a_right_bar)))
    (g_span_at : PySem.W.nsIn K mainGlobals "_span_at" = some (some (.ref a_span_at)))
    (g_paper : PySem.W.nsIn K mainGlobals "paper" = some (some (.ref a_paper)))
    (g_is_span : PySem.W.nsIn K mainGlobals "_is_span" = some (some (.ref a_is_span)))
    (g_covers : PySem.W.nsIn K mainGlobals "_covers" = some (some (.ref a_covers)))
    (g_leads_on : PySem.W.nsIn K mainGlobals "_leads_on" = some (some (.ref a_leads_on)))
    (g_right_paper : PySem.W.nsIn K mainGlobals "right_paper" = some (some (.ref a_right_paper)))
    (g_moves_from : PySem.W.nsIn K mainGlobals "_moves_from" = some (some (.ref a_moves_from)))
    (g_first_leaving : PySem.W.nsIn K mainGlobals "first_leaving" = some (some (.ref a_first_leaving)))
    (g_longer : PySem.W.nsIn K mainGlobals "_longer" = some (some (.ref a_longer)))
    (g_numbers : PySem.W.nsIn K mainGlobals "_numbers" = some (some (.ref a_numbers)))
    (g_count_staying : PySem.W.nsIn K mainGlobals "count_staying" = some (some (.ref a_count_staying)))
    (g_law_taken : PySem.W.nsIn K mainGlobals "_law_taken" = some (some (.ref a_law_taken)))
    (g_law_call : PySem.W.nsIn K mainGlobals "_law_call" = some (some (.ref a_law_call)))
    (g_law_refused : PySem.W.nsIn K mainGlobals "_law_refused" = some (some (.ref a_law_refused)))
    (g_law : PySem.W.nsIn K mainGlobals "law" = some (some (.ref a_law)))
    (g_Machine : PySem.W.nsIn K mainGlobals "Machine" = some (some (.ref c_Machine)))
    (g_BadBounds : PySem.W.nsIn K mainGlobals "BadBounds" = some (some (.ref c_BadBounds)))
    (g_BadNumber : PySem.W.nsIn K mainGlobals "BadNumber" = some (some (.ref c_BadNumber)))
    (g_TallyError : PySem.W.nsIn K mainGlobals "TallyError" = some (some (.ref c_TallyError)))
    (g_MOST_STANDS : PySem.W.nsIn K mainGlobals "MOST_STANDS" = some (some (.int 8 t_MOST_STANDS)))
    (g_MOST_GAIN : PySem.W.nsIn K mainGlobals "MOST_GAIN" = some (some (.int 1000000000000000000000000000000 t_MOST_GAIN)))
    (g_LETTERS : PySem.W.nsIn K mainGlobals "LETTERS" = some (some (.ref a_LETTERS)))
    (g_ENDLESS : PySem.W.nsIn K mainGlobals "ENDLESS" = some (some (.str "endless" t_ENDLESS)))
    (g_MOST_NUMBER : PySem.W.nsIn K mainGlobals "MOST_NUMBER" = some (some (.int 10000000000000000000000000000000000000000 t_MOST_NUMBER)))
    (g_MOST_LENGTH : PySem.W.nsIn K mainGlobals "MOST_LENGTH" = some (some (.int 12 t_MOST_LENGTH)))
    (g_MOST_SMALL_BOUND : PySem.W.nsIn K mainGlobals "MOST_SMALL_BOUND" = some (some (.int 20 t_MOST_SMALL_BOUND)))
    (zz_all : PySem.W.nsIn K mainGlobals "all" = some none)
    (zz_bool : PySem.W.nsIn K mainGlobals "bool" = some none)
    (zz_enumerate : PySem.W.nsIn K mainGlobals "enumerate" = some none)
    (zz_int : PySem.W.nsIn K mainGlobals "int" = some none)
    (zz_isinstance : PySem.W.nsIn K mainGlobals "isinstance" = some none)
    (zz_len : PySem.W.nsIn K mainGlobals "len" = some none)
    (zz_list : PySem.W.nsIn K mainGlobals "list" = some none)
    (zz_max : PySem.W.nsIn K mainGlobals "max" = some none)
    (zz_min : PySem.W.nsIn K mainGlobals "min" = some none)
    (zz_range : PySem.W.nsIn K mainGlobals "range" = some none)
    (zz_sorted : PySem.W.nsIn K mainGlobals "sorted" = some none)
    (zz_str : PySem.W.nsIn K mainGlobals "str" = some none)
    (zz_sum : PySem.W.nsIn K mainGlobals "sum" = some none)
    (zz_tuple : PySem.W.nsIn K mainGlobals "tuple" = some none)
    (l_BadNumber_init : K.lookup a_BadNumber_init = some ⟨oc_BadNumber_init, od_BadNumber_init, .func (PySem.W.fnOf "__init__" "BadNumber.__init__" (defArgs s_BadNumber_init) (defBody s_BadNumber_init) (defScope s_BadNumber_init) .none kV_BadNumber_init dc_BadNumber_init pm_BadNumber_init an_BadNumber_init cd_BadNumber_init ct_BadNumber_init), sl_BadNumber_init⟩)
    (c_BadNumber_init : PySem.W.codeIn K cd_BadNumber_init "BadNumber.__init__" = true)
    (kk_BadNumber_init : PySem.W.keepIn K (.ref a_BadNumber_init) = true)
    (l_led_to : K.lookup a_led_to = some ⟨oc_led_to, od_led_to, .func (PySem.W.fnOf "led_to" "led_to" (defArgs s_led_to) (defBody s_led_to) (defScope s_led_to) .none kV_led_to dc_led_to pm_led_to an_led_to cd_led_to ct_led_to), sl_led_to⟩)
    (c_led_to : PySem.W.codeIn K cd_led_to "led_to" = true)
    (kk_led_to : PySem.W.keepIn K (.ref a_led_to) = true)
    (l_longer_rows : K.lookup a_longer_rows = some ⟨oc_longer_rows, od_longer_rows, .func (PySem.W.fnOf "longer_rows" "longer_rows" (defArgs s_longer_rows) (defBody s_longer_rows) (defScope s_longer_rows) .none kV_longer_rows dc_longer_rows pm_longer_rows an_longer_rows cd_longer_rows ct_longer_rows), sl_longer_rows⟩)
    (c_longer_rows : PySem.W.codeIn K cd_longer_rows "longer_rows" = true)
    (kk_longer_rows : PySem.W.keepIn K (.ref a_longer_rows) = true)
    (l_improved : K.lookup a_improved = some ⟨oc_improved, od_improved, .func (PySem.W.fnOf "_improved" "_improved" (defArgs s_improved) (defBody s_improved) (defScope s_improved) .none kV_improved dc_improved pm_improved an_improved cd_improved ct_improved), sl_improved⟩)
    (c_improved : PySem.W.codeIn K cd_improved "_improved" = true)
    (kk_improved : PySem.W.keepIn K (.ref a_improved) = true)
    (l_best_rows : K.lookup a_best_rows = some ⟨oc_best_rows, od_best_rows, .func (PySem.W.fnOf "best_rows" "best_rows" (defArgs s_best_rows) (defBody s_best_rows) (defScope s_best_rows) .none kV_best_rows dc_best_rows pm_best_rows an_best_rows cd_best_rows ct_best_rows), sl_best_rows⟩)
    (c_best_rows : PySem.W.codeIn K cd_best_rows "best_rows" = true)
    (kk_best_rows : PySem.W.keepIn K (.ref a_best_rows) = true)
    (l_shortest_rows : K.lookup a_shortest_rows = some ⟨oc_shortest_rows, od_shortest_rows, .func (PySem.W.fnOf "shortest_rows" "shortest_rows" (defArgs s_shortest_rows) (defBody s_shortest_rows) (defScope s_shortest_rows) .none kV_shortest_rows dc_shortest_rows pm_shortest_rows an_shortest_rows cd_shortest_rows ct_shortest_rows), sl_shortest_rows⟩)
    (c_shortest_rows : PySem.W.codeIn K cd_shortest_rows "shortest_rows" = true)
    (kk_shortest_rows : PySem.W.keepIn K (.ref a_shortest_rows) = true)
    (l_best_loops : K.lookup a_best_loops = some ⟨oc_best_loops, od_best_loops, .func (PySem.W.fnOf "best_loops" "best_loops" (defArgs s_best_loops) (defBody s_best_loops) (defScope s_best_loops) .none kV_best_loops dc_best_loops pm_best_loops an_best_loops cd_best_loops ct_best_loops), sl_best_loops⟩)
    (c_best_loops : PySem.W.codeIn K cd_best_loops "best_loops" = true)
    (kk_best_loops : PySem.W.keepIn K (.ref a_best_loops) = true)
    (l_best_of : K.lookup a_best_of = some ⟨oc_best_of, od_best_of, .func (PySem.W.fnOf "_best_of" "_best_of" (defArgs s_best_of) (defBody s_best_of) (defScope s_best_of) .none kV_best_of dc_best_of pm_best_of an_best_of cd_best_of ct_best_of), sl_best_of⟩)
    (c_best_of : PySem.W.codeIn K cd_best_of "_best_of" = true)
    (kk_best_of : PySem.W.keepIn K (.ref a_best_of) = true)
    (l_least_and_greatest : K.lookup a_least_and_greatest = some ⟨oc_least_and_greatest, od_least_and_greatest, .func (PySem.W.fnOf "least_and_greatest" "least_and_greatest" (defArgs s_least_and_greatest) (defBody s_least_and_greatest) (defScope s_least_and_greatest) .none kV_least_and_greatest dc_least_and_greatest pm_least_and_greatest an_least_and_greatest cd_least_and_greatest ct_least_and_greatest), sl_least_and_greatest⟩)
    (c_least_and_greatest : PySem.W.codeIn K cd_least_and_greatest "least_and_greatest" = true)
    (kk_least_and_greatest : PySem.W.keepIn K (.ref a_least_and_greatest) = true)
    (l_is_within : K.lookup a_is_within = some ⟨oc_is_within, od_is_within, .func (PySem.W.fnOf "is_within" "is_within" (defArgs s_is_within) (defBody s_is_within) (defScope s_is_within) .none kV_is_within dc_is_within pm_is_within an_is_within cd_is_within ct_is_within), sl_is_within⟩)
    (c_is_within : PySem.W.codeIn K cd_is_within "is_within" = true)
    (kk_is_within : PySem.W.keepIn K (.ref a_is_within) = true)
    (l_first_row_out : K.lookup a_first_row_out = some ⟨oc_first_row_out, od_first_row_out, .func (PySem.W.fnOf "first_row_out" "first_row_out" (defArgs s_first_row_out) (defBody s_first_row_out) (defScope s_first_row_out) .none kV_first_row_out dc_first_row_out pm_first_row_out an_first_row_out cd_first_row_out ct_first_row_out), sl_first_row_out⟩)
    (c_first_row_out : PySem.W.codeIn K cd_first_row_out "first_row_out" = true)
    (kk_first_row_out : PySem.W.keepIn K (.ref a_first_row_out) = true)
    (l_Machine_init : K.lookup a_Machine_init = some ⟨oc_Machine_init, od_Machine_init, .func (PySem.W.fnOf "__init__" "Machine.__init__" (defArgs s_Machine_init) (defBody s_Machine_init) (defScope s_Machine_init) .none kV_Machine_init dc_Machine_init pm_Machine_init an_Machine_init cd_Machine_init ct_Machine_init), sl_Machine_init⟩)
    (c_Machine_init : PySem.W.codeIn K cd_Machine_init "Machine.__init__" = true)
    (kk_Machine_init : PySem.W.keepIn K (.ref a_Machine_init) = true)
    (l_Machine_stands : K.lookup a_Machine_stands = some ⟨oc_Machine_stands, od_Machine_stands, .func (PySem.W.fnOf "stands" "Machine.stands" (defArgs s_Machine_stands) (defBody s_Machine_stands) (defScope s_Machine_stands) .none kV_Machine_stands dc_Machine_stands pm_Machine_stands an_Machine_stands cd_Machine_stands ct_Machine_stands), sl_Machine_stands⟩)
    (c_Machine_stands : PySem.W.codeIn K cd_Machine_stands "Machine.stands" = true)
    (kk_Machine_stands : PySem.W.keepIn K (.ref a_Machine_stands) = true)
    (l_Machine_steps : K.lookup a_Machine_steps = some ⟨oc_Machine_steps, od_Machine_steps, .func (PySem.W.fnOf "steps" "Machine.steps" (defArgs s_Machine_steps) (defBody s_Machine_steps) (defScope s_Machine_steps) .none kV_Machine_steps dc_Machine_steps pm_Machine_steps an_Machine_steps cd_Machine_steps ct_Machine_steps), sl_Machine_steps⟩)
    (c_Machine_steps : PySem.W.codeIn K cd_Machine_steps "Machine.steps" = true)
    (kk_Machine_steps : PySem.W.keepIn K (.ref a_Machine_steps) = true)
    (l_Machine_ends : K.lookup a_Machine_ends = some ⟨oc_Machine_ends, od_Machine_ends, .func (PySem.W.fnOf "ends" "Machine.ends" (defArgs s_Machine_ends) (defBody s_Machine_ends) (defScope s_Machine_ends) .none kV_Machine_ends dc_Machine_ends pm_Machine_ends an_Machine_ends cd_Machine_ends ct_Machine_ends), sl_Machine_ends⟩)
    (c_Machine_ends : PySem.W.codeIn K cd_Machine_ends "Machine.ends" = true)
    (kk_Machine_ends : PySem.W.keepIn K (.ref a_Machine_ends) = true)
    (l_is_whole_number : K.lookup a_is_whole_number = some ⟨oc_is_whole_number, od_is_whole_number, .func (PySem.W.fnOf "is_whole_number" "is_whole_number" (defArgs s_is_whole_number) (defBody s_is_whole_number) (defScope s_is_whole_number) .none kV_is_whole_number dc_is_whole_number pm_is_whole_number an_is_whole_number cd_is_whole_number ct_is_whole_number), sl_is_whole_number⟩)
    (c_is_whole_number : PySem.W.codeIn K cd_is_whole_number "is_whole_number" = true)
    (kk_is_whole_number : PySem.W.keepIn K (.ref a_is_whole_number) = true)
    (l_is_integer_between : K.lookup a_is_integer_between = some ⟨oc_is_integer_between, od_is_integer_between, .func (PySem.W.fnOf "is_integer_between" "is_integer_between" (defArgs s_is_integer_between) (defBody s_is_integer_between) (defScope s_is_integer_between) .none kV_is_integer_between dc_is_integer_between pm_is_integer_between an_is_integer_between cd_is_integer_between ct_is_integer_between), sl_is_integer_between⟩)
    (c_is_integer_between : PySem.W.codeIn K cd_is_integer_between "is_integer_between" = true)
    (kk_is_integer_between : PySem.W.keepIn K (.ref a_is_integer_between) = true)
    (l_is_stand : K.lookup a_is_stand = some ⟨oc_is_stand, od_is_stand, .func (PySem.W.fnOf "_is_stand" "_is_stand" (defArgs s_is_stand) (defBody s_is_stand) (defScope s_is_stand) .none kV_is_stand dc_is_stand pm_is_stand an_is_stand cd_is_stand ct_is_stand), sl_is_stand⟩)
    (c_is_stand : PySem.W.codeIn K cd_is_stand "_is_stand" = true)
    (kk_is_stand : PySem.W.keepIn K (.ref a_is_stand) = true)
    (l_check_stands : K.lookup a_check_stands = some ⟨oc_check_stands, od_check_stands, .func (PySem.W.fnOf "_check_stands" "_check_stands" (defArgs s_check_stands) (defBody s_check_stands) (defScope s_check_stands) .none kV_check_stands dc_check_stands pm_check_stands an_check_stands cd_check_stands ct_check_stands), sl_check_stands⟩)
    (c_check_stands : PySem.W.codeIn K cd_check_stands "_check_stands" = true)
    (kk_check_stands : PySem.W.keepIn K (.ref a_check_stands) = true)
    (l_is_step : K.lookup a_is_step = some ⟨oc_is_step, od_is_step, .func (PySem.W.fnOf "_is_step" "_is_step" (defArgs s_is_step) (defBody s_is_step) (defScope s_is_step) .none kV_is_step dc_is_step pm_is_step an_is_step cd_is_step ct_is_step), sl_is_step⟩)
    (c_is_step : PySem.W.codeIn K cd_is_step "_is_step" = true)
    (kk_is_step : PySem.W.keepIn K (.ref a_is_step) = true)
    (l_check_steps : K.lookup a_check_steps = some ⟨oc_check_steps, od_check_steps, .func (PySem.W.fnOf "_check_steps" "_check_steps" (defArgs s_check_steps) (defBody s_check_steps) (defScope s_check_steps) .none kV_check_steps dc_check_steps pm_check_steps an_check_steps cd_check_steps ct_check_steps), sl_check_steps⟩)
    (c_check_steps : PySem.W.codeIn K cd_check_steps "_check_steps" = true)
    (kk_check_steps : PySem.W.keepIn K (.ref a_check_steps) = true)
    (l_is_ascending : K.lookup a_is_ascending = some ⟨oc_is_ascending, od_is_ascending, .func (PySem.W.fnOf "is_ascending" "is_ascending" (defArgs s_is_ascending) (defBody s_is_ascending) (defScope s_is_ascending) .none kV_is_ascending dc_is_ascending pm_is_ascending an_is_ascending cd_is_ascending ct_is_ascending), sl_is_ascending⟩)
    (c_is_ascending : PySem.W.codeIn K cd_is_ascending "is_ascending" = true)
    (kk_is_ascending : PySem.W.keepIn K (.ref a_is_ascending) = true)
    (l_check_ends : K.lookup a_check_ends = some ⟨oc_check_ends, od_check_ends, .func (PySem.W.fnOf "_check_ends" "_check_ends" (defArgs s_check_ends) (defBody s_check_ends) (defScope s_check_ends) .none kV_check_ends dc_check_ends pm_check_ends an_check_ends cd_check_ends ct_check_ends), sl_check_ends⟩)
    (c_check_ends : PySem.W.codeIn K cd_check_ends "_check_ends" = true)
    (kk_check_ends : PySem.W.keepIn K (.ref a_check_ends) = true)
    (l_check_machine : K.lookup a_check_machine = some ⟨oc_check_machine, od_check_machine, .func (PySem.W.fnOf "check_machine" "check_machine" (defArgs s_check_machine) (defBody s_check_machine) (defScope s_check_machine) .none kV_check_machine dc_check_machine pm_check_machine an_check_machine cd_check_machine ct_check_machine), sl_check_machine⟩)
    (c_check_machine : PySem.W.codeIn K cd_check_machine "check_machine" = true)
    (kk_check_machine : PySem.W.keepIn K (.ref a_check_machine) = true)
    (l_check_stand : K.lookup a_check_stand = some ⟨oc_check_stand, od_check_stand, .func (PySem.W.fnOf "check_stand" "check_stand" (defArgs s_check_stand) (defBody s_check_stand) (defScope s_check_stand) .none kV_check_stand dc_check_stand pm_check_stand an_check_stand cd_check_stand ct_check_stand), sl_check_stand⟩)
    (c_check_stand : PySem.W.codeIn K cd_check_stand "check_stand" = true)
    (kk_check_stand : PySem.W.keepIn K (.ref a_check_stand) = true)
    (l_check_number : K.lookup a_check_number = some ⟨oc_check_number, od_check_number, .func (PySem.W.fnOf "check_number" "check_number" (defArgs s_check_number) (defBody s_check_number) (defScope s_check_number) .none kV_check_number dc_check_number pm_check_number an_check_number cd_check_number ct_check_number), sl_check_number⟩)
    (c_check_number : PySem.W.codeIn K cd_check_number "check_number" = true)
    (kk_check_number : PySem.W.keepIn K (.ref a_check_number) = true)
    (l_moves_of : K.lookup a_moves_of = some ⟨oc_moves_of, od_moves_of, .func (PySem.W.fnOf "moves_of" "moves_of" (defArgs s_moves_of) (defBody s_moves_of) (defScope s_moves_of) .none kV_moves_of dc_moves_of pm_moves_of an_moves_of cd_moves_of ct_moves_of), sl_moves_of⟩)
    (c_moves_of : PySem.W.codeIn K cd_moves_of "moves_of" = true)
    (kk_moves_of : PySem.W.keepIn K (.ref a_moves_of) = true)
    (l_way : K.lookup a_way = some ⟨oc_way, od_way, .func (PySem.W.fnOf "way" "way" (defArgs s_way) (defBody s_way) (defScope s_way) .none kV_way dc_way pm_way an_way cd_way ct_way), sl_way⟩)
    (c_way : PySem.W.codeIn K cd_way "way" = true)
    (kk_way : PySem.W.keepIn K (.ref a_way) = true)
    (l_gain_of_loop : K.lookup a_gain_of_loop = some ⟨oc_gain_of_loop, od_gain_of_loop, .func (PySem.W.fnOf "gain_of_loop" "gain_of_loop" (defArgs s_gain_of_loop) (defBody s_gain_of_loop) (defScope s_gain_of_loop) .none kV_gain_of_loop dc_gain_of_loop pm_gain_of_loop an_gain_of_loop cd_gain_of_loop ct_gain_of_loop), sl_gain_of_loop⟩)
    (c_gain_of_loop : PySem.W.codeIn K cd_gain_of_loop "gain_of_loop" = true)
    (kk_gain_of_loop : PySem.W.keepIn K (.ref a_gain_of_loop) = true)
    (l_reached : K.lookup a_reached = some ⟨oc_reached, od_reached, .func (PySem.W.fnOf "reached" "reached" (defArgs s_reached) (defBody s_reached) (defScope s_reached) .none kV_reached dc_reached pm_reached an_reached cd_reached ct_reached), sl_reached⟩)
    (c_reached : PySem.W.codeIn K cd_reached "reached" = true)
    (kk_reached : PySem.W.keepIn K (.ref a_reached) = true)
    (l_tally_at : K.lookup a_tally_at = some ⟨oc_tally_at, od_tally_at, .func (PySem.W.fnOf "_tally_at" "_tally_at" (defArgs s_tally_at) (defBody s_tally_at) (defScope s_tally_at) .none kV_tally_at dc_tally_at pm_tally_at an_tally_at cd_tally_at ct_tally_at), sl_tally_at⟩)
    (c_tally_at : PySem.W.codeIn K cd_tally_at "_tally_at" = true)
    (kk_tally_at : PySem.W.keepIn K (.ref a_tally_at) = true)
    (l_greatest_at : K.lookup a_greatest_at = some ⟨oc_greatest_at, od_greatest_at, .func (PySem.W.fnOf "greatest_at" "greatest_at" (defArgs s_greatest_at) (defBody s_greatest_at) (defScope s_greatest_at) .none kV_greatest_at dc_greatest_at pm_greatest_at an_greatest_at cd_greatest_at ct_greatest_at), sl_greatest_at⟩)
    (c_greatest_at : PySem.W.codeIn K cd_greatest_at "greatest_at" = true)
    (kk_greatest_at : PySem.W.keepIn K (.ref a_greatest_at) = true)
    (l_least_at : K.lookup a_least_at = some ⟨oc_least_at, od_least_at, .func (PySem.W.fnOf "least_at" "least_at" (defArgs s_least_at) (defBody s_least_at) (defScope s_least_at) .none kV_least_at dc_least_at pm_least_at an_least_at cd_least_at ct_least_at), sl_least_at⟩)
    (c_least_at : PySem.W.codeIn K cd_least_at "least_at" = true)
    (kk_least_at : PySem.W.keepIn K (.ref a_least_at) = true)
    (l_bounds : K.lookup a_bounds = some ⟨oc_bounds, od_bounds, .func (PySem.W.fnOf "bounds" "bounds" (defArgs s_bounds) (defBody s_bounds) (defScope s_bounds) .none kV_bounds dc_bounds pm_bounds an_bounds cd_bounds ct_bounds), sl_bounds⟩)
    (c_bounds : PySem.W.codeIn K cd_bounds "bounds" = true)
    (kk_bounds : PySem.W.keepIn K (.ref a_bounds) = true)
    (l_check_bounds : K.lookup a_check_bounds = some ⟨oc_check_bounds, od_check_bounds, .func (PySem.W.fnOf "check_bounds" "check_bounds" (defArgs s_check_bounds) (defBody s_check_bounds) (defScope s_check_bounds) .none kV_check_bounds dc_check_bounds pm_check_bounds an_check_bounds cd_check_bounds ct_check_bounds), sl_check_bounds⟩)
    (c_check_bounds : PySem.W.codeIn K cd_check_bounds "check_bounds" = true)
    (kk_check_bounds : PySem.W.keepIn K (.ref a_check_bounds) = true)
    (l_stays : K.lookup a_stays = some ⟨oc_stays, od_stays, .func (PySem.W.fnOf "stays" "stays" (defArgs s_stays) (defBody s_stays) (defScope s_stays) .none kV_stays dc_stays pm_stays an_stays cd_stays ct_stays), sl_stays⟩)
    (c_stays : PySem.W.codeIn K cd_stays "stays" = true)
    (kk_stays : PySem.W.keepIn K (.ref a_stays) = true)
    (l_ring : K.lookup a_ring = some ⟨oc_ring, od_ring, .func (PySem.W.fnOf "_ring" "_ring" (defArgs s_ring) (defBody s_ring) (defScope s_ring) .none kV_ring dc_ring pm_ring an_ring cd_ring ct_ring), sl_ring⟩)
    (c_ring : PySem.W.codeIn K cd_ring "_ring" = true)
    (kk_ring : PySem.W.keepIn K (.ref a_ring) = true)
    (l_row_outside : K.lookup a_row_outside = some ⟨oc_row_outside, od_row_outside, .func (PySem.W.fnOf "_row_outside" "_row_outside" (defArgs s_row_outside) (defBody s_row_outside) (defScope s_row_outside) .none kV_row_outside dc_row_outside pm_row_outside an_row_outside cd_row_outside ct_row_outside), sl_row_outside⟩)
    (c_row_outside : PySem.W.codeIn K cd_row_outside "_row_outside" = true)
    (kk_row_outside : PySem.W.keepIn K (.ref a_row_outside) = true)
    (l_bar : K.lookup a_bar = some ⟨oc_bar, od_bar, .func (PySem.W.fnOf "bar" "bar" (defArgs s_bar) (defBody s_bar) (defScope s_bar) .none kV_bar dc_bar pm_bar an_bar cd_bar ct_bar), sl_bar⟩)
    (c_bar : PySem.W.codeIn K cd_bar "bar" = true)
    (kk_bar : PySem.W.keepIn K (.ref a_bar) = true)
    (l_bars_as_row : K.lookup a_bars_as_row = some ⟨oc_bars_as_row, od_bars_as_row, .func (PySem.W.fnOf "_bars_as_row" "_bars_as_row" (defArgs s_bars_as_row) (defBody s_bars_as_row) (defScope s_bars_as_row) .none kV_bars_as_row dc_bars_as_row pm_bars_as_row an_bars_as_row cd_bars_as_row ct_bars_as_row), sl_bars_as_row⟩)
    (c_bars_as_row : PySem.W.codeIn K cd_bars_as_row "_bars_as_row" = true)
    (kk_bars_as_row : PySem.W.keepIn K (.ref a_bars_as_row) = true)
    (l_bars_as_ring : K.lookup a_bars_as_ring = some ⟨oc_bars_as_ring, od_bars_as_ring, .func (PySem.W.fnOf "_bars_as_ring" "_bars_as_ring" (defArgs s_bars_as_ring) (defBody s_bars_as_ring) (defScope s_bars_as_ring) .none kV_bars_as_ring dc_bars_as_ring pm_bars_as_ring an_bars_as_ring cd_bars_as_ring ct_bars_as_ring), sl_bars_as_ring⟩)
    (c_bars_as_ring : PySem.W.codeIn K cd_bars_as_ring "_bars_as_ring" = true)
    (kk_bars_as_ring : PySem.W.keepIn K (.ref a_bars_as_ring) = true)
    (l_right_bar : K.lookup a_right_bar = some ⟨oc_right_bar, od_right_bar, .func (PySem.W.fnOf "right_bar" "right_bar" (defArgs s_right_bar) (defBody s_right_bar) (defScope s_right_bar) .none kV_right_bar dc_right_bar pm_right_bar an_right_bar cd_right_bar ct_right_bar), sl_right_bar⟩)
    (c_right_bar : PySem.W.codeIn K cd_right_bar "right_bar" = true)
    (kk_right_bar : PySem.W.keepIn K (.ref a_right_bar) = true)
    (l_span_at : K.lookup a_span_at = some ⟨oc_span_at, od_span_at, .func (PySem.W.fnOf "_span_at" "_span_at" (defArgs s_span_at) (defBody s_span_at) (defScope s_span_at) .none kV_span_at dc_span_at pm_span_at an_span_at cd_span_at ct_span_at), sl_span_at⟩)
    (c_span_at : PySem.W.codeIn K cd_span_at "_span_at" = true)
    (kk_span_at : PySem.W.keepIn K (.ref a_span_at) = true)
    (l_paper : K.lookup a_paper = some ⟨oc_paper, od_paper, .func (PySem.W.fnOf "paper" "paper" (defArgs s_paper) (defBody s_paper) (defScope s_paper) .none kV_paper dc_paper pm_paper an_paper cd_paper ct_paper), sl_paper⟩)
    (c_paper : PySem.W.codeIn K cd_paper "paper" = true)
    (kk_paper : PySem.W.keepIn K (.ref a_paper) = true)
    (l_is_span : K.lookup a_is_span = some ⟨oc_is_span, od_is_span, .func (PySem.W.fnOf "_is_span" "_is_span" (defArgs s_is_span) (defBody s_is_span) (defScope s_is_span) .none kV_is_span dc_is_span pm_is_span an_is_span cd_is_span ct_is_span), sl_is_span⟩)
    (c_is_span : PySem.W.codeIn K cd_is_span "_is_span" = true)
    (kk_is_span : PySem.W.keepIn K (.ref a_is_span) = true)
    (l_covers : K.lookup a_covers = some ⟨oc_covers, od_covers, .func (PySem.W.fnOf "_covers" "_covers" (defArgs s_covers) (defBody s_covers) (defScope s_covers) .none kV_covers dc_covers pm_covers an_covers cd_covers ct_covers), sl_covers⟩)
    (c_covers : PySem.W.codeIn K cd_covers "_covers" = true)
    (kk_covers : PySem.W.keepIn K (.ref a_covers) = true)
    (l_leads_on : K.lookup a_leads_on = some ⟨oc_leads_on, od_leads_on, .func (PySem.W.fnOf "_leads_on" "_leads_on" (defArgs s_leads_on) (defBody s_leads_on) (defScope s_leads_on) .none kV_leads_on dc_leads_on pm_leads_on an_leads_on cd_leads_on ct_leads_on), sl_leads_on⟩)
    (c_leads_on : PySem.W.codeIn K cd_leads_on "_leads_on" = true)
    (kk_leads_on : PySem.W.keepIn K (.ref a_leads_on) = true)
    (l_right_paper : K.lookup a_right_paper = some ⟨oc_right_paper, od_right_paper, .func (PySem.W.fnOf "right_paper" "right_paper" (defArgs s_right_paper) (defBody s_right_paper) (defScope s_right_paper) .none kV_right_paper dc_right_paper pm_right_paper an_right_paper cd_right_paper ct_right_paper), sl_right_paper⟩)
    (c_right_paper : PySem.W.codeIn K cd_right_paper "right_paper" = true)
    (kk_right_paper : PySem.W.keepIn K (.ref a_right_paper) = true)
    (l_moves_from : K.lookup a_moves_from = some ⟨oc_moves_from, od_moves_from, .func (PySem.W.fnOf "_moves_from" "_moves_from" (defArgs s_moves_from) (defBody s_moves_from) (defScope s_moves_from) .none kV_moves_from dc_moves_from pm_moves_from an_moves_from cd_moves_from ct_moves_from), sl_moves_from⟩)
    (c_moves_from : PySem.W.codeIn K cd_moves_from "_moves_from" = true)
    (kk_moves_from : PySem.W.keepIn K (.ref a_moves_from) = true)
    (l_first_leaving : K.lookup a_first_leaving = some ⟨oc_first_leaving, od_first_leaving, .func (PySem.W.fnOf "first_leaving" "first_leaving" (defArgs s_first_leaving) (defBody s_first_leaving) (defScope s_first_leaving) .none kV_first_leaving dc_first_leaving pm_first_leaving an_first_leaving cd_first_leaving ct_first_leaving), sl_first_leaving⟩)
    (c_first_leaving : PySem.W.codeIn K cd_first_leaving "first_leaving" = true)
    (kk_first_leaving : PySem.W.keepIn K (.ref a_first_leaving) = true)
    (l_longer : K.lookup a_longer = some ⟨oc_longer, od_longer, .func (PySem.W.fnOf "_longer" "_longer" (defArgs s_longer) (defBody s_longer) (defScope s_longer) .none kV_longer dc_longer pm_longer an_longer cd_longer ct_longer), sl_longer⟩)
    (c_longer : PySem.W.codeIn K cd_longer "_longer" = true)
    (kk_longer : PySem.W.keepIn K (.ref a_longer) = true)
    (l_numbers : K.lookup a_numbers = some ⟨oc_numbers, od_numbers, .func (PySem.W.fnOf "_numbers" "_numbers" (defArgs s_numbers) (defBody s_numbers) (defScope s_numbers) .none kV_numbers dc_numbers pm_numbers an_numbers cd_numbers ct_numbers), sl_numbers⟩)
    (c_numbers : PySem.W.codeIn K cd_numbers "_numbers" = true)
    (kk_numbers : PySem.W.keepIn K (.ref a_numbers) = true)
    (l_count_staying : K.lookup a_count_staying = some ⟨oc_count_staying, od_count_staying, .func (PySem.W.fnOf "count_staying" "count_staying" (defArgs s_count_staying) (defBody s_count_staying) (defScope s_count_staying) .none kV_count_staying dc_count_staying pm_count_staying an_count_staying cd_count_staying ct_count_staying), sl_count_staying⟩)
    (c_count_staying : PySem.W.codeIn K cd_count_staying "count_staying" = true)
    (kk_count_staying : PySem.W.keepIn K (.ref a_count_staying) = true)
    (l_law_taken : K.lookup a_law_taken = some ⟨oc_law_taken, od_law_taken, .func (PySem.W.fnOf "_law_taken" "_law_taken" (defArgs s_law_taken) (defBody s_law_taken) (defScope s_law_taken) .none kV_law_taken dc_law_taken pm_law_taken an_law_taken cd_law_taken ct_law_taken), sl_law_taken⟩)
    (c_law_taken : PySem.W.codeIn K cd_law_taken "_law_taken" = true)
    (kk_law_taken : PySem.W.keepIn K (.ref a_law_taken) = true)
    (l_law_call : K.lookup a_law_call = some ⟨oc_law_call, od_law_call, .func (PySem.W.fnOf "_law_call" "_law_call" (defArgs s_law_call) (defBody s_law_call) (defScope s_law_call) .none kV_law_call dc_law_call pm_law_call an_law_call cd_law_call ct_law_call), sl_law_call⟩)
    (c_law_call : PySem.W.codeIn K cd_law_call "_law_call" = true)
    (kk_law_call : PySem.W.keepIn K (.ref a_law_call) = true)
    (l_law_refused : K.lookup a_law_refused = some ⟨oc_law_refused, od_law_refused, .func (PySem.W.fnOf "_law_refused" "_law_refused" (defArgs s_law_refused) (defBody s_law_refused) (defScope s_law_refused) .none kV_law_refused dc_law_refused pm_law_refused an_law_refused cd_law_refused ct_law_refused), sl_law_refused⟩)
    (c_law_refused : PySem.W.codeIn K cd_law_refused "_law_refused" = true)
    (kk_law_refused : PySem.W.keepIn K (.ref a_law_refused) = true)
    (l_law : K.lookup a_law = some ⟨oc_law, od_law, .func (PySem.W.fnOf "law" "law" (defArgs s_law) (defBody s_law) (defScope s_law) .none kV_law dc_law pm_law an_law cd_law ct_law), sl_law⟩)
    (c_law : PySem.W.codeIn K cd_law "law" = true)
    (kk_law : PySem.W.keepIn K (.ref a_law) = true)
    (pg_Machine : PySem.W.plainGet K c_Machine Str.empty = true)
    (hd_Machine : PySem.W.hasDictIn K c_Machine = true)
    (po_Machine : PySem.W.plainOver K c_Machine = true)
    (sa_Machine : PySem.W.findIn K (.ref c_Machine) "__setattr__" = some (some (.builtin "object.__setattr__")))
    (mi_Machine : PySem.W.makesIn K c_Machine = true)
    (kc_Machine : PySem.W.keepIn K (.ref c_Machine) = true)
    (fi_Machine : PySem.W.findIn K (.ref c_Machine) "__init__" = some (some (.ref a_Machine_init)))
    (if_Machine : PySem.W.isFn K (.ref a_Machine_init) = true)
    (nf_stands : PySem.W.findIn K (.ref c_Machine) "_stands" = some none)
    (nf_steps : PySem.W.findIn K (.ref c_Machine) "_steps" = some none)
    (nf_ends : PySem.W.findIn K (.ref c_Machine) "_ends" = some none)
    (pf_stands : PySem.W.findIn K (.ref c_Machine) "stands" = some (some (.ref q_stands)))
    (pt_stands : PySem.W.specialIn K (.ref q_stands) "__get__" = some (some (.builtin "property.__get__")))
    (pk_stands : PySem.W.takesIn K (.ref q_stands) = some true)
    (pr_stands : PySem.W.recIn K q_stands "property" = some (.ref a_Machine_stands :: rest_stands))
    (pf_steps : PySem.W.findIn K (.ref c_Machine) "steps" = some (some (.ref q_steps)))
    (pt_steps : PySem.W.specialIn K (.ref q_steps) "__get__" = some (some (.builtin "property.__get__")))
    (pk_steps : PySem.W.takesIn K (.ref q_steps) = some true)
    (pr_steps : PySem.W.recIn K q_steps "property" = some (.ref a_Machine_steps :: rest_steps))
    (pf_ends : PySem.W.findIn K (.ref c_Machine) "ends" = some (some (.ref q_ends)))
    (pt_ends : PySem.W.specialIn K (.ref q_ends) "__get__" = some (some (.builtin "property.__get__")))
    (pk_ends : PySem.W.takesIn K (.ref q_ends) = some true)
    (pr_ends : PySem.W.recIn K q_ends "property" = some (.ref a_Machine_ends :: rest_ends))
    (x_i1_Machine : PySem.W.findIn K (.ref c_Machine) "__class__" = some (some (.builtin "object.__class__")))
    (x_i2_Machine : PySem.W.specialIn K (.builtin "object.__class__") "__get__" = some (some (.builtin "getset_descriptor.__get__")))
    (x_i3_Machine : PySem.W.takesIn K (.builtin "object.__class__") = some true)
    (x_i4_Machine : PySem.W.mroIn K c_Machine (.type "object") = some true)
    (xx_BadBounds : PySem.W.excIn K c_BadBounds [.type "ValueError", .type "Exception", .type "BaseException", .type "object"] "ValueError.__new__" = true)
    (xk_BadBounds : PySem.W.keepIn K (.ref c_BadBounds) = true)
    (xb_BadBounds : PySem.W.subIn K (.ref c_BadBounds) (.type "BaseException") = some true)
    (xt_BadBounds : PySem.W.typeIn K (.ref c_BadBounds) = some (.type "type"))
    (xi_BadBounds : PySem.W.isClsIn K c_BadBounds = true)
    (xs_BadBounds : PySem.W.subIn K (.ref c_BadBounds) (.ref c_BadBounds) = some true)
    (lk_BadNumber : ∃ nm q N bs bm sn sub ab col dd k0 k1 k2 k3 k5, K.lookup c_BadNumber = some (excClassObj nm q c_BadNumber N bs bm true sn sub ab col dd k0 k1 k2 k3 k5 "ValueError.__new__") ∧ PySem.HandSPX.refsVE bm = true)
    (sa_BadNumber : PySem.W.findIn K (.ref c_BadNumber) "__setattr__" = some (some (.builtin "object.__setattr__")))
    (xk_BadNumber : PySem.W.keepIn K (.ref c_BadNumber) = true)
    (xb_BadNumber : PySem.W.subIn K (.ref c_BadNumber) (.type "BaseException") = some true)
    (xt_BadNumber : PySem.W.typeIn K (.ref c_BadNumber) = some (.type "type"))
    (xi_BadNumber : PySem.W.isClsIn K c_BadNumber = true)
    (xs_BadNumber : PySem.W.subIn K (.ref c_BadNumber) (.ref c_BadNumber) = some true)
    (ga_BadNumber : PySem.W.findIn K (.ref c_BadNumber) "__getattribute__" = some (some (.builtin "BaseException.__getattribute__")))
    (gg_BadNumber : PySem.W.findIn K (.ref c_BadNumber) "__getattr__" = some none)
    (hx_BadNumber : PySem.W.hasDictIn K c_BadNumber = true)
    (ie_BadNumber : PySem.W.findIn K (.ref c_BadNumber) "__init__" = some (some (.ref a_BadNumber_init)))
    (ti_BadNumber : PySem.W.typeIn K (.ref a_BadNumber_init) = some (.type "function"))
    (no_BadNumber_n : PySem.W.findIn K (.ref c_BadNumber) "n" = some none)
    (rd_TallyError : PySem.W.readsIn K c_TallyError (.type "type") = true)
    (fv_TallyError : PySem.W.findCls K (.ref c_TallyError) (.type "type") "__init__" = some (.val (.builtin "ValueError.__init__")))
    (sg_TallyError : PySem.W.specialIn K (.ref c_TallyError) "__getattribute__" = some (some (.builtin "type.__getattribute__")))
    (l_LETTERS : ∀ H : Hp, SqT K H a_LETTERS [V.str "a", V.str "b", V.str "c", V.str "d"]) : Txt K mg :=
  Txt.mk (K := K) (mg := mg)
    (a_BadNumber_init)
    (_)
    (fun_mk (st := s_BadNumber_init) l_BadNumber_init c_BadNumber_init kk_BadNumber_init)
    ((fun_mk (st := s_BadNumber_init) l_BadNumber_init c_BadNumber_init kk_BadNumber_init).binds (ps := ["self", "n"]) bb_BadNumber_init)
    (kk_BadNumber_init)
    (a_led_to)
    (_)
    (fun_mk (st := s_led_to) l_led_to c_led_to kk_led_to)
    ((fun_mk (st := s_led_to) l_led_to c_led_to kk_led_to).binds (ps := ["steps", "begins"]) bb_led_to)
    (kk_led_to)
    (PySem.W.mg_of X G g_led_to)
    (a_longer_rows)
    (_)
    (fun_mk (st := s_longer_rows) l_longer_rows c_longer_rows kk_longer_rows)
    ((fun_mk (st := s_longer_rows) l_longer_rows c_longer_rows kk_longer_rows).binds (ps := ["steps", "sign", "rows"]) bb_longer_rows)
    (kk_longer_rows)
    (PySem.W.mg_of X G g_longer_rows)
    (a_improved)
    (_)
    (fun_mk (st := s_improved) l_improved c_improved kk_improved)
    ((fun_mk (st := s_improved) l_improved c_improved kk_improved).binds (ps := ["rows", "best"]) bb_improved)
    (kk_improved)
    (PySem.W.mg_of X G g_improved)
    (a_best_rows)
    (_)
    (fun_mk (st := s_best_rows) l_best_rows c_best_rows kk_best_rows)
    ((fun_mk (st := s_best_rows) l_best_rows c_best_rows kk_best_rows).binds (ps := ["many", "steps", "sign"]) bb_best_rows)
    (kk_best_rows)
    (PySem.W.mg_of X G g_best_rows)
    (a_shortest_rows)
    (_)
    (fun_mk (st := s_shortest_rows) l_shortest_rows c_shortest_rows kk_shortest_rows)
    ((fun_mk (st := s_shortest_rows) l_shortest_rows c_shortest_rows kk_shortest_rows).binds (ps := ["many", "steps"]) bb_shortest_rows)
    (kk_shortest_rows)
    (PySem.W.mg_of X G g_shortest_rows)
    (a_best_loops)
    (_)
    (fun_mk (st := s_best_loops) l_best_loops c_best_loops kk_best_loops)
    ((fun_mk (st := s_best_loops) l_best_loops c_best_loops kk_best_loops).binds (ps := ["many", "steps", "stand", "sign"]) bb_best_loops)
    (kk_best_loops)
    (PySem.W.mg_of X G g_best_loops)
    (a_best_of)
    (_)
    (fun_mk (st := s_best_of) l_best_of c_best_of kk_best_of)
    ((fun_mk (st := s_best_of) l_best_of c_best_of kk_best_of).binds (ps := ["many", "steps", "sign", "stands"]) bb_best_of)
    (kk_best_of)
    (PySem.W.mg_of X G g_best_of)
    (a_least_and_greatest)
    (_)
    (fun_mk (st := s_least_and_greatest) l_least_and_greatest c_least_and_greatest kk_least_and_greatest)
    ((fun_mk (st := s_least_and_greatest) l_least_and_greatest c_least_and_greatest kk_least_and_greatest).binds (ps := ["many", "steps", "stands"]) bb_least_and_greatest)
    (kk_least_and_greatest)
    (PySem.W.mg_of X G g_least_and_greatest)
    (a_is_within)
    (_)
    (fun_mk (st := s_is_within) l_is_within c_is_within kk_is_within)
    ((fun_mk (st := s_is_within) l_is_within c_is_within kk_is_within).binds (ps := ["pair", "low", "high"]) bb_is_within)
    (kk_is_within)
    (PySem.W.mg_of X G g_is_within)
    (a_first_row_out)
    (_)
    (fun_mk (st := s_first_row_out) l_first_row_out c_first_row_out kk_first_row_out)
    ((fun_mk (st := s_first_row_out) l_first_row_out c_first_row_out kk_first_row_out).binds (ps := ["moves", "begin"]) bb_first_row_out)
    (kk_first_row_out)
    (PySem.W.mg_of X G g_first_row_out)
    (a_Machine_init)
    (_)
    (fun_mk (st := s_Machine_init) l_Machine_init c_Machine_init kk_Machine_init)
    ((fun_mk (st := s_Machine_init) l_Machine_init c_Machine_init kk_Machine_init).binds (ps := ["self", "stands", "steps", "ends"]) bb_Machine_init)
    (kk_Machine_init)
    (a_Machine_stands)
    (_)
    (fun_mk (st := s_Machine_stands) l_Machine_stands c_Machine_stands kk_Machine_stands)
    ((fun_mk (st := s_Machine_stands) l_Machine_stands c_Machine_stands kk_Machine_stands).binds (ps := ["self"]) bb_Machine_stands)
    (kk_Machine_stands)
    (a_Machine_steps)
    (_)
    (fun_mk (st := s_Machine_steps) l_Machine_steps c_Machine_steps kk_Machine_steps)
    ((fun_mk (st := s_Machine_steps) l_Machine_steps c_Machine_steps kk_Machine_steps).binds (ps := ["self"]) bb_Machine_steps)
    (kk_Machine_steps)
    (a_Machine_ends)
    (_)
    (fun_mk (st := s_Machine_ends) l_Machine_ends c_Machine_ends kk_Machine_ends)
    ((fun_mk (st := s_Machine_ends) l_Machine_ends c_Machine_ends kk_Machine_ends).binds (ps := ["self"]) bb_Machine_ends)
    (kk_Machine_ends)
    (a_is_whole_number)
    (_)
    (fun_mk (st := s_is_whole_number) l_is_whole_number c_is_whole_number kk_is_whole_number)
    ((fun_mk (st := s_is_whole_number) l_is_whole_number c_is_whole_number kk_is_whole_number).binds (ps := ["value"]) bb_is_whole_number)
    (kk_is_whole_number)
    (PySem.W.mg_of X G g_is_whole_number)
    (a_is_integer_between)
    (_)
    (fun_mk (st := s_is_integer_between) l_is_integer_between c_is_integer_between kk_is_integer_between)
    ((fun_mk (st := s_is_integer_between) l_is_integer_between c_is_integer_between kk_is_integer_between).binds (ps := ["value", "least", "most"]) bb_is_integer_between)
    (kk_is_integer_between)
    (PySem.W.mg_of X G g_is_integer_between)
    (a_is_stand)
    (_)
    (fun_mk (st := s_is_stand) l_is_stand c_is_stand kk_is_stand)
    ((fun_mk (st := s_is_stand) l_is_stand c_is_stand kk_is_stand).binds (ps := ["stands", "value"]) bb_is_stand)
    (kk_is_stand)
    (PySem.W.mg_of X G g_is_stand)
    (a_check_stands)
    (_)
    (fun_mk (st := s_check_stands) l_check_stands c_check_stands kk_check_stands)
    ((fun_mk (st := s_check_stands) l_check_stands c_check_stands kk_check_stands).binds (ps := ["stands"]) bb_check_stands)
    (kk_check_stands)
    (PySem.W.mg_of X G g_check_stands)
    (a_is_step)
    (_)
    (fun_mk (st := s_is_step) l_is_step c_is_step kk_is_step)
    ((fun_mk (st := s_is_step) l_is_step c_is_step kk_is_step).binds (ps := ["stands", "value"]) bb_is_step)
    (kk_is_step)
    (PySem.W.mg_of X G g_is_step)
    (a_check_steps)
    (_)
    (fun_mk (st := s_check_steps) l_check_steps c_check_steps kk_check_steps)
    ((fun_mk (st := s_check_steps) l_check_steps c_check_steps kk_check_steps).binds (ps := ["stands", "steps"]) bb_check_steps)
    (kk_check_steps)
    (PySem.W.mg_of X G g_check_steps)
    (a_is_ascending)
    (_)
    (fun_mk (st := s_is_ascending) l_is_ascending c_is_ascending kk_is_ascending)
    ((fun_mk (st := s_is_ascending) l_is_ascending c_is_ascending kk_is_ascending).binds (ps := ["value", "many"]) bb_is_ascending)
    (kk_is_ascending)
    (PySem.W.mg_of X G g_is_ascending)
    (a_check_ends)
    (_)
    (fun_mk (st := s_check_ends) l_check_ends c_check_ends kk_check_ends)
    ((fun_mk (st := s_check_ends) l_check_ends c_check_ends kk_check_ends).binds (ps := ["stands", "ends"]) bb_check_ends)
    (kk_check_ends)
    (PySem.W.mg_of X G g_check_ends)
    (a_check_machine)
    (_)
    (fun_mk (st := s_check_machine) l_check_machine c_check_machine kk_check_machine)
    ((fun_mk (st := s_check_machine) l_check_machine c_check_machine kk_check_machine).binds (ps := ["value"]) bb_check_machine)
    (kk_check_machine)
    (PySem.W.mg_of X G g_check_machine)
    (a_check_stand)
    (_)
    (fun_mk (st := s_check_stand) l_check_stand c_check_stand kk_check_stand)
    ((fun_mk (st := s_check_stand) l_check_stand c_check_stand kk_check_stand).binds (ps := ["machine", "value"]) bb_check_stand)
    (kk_check_stand)
    (PySem.W.mg_of X G g_check_stand)
    (a_check_number)
    (_)
    (fun_mk (st := s_check_number) l_check_number c_check_number kk_check_number)
    ((fun_mk (st := s_check_number) l_check_number c_check_number kk_check_number).binds (ps := ["value", "least", "most"]) bb_check_number)
    (kk_check_number)
    (PySem.W.mg_of X G g_check_number)
    (a_moves_of)
    (_)
    (fun_mk (st := s_moves_of) l_moves_of c_moves_of kk_moves_of)
    ((fun_mk (st := s_moves_of) l_moves_of c_moves_of kk_moves_of).binds (ps := ["machine"]) bb_moves_of)
    (kk_moves_of)
    (PySem.W.mg_of X G g_moves_of)
    (a_way)
    (_)
    (fun_mk (st := s_way) l_way c_way kk_way)
    ((fun_mk (st := s_way) l_way c_way kk_way).binds (ps := ["machine", "stand", "value"]) bb_way)
    (kk_way)
    (PySem.W.mg_of X G g_way)
    (a_gain_of_loop)
    (_)
    (fun_mk (st := s_gain_of_loop) l_gain_of_loop c_gain_of_loop kk_gain_of_loop)
    ((fun_mk (st := s_gain_of_loop) l_gain_of_loop c_gain_of_loop kk_gain_of_loop).binds (ps := ["machine", "lead", "loop"]) bb_gain_of_loop)
    (kk_gain_of_loop)
    (PySem.W.mg_of X G g_gain_of_loop)
    (a_reached)
    (_)
    (fun_mk (st := s_reached) l_reached c_reached kk_reached)
    ((fun_mk (st := s_reached) l_reached c_reached kk_reached).binds (ps := ["machine"]) bb_reached)
    (kk_reached)
    (PySem.W.mg_of X G g_reached)
    (a_tally_at)
    (_)
    (fun_mk (st := s_tally_at) l_tally_at c_tally_at kk_tally_at)
    ((fun_mk (st := s_tally_at) l_tally_at c_tally_at kk_tally_at).binds (ps := ["machine", "stand", "sign"]) bb_tally_at)
    (kk_tally_at)
    (PySem.W.mg_of X G g_tally_at)
    (a_greatest_at)
    (_)
    (fun_mk (st := s_greatest_at) l_greatest_at c_greatest_at kk_greatest_at)
    ((fun_mk (st := s_greatest_at) l_greatest_at c_greatest_at kk_greatest_at).binds (ps := ["machine", "stand"]) bb_greatest_at)
    (kk_greatest_at)
    (PySem.W.mg_of X G g_greatest_at)
    (a_least_at)
    (_)
    (fun_mk (st := s_least_at) l_least_at c_least_at kk_least_at)
    ((fun_mk (st := s_least_at) l_least_at c_least_at kk_least_at).binds (ps := ["machine", "stand"]) bb_least_at)
    (kk_least_at)
    (PySem.W.mg_of X G g_least_at)
    (a_bounds)
    (_)
    (fun_mk (st := s_bounds) l_bounds c_bounds kk_bounds)
    ((fun_mk (st := s_bounds) l_bounds c_bounds kk_bounds).binds (ps := ["machine"]) bb_bounds)
    (kk_bounds)
    (PySem.W.mg_of X G g_bounds)
    (a_check_bounds)
    (_)
    (fun_mk (st := s_check_bounds) l_check_bounds c_check_bounds kk_check_bounds)
    ((fun_mk (st := s_check_bounds) l_check_bounds c_check_bounds kk_check_bounds).binds (ps := ["low", "high", "most"]) bb_check_bounds)
    (kk_check_bounds)
    (PySem.W.mg_of X G g_check_bounds)
    (a_stays)
    (_)
    (fun_mk (st := s_stays) l_stays c_stays kk_stays)
    ((fun_mk (st := s_stays) l_stays c_stays kk_stays).binds (ps := ["machine", "low", "high"]) bb_stays)
    (kk_stays)
    (PySem.W.mg_of X G g_stays)
    (a_ring)
    (_)
    (fun_mk (st := s_ring) l_ring c_ring kk_ring)
    ((fun_mk (st := s_ring) l_ring c_ring kk_ring).binds (ps := ["machine"]) bb_ring)
    (kk_ring)
    (PySem.W.mg_of X G g_ring)
    (a_row_outside)
    (_)
    (fun_mk (st := s_row_outside) l_row_outside c_row_outside kk_row_outside)
    ((fun_mk (st := s_row_outside) l_row_outside c_row_outside kk_row_outside).binds (ps := ["machine", "low", "high"]) bb_row_outside)
    (kk_row_outside)
    (PySem.W.mg_of X G g_row_outside)
    (a_bar)
    (_)
    (fun_mk (st := s_bar) l_bar c_bar kk_bar)
    ((fun_mk (st := s_bar) l_bar c_bar kk_bar).binds (ps := ["machine", "low", "high"]) bb_bar)
    (kk_bar)
    (PySem.W.mg_of X G g_bar)
    (a_bars_as_row)
    (_)
    (fun_mk (st := s_bars_as_row) l_bars_as_row c_bars_as_row kk_bars_as_row)
    ((fun_mk (st := s_bars_as_row) l_bars_as_row c_bars_as_row kk_bars_as_row).binds (ps := ["machine", "low", "high", "row"]) bb_bars_as_row)
    (kk_bars_as_row)
    (PySem.W.mg_of X G g_bars_as_row)
    (a_bars_as_ring)
    (_)
    (fun_mk (st := s_bars_as_ring) l_bars_as_ring c_bars_as_ring kk_bars_as_ring)
    ((fun_mk (st := s_bars_as_ring) l_bars_as_ring c_bars_as_ring kk_bars_as_ring).binds (ps := ["machine", "lead", "loop"]) bb_bars_as_ring)
    (kk_bars_as_ring)
    (PySem.W.mg_of X G g_bars_as_ring)
    (a_right_bar)
    (_)
    (fun_mk (st := s_right_bar) l_right_bar c_right_bar kk_right_bar)
    ((fun_mk (st := s_right_bar) l_right_bar c_right_bar kk_right_bar).binds (ps := ["machine", "low", "high", "value"]) bb_right_bar)
    (kk_right_bar)
    (PySem.W.mg_of X G g_right_bar)
    (a_span_at)
    (_)
    (fun_mk (st := s_span_at) l_span_at c_span_at kk_span_at)
    ((fun_mk (st := s_span_at) l_span_at c_span_at kk_span_at).binds (ps := ["machine", "stand"]) bb_span_at)
    (kk_span_at)
    (PySem.W.mg_of X G g_span_at)
    (a_paper)
    (_)
    (fun_mk (st := s_paper) l_paper c_paper kk_paper)
    ((fun_mk (st := s_paper) l_paper c_paper kk_paper).binds (ps := ["machine", "low", "high"]) bb_paper)
    (kk_paper)
    (PySem.W.mg_of X G g_paper)
    (a_is_span)
    (_)
    (fun_mk (st := s_is_span) l_is_span c_is_span kk_is_span)
    ((fun_mk (st := s_is_span) l_is_span c_is_span kk_is_span).binds (ps := ["value", "low", "high"]) bb_is_span)
    (kk_is_span)
    (PySem.W.mg_of X G g_is_span)
    (a_covers)
    (_)
    (fun_mk (st := s_covers) l_covers c_covers kk_covers)
    ((fun_mk (st := s_covers) l_covers c_covers kk_covers).binds (ps := ["span", "least", "most"]) bb_covers)
    (kk_covers)
    (PySem.W.mg_of X G g_covers)
    (a_leads_on)
    (_)
    (fun_mk (st := s_leads_on) l_leads_on c_leads_on kk_leads_on)
    ((fun_mk (st := s_leads_on) l_leads_on c_leads_on kk_leads_on).binds (ps := ["spans", "step"]) bb_leads_on)
    (kk_leads_on)
    (PySem.W.mg_of X G g_leads_on)
    (a_right_paper)
    (_)
    (fun_mk (st := s_right_paper) l_right_paper c_right_paper kk_right_paper)
    ((fun_mk (st := s_right_paper) l_right_paper c_right_paper kk_right_paper).binds (ps := ["machine", "low", "high", "value"]) bb_right_paper)
    (kk_right_paper)
    (PySem.W.mg_of X G g_right_paper)
    (a_moves_from)
    (_)
    (fun_mk (st := s_moves_from) l_moves_from c_moves_from kk_moves_from)
    ((fun_mk (st := s_moves_from) l_moves_from c_moves_from kk_moves_from).binds (ps := ["machine", "stand", "tally", "low", "high"]) bb_moves_from)
    (kk_moves_from)
    (PySem.W.mg_of X G g_moves_from)
    (a_first_leaving)
    (_)
    (fun_mk (st := s_first_leaving) l_first_leaving c_first_leaving kk_first_leaving)
    ((fun_mk (st := s_first_leaving) l_first_leaving c_first_leaving kk_first_leaving).binds (ps := ["machine", "low", "high"]) bb_first_leaving)
    (kk_first_leaving)
    (PySem.W.mg_of X G g_first_leaving)
    (a_longer)
    (_)
    (fun_mk (st := s_longer) l_longer c_longer kk_longer)
    ((fun_mk (st := s_longer) l_longer c_longer kk_longer).binds (ps := ["steps", "numbers", "low", "high"]) bb_longer)
    (kk_longer)
    (PySem.W.mg_of X G g_longer)
    (a_numbers)
    (_)
    (fun_mk (st := s_numbers) l_numbers c_numbers kk_numbers)
    ((fun_mk (st := s_numbers) l_numbers c_numbers kk_numbers).binds (ps := ["machine", "length", "low", "high"]) bb_numbers)
    (kk_numbers)
    (PySem.W.mg_of X G g_numbers)
    (a_count_staying)
    (_)
    (fun_mk (st := s_count_staying) l_count_staying c_count_staying kk_count_staying)
    ((fun_mk (st := s_count_staying) l_count_staying c_count_staying kk_count_staying).binds (ps := ["machine", "length", "low", "high"]) bb_count_staying)
    (kk_count_staying)
    (PySem.W.mg_of X G g_count_staying)
    (a_law_taken)
    (_)
    (fun_mk (st := s_law_taken) l_law_taken c_law_taken kk_law_taken)
    ((fun_mk (st := s_law_taken) l_law_taken c_law_taken kk_law_taken).binds (ps := ["_law_row", "_law_many"]) bb_law_taken)
    (kk_law_taken)
    (PySem.W.mg_of X G g_law_taken)
    (a_law_call)
    (_)
    (fun_mk (st := s_law_call) l_law_call c_law_call kk_law_call)
    ((fun_mk (st := s_law_call) l_law_call c_law_call kk_law_call).binds (ps := ["_law_kind", "_law_low", "_law_high"]) bb_law_call)
    (kk_law_call)
    (PySem.W.mg_of X G g_law_call)
    (a_law_refused)
    (_)
    (fun_mk (st := s_law_refused) l_law_refused c_law_refused kk_law_refused)
    ((fun_mk (st := s_law_refused) l_law_refused c_law_refused kk_law_refused).binds (ps := ["_law_kind", "_law_low", "_law_high"]) bb_law_refused)
    (kk_law_refused)
    (PySem.W.mg_of X G g_law_refused)
    (a_law)
    (_)
    (fun_mk (st := s_law) l_law c_law kk_law)
    ((fun_mk (st := s_law) l_law c_law kk_law).binds (ps := ["_law_script"]) bb_law)
    (kk_law)
    (PySem.W.mg_of X G g_law)
    (c_Machine)
    (⟨pg_Machine, hd_Machine, po_Machine, sa_Machine⟩)
    (PySem.W.mg_of X G g_Machine)
    (⟨mi_Machine, fi_Machine, if_Machine, kc_Machine⟩)
    (nf_stands)
    (nf_steps)
    (nf_ends)
    (q_stands)
    (⟨pf_stands, pt_stands, pk_stands, ⟨_, pr_stands⟩⟩)
    (q_steps)
    (⟨pf_steps, pt_steps, pk_steps, ⟨_, pr_steps⟩⟩)
    (q_ends)
    (⟨pf_ends, pt_ends, pk_ends, ⟨_, pr_ends⟩⟩)
    (x_i1_Machine)
    (x_i2_Machine)
    (x_i3_Machine)
    (x_i4_Machine)
    (c_BadBounds)
    (PySem.W.mg_of X G g_BadBounds)
    (xx_BadBounds)
    (xk_BadBounds)
    (xb_BadBounds)
    (xt_BadBounds)
    (exc_self xb_BadBounds xi_BadBounds xt_BadBounds xs_BadBounds)
    (c_BadNumber)
    (PySem.W.mg_of X G g_BadNumber)
    (⟨lk_BadNumber, sa_BadNumber, xb_BadNumber, xt_BadNumber, xk_BadNumber⟩)
    (⟨ga_BadNumber, gg_BadNumber, xb_BadNumber, hx_BadNumber⟩)
    (ie_BadNumber)
    (ti_BadNumber)
    (exc_self xb_BadNumber xi_BadNumber xt_BadNumber xs_BadNumber)
    (no_BadNumber_n)
    (c_TallyError)
    (PySem.W.mg_of X G g_TallyError)
    (rd_TallyError)
    (fv_TallyError)
    (sg_TallyError)
    (.int 8 t_MOST_STANDS)
    (PySem.W.mg_of X G g_MOST_STANDS)
    (⟨_, rfl⟩)
    (.int 1000000000000000000000000000000 t_MOST_GAIN)
    (PySem.W.mg_of X G g_MOST_GAIN)
    (⟨_, rfl⟩)
    (a_LETTERS)
    (PySem.W.mg_of X G g_LETTERS)
    (rfl)
    (l_LETTERS)
    (.str "endless" t_ENDLESS)
    (PySem.W.mg_of X G g_ENDLESS)
    (⟨_, rfl⟩)
    (.int 10000000000000000000000000000000000000000 t_MOST_NUMBER)
    (PySem.W.mg_of X G g_MOST_NUMBER)
    (⟨_, rfl⟩)
    (.int 12 t_MOST_LENGTH)
    (PySem.W.mg_of X G g_MOST_LENGTH)
    (⟨_, rfl⟩)
    (.int 20 t_MOST_SMALL_BOUND)
    (PySem.W.mg_of X G g_MOST_SMALL_BOUND)
    (⟨_, rfl⟩)
    (PySem.W.mg_none_of X G zz_all)
    (PySem.W.mg_none_of X G zz_bool)
    (PySem.W.mg_none_of X G zz_enumerate)
    (PySem.W.mg_none_of X G zz_int)
    (PySem.W.mg_none_of X G zz_isinstance)
    (PySem.W.mg_none_of X G zz_len)
    (PySem.W.mg_none_of X G zz_list)
    (PySem.W.mg_none_of X G zz_max)
    (PySem.W.mg_none_of X G zz_min)
    (PySem.W.mg_none_of X G zz_range)
    (PySem.W.mg_none_of X G zz_sorted)
    (PySem.W.mg_none_of X G zz_str)
    (PySem.W.mg_none_of X G zz_sum)
    (PySem.W.mg_none_of X G zz_tuple)
    (fun s v => .of_eq rfl)
theorem all_mk {l : PySem.W.OpenLaw} {w : World} {K : PySem.W.Frag} {mg : Str → Option Value} {fa : Addr} (T : Txt K mg) (hfa : mg "law" = some (.ref fa)) :
    ∃ fd : FuncData, (∀ (s : Shared) (v : Value), BindsTo s fd ⟨[v], []⟩ [("_law_script", v)]) ∧ ∀ base : Heap, K.In base → base.Ns mainGlobals mg → FnOk l.prog w K mg base (L2.CX l.prog w) 20 fa fd ["_law_script"] (sp_law K) := by
  have e := hfa.symm.trans T.m_law
  cases e
  exact ⟨T.fd_law, T.bs_law, fun _ _ _ => ok_law T⟩
/-! ### the head by facts: the names that the law comes to, read off the run's end -/
section
open He
theorem map_join {α β γ δ : Type} {o : Option α} {a : α → β} {b : α → γ} {c : α → δ} {A : β} {B : γ} {C : δ} (h1 : o.map (fun x => a x) = some A) (h2 : o.map (fun x => b x) = some B) (h3 : o.map (fun x => c x) = some C) : o.map (fun x => (a x, b x, c x)) = some (A, B, C) := by
  cases o with
  | none => cases h1
  | some x =>
    have e1 : a x = A := Option.some.inj h1
    have e2 : b x = B := Option.some.inj h2
    have e3 : c x = C := Option.some.inj h3
    show some (a x, b x, c x) = _
    rw [e1, e2, e3]
def asN (g : Addr → Option Obj) (names : List Str) : List Addr := names.filterMap fun x => match PySem.W.nsIn (frG g [mainGlobals]) mainGlobals x with
  | some (some (.ref a)) => some a
  | _ => none
/-- what a function, a class, a table, a property names: a code object's own things are not looked at -/
def refsS (o : Obj) : List Addr := match o.data with
  | .seq its _ => its.toList.flatMap refV
  | .dict es _ => es.toList.flatMap fun e => refV e.val
  | .func fd => refV fd.code
  | .cls cd => cd.ns :: cd.mro.flatMap refV
  | .fields vs => (match o.cls with
    | .type c => (match decide (c = "property") with
      | true => vs.toList.flatMap refV
      | false => [])
    | _ => [])
  | _ => []
def newS (g : Addr → Option Obj) (as : List Addr) : List Addr := as.flatMap fun a => match g a with
  | some o => refsS o
  | none => []
/-- what is new at each step alone goes on -/
def grN (g : Addr → Option Obj) : Nat → List Addr → List Addr
  | 0, as => as
  | n + 1, as => as ++ grN g n (newS g as)
def frK (names : List Str) (n : Nat) (g : Addr → Option Obj) : PySem.W.Frag := frG g (mainGlobals :: cStatics :: grN g n (asN g names))
/-- a def of the text: its function's address as the written part tells it, what it must hold -/
structure FnA where
  ad : PySem.W.Frag → Addr
  name : Str
  qual : Str
  params : Arguments
  body : List Stmt
  scope : Scope
def FnSaid (K : PySem.W.Frag) (d : FnA) : Prop := ∃ oc od osl kV doc pm an cdv ct, K.lookup (d.ad K) = some ⟨oc, od, .func (PySem.W.fnOf d.name d.qual d.params d.body d.scope .none kV doc pm an cdv ct), osl⟩ ∧ PySem.W.codeIn K cdv d.qual = true
abbrev FnT : Type := Str × Str × Arguments × FuncBody × Scope × Addr × List (Str × Addr) × Value × Addr × Bool
def seenA (K : PySem.W.Frag) (d : FnA) : Option FnT := (K.lookup (d.ad K)).bind fun o => match o.data with
  | .func u => some (u.name, u.qualname, u.params, u.body, u.scope, u.globals, u.closure, u.defaults, u.builtins, PySem.W.codeIn K u.code d.qual)
  | _ => none
def wishA (d : FnA) : Option FnT := some (d.name, d.qual, d.params, .stmts d.body, d.scope, mainGlobals, [], .none, builtinsNs, true)
theorem seenA_ok {K : PySem.W.Frag} {d : FnA} (e : seenA K d = wishA d) : FnSaid K d := by
  obtain ⟨o, ho, e2⟩ := Option.bind_eq_some_iff.mp e
  obtain ⟨oc, od, dt, osl⟩ := o
  cases dt with
  | func u =>
    obtain ⟨u1, u2, u3, u4, u5, u6, u7, u8, u9, u10, u11, u12, u13, u14, u15⟩ := u
    have e3 := Option.some.inj e2
    simp only [Prod.mk.injEq] at e3
    obtain ⟨h1, h2, h3, h4, h5, h6, h7, h8, h9, h10⟩ := e3
    subst h1 h2 h3 h4 h5 h6 h7 h8 h9
    exact ⟨oc, od, osl, u9, u10, u11, u12, u13, u14, ho, h10⟩
  | _ => cases e2
abbrev AlF : Type := Bool × List (Option FnT)
def obsF (names : List Str) (n : Nat) (fn : List FnA) (ex : PySem.W.Frag → List Bool) (g : Addr → Option Obj) : AlF := ((ex (frK names n g)).all (fun b => b), fn.map (seenA (frK names n g)))
def valF (fn : List FnA) : AlF := (true, fn.map wishA)
theorem said_of {names : List Str} {n : Nat} {fn : List FnA} {ex : PySem.W.Frag → List Bool} {g : Addr → Option Obj} (e : obsF names n fn ex g = valF fn) : (ex (frK names n g)).all (fun b => b) = true ∧ ∀ (i : Nat) (d : FnA), fn[i]? = some d → FnSaid (frK names n g) d := by
  refine ⟨congrArg (fun z : AlF => z.1) e, fun i d h => ?_⟩
  have e3 : fn.map (seenA (frK names n g)) = fn.map wishA := congrArg (fun z : AlF => z.2) e
  have e2 : (fn.map (seenA (frK names n g)))[i]? = (fn.map wishA)[i]? := by rw [e3]
  rw [List.getElem?_map, List.getElem?_map, h] at e2
  exact seenA_ok (Option.some.inj e2)
def hookF (names : List Str) (n : Nat) (fn : List FnA) (ex : PySem.W.Frag → List Bool) : PySem.W.Hook where
  α := AlF
  obs := fun s => obsF names n fn ex s.heap.get?
  val := fun _ => valF fn
  says := fun _ h => ∃ K : PySem.W.Frag, K.In h ∧ (ex K).all (fun b => b) = true ∧ ∀ (i : Nat) (d : FnA), fn[i]? = some d → FnSaid K d
  of := fun _ _ e => ⟨_, frG_in, said_of e⟩
  keeps := fun _ _ _ ⟨K, hK, c⟩ k => ⟨K, PySem.W.Frag.In.keeps hK k, c⟩
theorem row_ok {l : List Bool} (h : l.all (fun b => b) = true) (i : Nat) {b : Bool} (e : l[i]? = some b) : b = true := List.all_eq_true.mp h b (List.mem_of_getElem? e)
theorem int_k {K : PySem.W.Frag} {x : Str} {i : Int} (c : (Fa.int x i).ok K = true) : ∃ t, PySem.W.nsIn K mainGlobals x = some (some (.int i t)) := by
  have c2 : (match PySem.W.nsIn K mainGlobals x with
    | some (some (.int j _)) => decide (j = i)
    | _ => false) = true := c
  cases e : PySem.W.nsIn K mainGlobals x with
  | none => rw [e] at c2; cases c2
  | some o =>
    rw [e] at c2
    cases o with
    | none => cases c2
    | some v =>
      cases v with
      | int j t =>
        have ej : j = i := of_decide_eq_true c2
        rw [ej]
        exact ⟨t, rfl⟩
      | _ => cases c2
theorem str_k {K : PySem.W.Frag} {x z : Str} (c : (Fa.str x z).ok K = true) : ∃ t, PySem.W.nsIn K mainGlobals x = some (some (.str z t)) := by
  have c2 : (match PySem.W.nsIn K mainGlobals x with
    | some (some (.str y _)) => decide (y = z)
    | _ => false) = true := c
  cases e : PySem.W.nsIn K mainGlobals x with
  | none => rw [e] at c2; cases c2
  | some o =>
    rw [e] at c2
    cases o with
    | none => cases c2
    | some v =>
      cases v with
      | str y t =>
        have ej : y = z := of_decide_eq_true c2
        rw [ej]
        exact ⟨t, rfl⟩
      | _ => cases c2
/-- the getter's function of a property, the base behind an exception's class -/
def pgA (K : PySem.W.Frag) (C p : Str) : Addr := match PySem.W.recIn K (ma K (ga K C) p) "property" with
  | some (.ref a :: _) => a
  | _ => 0
def pgB (K : PySem.W.Frag) (C p : Str) : Bool := match PySem.W.recIn K (ma K (ga K C) p) "property" with
  | some (.ref _ :: _) => true
  | _ => false
theorem pgB_ok {K : PySem.W.Frag} {C p : Str} (h : pgB K C p = true) : ∃ rest, PySem.W.recIn K (ma K (ga K C) p) "property" = some (.ref (pgA K C p) :: rest) := by
  unfold pgB at h
  unfold pgA
  cases e : PySem.W.recIn K (ma K (ga K C) p) "property" with
  | none => rw [e] at h; cases h
  | some l =>
    cases l with
    | nil => rw [e] at h; cases h
    | cons v r =>
      cases v with
      | ref a => exact ⟨r, rfl⟩
      | _ => rw [e] at h; cases h
def fvB (K : PySem.W.Frag) (C : Addr) : Bool := match PySem.W.findCls K (.ref C) (.type "type") "__init__" with
  | some (.val (.builtin b)) => decide (b = "ValueError.__init__")
  | _ => false
theorem fvB_ok {K : PySem.W.Frag} {C : Addr} (h : fvB K C = true) : PySem.W.findCls K (.ref C) (.type "type") "__init__" = some (.val (.builtin "ValueError.__init__")) := by
  unfold fvB at h
  split at h
  · rename_i b e
    rw [e, of_decide_eq_true h]
  · cases h
def exclB (K : PySem.W.Frag) (C : Addr) : Bool := match K.lookup C with
  | some ⟨.type t, _, .cls cd, sl⟩ => (match cd.mro, sl.toList with
    | .ref D :: bm, [_, _, _, _, some (.builtin b), _] => decide (t = "type") && (decide (D = C) && (decide (b = "ValueError.__new__") && (decide (cd.hasDel = false) && (decide (cd.hasDict = true) && PySem.HandSPX.refsVE bm))))
    | _, _ => false)
  | _ => false
theorem exclB_ok {K : PySem.W.Frag} {C : Addr} (h : exclB K C = true) : ∃ nm q N bs bm sn sub ab col dd k0 k1 k2 k3 k5, K.lookup C = some (excClassObj nm q C N bs bm true sn sub ab col dd k0 k1 k2 k3 k5 "ValueError.__new__") ∧ PySem.HandSPX.refsVE bm = true := by
  unfold exclB at h
  split at h
  · rename_i t dd cd sl ho
    split at h
    · rename_i D bm k0 k1 k2 k3 b k5 hm hs
      obtain ⟨h1, h⟩ := ba h
      obtain ⟨h2, h⟩ := ba h
      obtain ⟨h3, h⟩ := ba h
      obtain ⟨h4, h⟩ := ba h
      obtain ⟨h5, h6⟩ := ba h
      obtain ⟨nm, bs, mro, ns, qn, hd, sn, sub, ab, col, del⟩ := cd
      have q1 := of_decide_eq_true h1
      have q2 := of_decide_eq_true h2
      have q3 := of_decide_eq_true h3
      have q4 : del = false := of_decide_eq_true h4
      have q5 : hd = true := of_decide_eq_true h5
      have q6 : mro = .ref D :: bm := hm
      clear h1 h2 h3 h4 h5 hm
      have hsl : sl = #[k0, k1, k2, k3, some (.builtin b), k5] := by
        obtain ⟨l⟩ := sl
        have hs : l = [k0, k1, k2, k3, some (.builtin b), k5] := hs
        rw [hs]
      clear hs
      subst q1 q2 q3 q4 q5 q6 hsl
      exact ⟨nm, qn, ns, bs, bm, sn, sub, ab, col, dd, k0, k1, k2, k3, k5, ho, h6⟩
    · cases h
  · cases h
def nm_0 : List Str := ["led_to", "longer_rows", "_improved", "best_rows", "shortest_rows", "best_loops", "_best_of", "least_and_greatest", "is_within", "first_row_out", "is_whole_number", "is_integer_between", "_is_stand", "_check_stands", "_is_step", "_check_steps", "is_ascending", "_check_ends", "check_machine", "check_stand", "check_number", "moves_of", "way", "gain_of_loop", "reached", "_tally_at", "greatest_at", "least_at", "bounds", "check_bounds"]
def nm_1 : List Str := ["stays", "_ring", "_row_outside", "bar", "_bars_as_row", "_bars_as_ring", "right_bar", "_span_at", "paper", "_is_span", "_covers", "_leads_on", "right_paper", "_moves_from", "first_leaving", "_longer", "_numbers", "count_staying", "_law_taken", "_law_call", "_law_refused", "law", "Machine", "BadBounds", "BadNumber", "TallyError", "LETTERS"]
def nms : List Str := nm_0 ++ nm_1
def fd_BadNumber_init : FnA := ⟨fun K => fAd K ("BadNumber", some "__init__"), "__init__", "BadNumber.__init__", defArgs s_BadNumber_init, defBody s_BadNumber_init, defScope s_BadNumber_init⟩
def fd_led_to : FnA := ⟨fun K => fAd K ("led_to", none), "led_to", "led_to", defArgs s_led_to, defBody s_led_to, defScope s_led_to⟩
def fd_longer_rows : FnA := ⟨fun K => fAd K ("longer_rows", none), "longer_rows", "longer_rows", defArgs s_longer_rows, defBody s_longer_rows, defScope s_longer_rows⟩
def fd_improved : FnA := ⟨fun K => fAd K ("_improved", none), "_improved", "_improved", defArgs s_improved, defBody s_improved, defScope s_improved⟩
def fd_best_rows : FnA := ⟨fun K => fAd K ("best_rows", none), "best_rows", "best_rows", defArgs s_best_rows, defBody s_best_rows, defScope s_best_rows⟩
def fd_shortest_rows : FnA := ⟨fun K => fAd K ("shortest_rows", none), "shortest_rows", "shortest_rows", defArgs s_shortest_rows, defBody s_shortest_rows, defScope s_shortest_rows⟩
def fd_best_loops : FnA := ⟨fun K => fAd K ("best_loops", none), "best_loops", "best_loops", defArgs s_best_loops, defBody s_best_loops, defScope s_best_loops⟩
def fd_best_of : FnA := ⟨fun K => fAd K ("_best_of", none), "_best_of", "_best_of", defArgs s_best_of, defBody s_best_of, defScope s_best_of⟩
def fd_least_and_greatest : FnA := ⟨fun K => fAd K ("least_and_greatest", none), "least_and_greatest", "least_and_greatest", defArgs s_least_and_greatest, defBody s_least_and_greatest, defScope s_least_and_greatest⟩
def fd_is_within : FnA := ⟨fun K => fAd K ("is_within", none), "is_within", "is_within", defArgs s_is_within, defBody s_is_within, defScope s_is_within⟩
def fd_first_row_out : FnA := ⟨fun K => fAd K ("first_row_out", none), "first_row_out", "first_row_out", defArgs s_first_row_out, defBody s_first_row_out, defScope s_first_row_out⟩
def fd_Machine_init : FnA := ⟨fun K => fAd K ("Machine", some "__init__"), "__init__", "Machine.__init__", defArgs s_Machine_init, defBody s_Machine_init, defScope s_Machine_init⟩
def fd_Machine_stands : FnA := ⟨fun K => pgA K "Machine" "stands", "stands", "Machine.stands", defArgs s_Machine_stands, defBody s_Machine_stands, defScope s_Machine_stands⟩
def fd_Machine_steps : FnA := ⟨fun K => pgA K "Machine" "steps", "steps", "Machine.steps", defArgs s_Machine_steps, defBody s_Machine_steps, defScope s_Machine_steps⟩
def fd_Machine_ends : FnA := ⟨fun K => pgA K "Machine" "ends", "ends", "Machine.ends", defArgs s_Machine_ends, defBody s_Machine_ends, defScope s_Machine_ends⟩
def fd_is_whole_number : FnA := ⟨fun K => fAd K ("is_whole_number", none), "is_whole_number", "is_whole_number", defArgs s_is_whole_number, defBody s_is_whole_number, defScope s_is_whole_number⟩
def fd_is_integer_between : FnA := ⟨fun K => fAd K ("is_integer_between", none), "is_integer_between", "is_integer_between", defArgs s_is_integer_between, defBody s_is_integer_between, defScope s_is_integer_between⟩
def fd_is_stand : FnA := ⟨fun K => fAd K ("_is_stand", none), "_is_stand", "_is_stand", defArgs s_is_stand, defBody s_is_stand, defScope s_is_stand⟩
def fd_check_stands : FnA := ⟨fun K => fAd K ("_check_stands", none), "_check_stands", "_check_stands", defArgs s_check_stands, defBody s_check_stands, defScope s_check_stands⟩
def fd_is_step : FnA := ⟨fun K => fAd K ("_is_step", none), "_is_step", "_is_step", defArgs s_is_step, defBody s_is_step, defScope s_is_step⟩
def fd_check_steps : FnA := ⟨fun K => fAd K ("_check_steps", none), "_check_steps", "_check_steps", defArgs s_check_steps, defBody s_check_steps, defScope s_check_steps⟩
def fd_is_ascending : FnA := ⟨fun K => fAd K ("is_ascending", none), "is_ascending", "is_ascending", defArgs s_is_ascending, defBody s_is_ascending, defScope s_is_ascending⟩
def fd_check_ends : FnA := ⟨fun K => fAd K ("_check_ends", none), "_check_ends", "_check_ends", defArgs s_check_ends, defBody s_check_ends, defScope s_check_ends⟩
def fd_check_machine : FnA := ⟨fun K => fAd K ("check_machine", none), "check_machine", "check_machine", defArgs s_check_machine, defBody s_check_machine, defScope s_check_machine⟩
def fd_check_stand : FnA := ⟨fun K => fAd K ("check_stand", none), "check_stand", "check_stand", defArgs s_check_stand, defBody s_check_stand, defScope s_check_stand⟩
def fd_check_number : FnA := ⟨fun K => fAd K ("check_number", none), "check_number", "check_number", defArgs s_check_number, defBody s_check_number, defScope s_check_number⟩
def fd_moves_of : FnA := ⟨fun K => fAd K ("moves_of", none), "moves_of", "moves_of", defArgs s_moves_of, defBody s_moves_of, defScope s_moves_of⟩
def fd_way : FnA := ⟨fun K => fAd K ("way", none), "way", "way", defArgs s_way, defBody s_way, defScope s_way⟩
def fd_gain_of_loop : FnA := ⟨fun K => fAd K ("gain_of_loop", none), "gain_of_loop", "gain_of_loop", defArgs s_gain_of_loop, defBody s_gain_of_loop, defScope s_gain_of_loop⟩
def fd_reached : FnA := ⟨fun K => fAd K ("reached", none), "reached", "reached", defArgs s_reached, defBody s_reached, defScope s_reached⟩
def fd_tally_at : FnA := ⟨fun K => fAd K ("_tally_at", none), "_tally_at", "_tally_at", defArgs s_tally_at, defBody s_tally_at, defScope s_tally_at⟩
def fd_greatest_at : FnA := ⟨fun K => fAd K ("greatest_at", none), "greatest_at", "greatest_at", defArgs s_greatest_at, defBody s_greatest_at, defScope s_greatest_at⟩
def fd_least_at : FnA := ⟨fun K => fAd K ("least_at", none), "least_at", "least_at", defArgs s_least_at, defBody s_least_at, defScope s_least_at⟩
def fd_bounds : FnA := ⟨fun K => fAd K ("bounds", none), "bounds", "bounds", defArgs s_bounds, defBody s_bounds, defScope s_bounds⟩
def fd_check_bounds : FnA := ⟨fun K => fAd K ("check_bounds", none), "check_bounds", "check_bounds", defArgs s_check_bounds, defBody s_check_bounds, defScope s_check_bounds⟩
def fd_stays : FnA := ⟨fun K => fAd K ("stays", none), "stays", "stays", defArgs s_stays, defBody s_stays, defScope s_stays⟩
def fd_ring : FnA := ⟨fun K => fAd K ("_ring", none), "_ring", "_ring", defArgs s_ring, defBody s_ring, defScope s_ring⟩
def fd_row_outside : FnA := ⟨fun K => fAd K ("_row_outside", none), "_row_outside", "_row_outside", defArgs s_row_outside, defBody s_row_outside, defScope s_row_outside⟩
def fd_bar : FnA := ⟨fun K => fAd K ("bar", none), "bar", "bar", defArgs s_bar, defBody s_bar, defScope s_bar⟩
def fd_bars_as_row : FnA := ⟨fun K => fAd K ("_bars_as_row", none), "_bars_as_row", "_bars_as_row", defArgs s_bars_as_row, defBody s_bars_as_row, defScope s_bars_as_row⟩
def fd_bars_as_ring : FnA := ⟨fun K => fAd K ("_bars_as_ring", none), "_bars_as_ring", "_bars_as_ring", defArgs s_bars_as_ring, defBody s_bars_as_ring, defScope s_bars_as_ring⟩
def fd_right_bar : FnA := ⟨fun K => fAd K ("right_bar", none), "right_bar", "right_bar", defArgs s_right_bar, defBody s_right_bar, defScope s_right_bar⟩
def fd_span_at : FnA := ⟨fun K => fAd K ("_span_at", none), "_span_at", "_span_at", defArgs s_span_at, defBody s_span_at, defScope s_span_at⟩
def fd_paper : FnA := ⟨fun K => fAd K ("paper", none), "paper", "paper", defArgs s_paper, defBody s_paper, defScope s_paper⟩
def fd_is_span : FnA := ⟨fun K => fAd K ("_is_span", none), "_is_span", "_is_span", defArgs s_is_span, defBody s_is_span, defScope s_is_span⟩
def fd_covers : FnA := ⟨fun K => fAd K ("_covers", none), "_covers", "_covers", defArgs s_covers, defBody s_covers, defScope s_covers⟩
def fd_leads_on : FnA := ⟨fun K => fAd K ("_leads_on", none), "_leads_on", "_leads_on", defArgs s_leads_on, defBody s_leads_on, defScope s_leads_on⟩
def fd_right_paper : FnA := ⟨fun K => fAd K ("right_paper", none), "right_paper", "right_paper", defArgs s_right_paper, defBody s_right_paper, defScope s_right_paper⟩
def fd_moves_from : FnA := ⟨fun K => fAd K ("_moves_from", none), "_moves_from", "_moves_from", defArgs s_moves_from, defBody s_moves_from, defScope s_moves_from⟩
def fd_first_leaving : FnA := ⟨fun K => fAd K ("first_leaving", none), "first_leaving", "first_leaving", defArgs s_first_leaving, defBody s_first_leaving, defScope s_first_leaving⟩
def fd_longer : FnA := ⟨fun K => fAd K ("_longer", none), "_longer", "_longer", defArgs s_longer, defBody s_longer, defScope s_longer⟩
def fd_numbers : FnA := ⟨fun K => fAd K ("_numbers", none), "_numbers", "_numbers", defArgs s_numbers, defBody s_numbers, defScope s_numbers⟩
def fd_count_staying : FnA := ⟨fun K => fAd K ("count_staying", none), "count_staying", "count_staying", defArgs s_count_staying, defBody s_count_staying, defScope s_count_staying⟩
def fd_law_taken : FnA := ⟨fun K => fAd K ("_law_taken", none), "_law_taken", "_law_taken", defArgs s_law_taken, defBody s_law_taken, defScope s_law_taken⟩
def fd_law_call : FnA := ⟨fun K => fAd K ("_law_call", none), "_law_call", "_law_call", defArgs s_law_call, defBody s_law_call, defScope s_law_call⟩
def fd_law_refused : FnA := ⟨fun K => fAd K ("_law_refused", none), "_law_refused", "_law_refused", defArgs s_law_refused, defBody s_law_refused, defScope s_law_refused⟩
def fd_law : FnA := ⟨fun K => fAd K ("law", none), "law", "law", defArgs s_law, defBody s_law, defScope s_law⟩
def fn_0 : List FnA := [fd_BadNumber_init, fd_led_to, fd_longer_rows, fd_improved, fd_best_rows, fd_shortest_rows, fd_best_loops, fd_best_of, fd_least_and_greatest, fd_is_within, fd_first_row_out, fd_Machine_init, fd_Machine_stands, fd_Machine_steps, fd_Machine_ends, fd_is_whole_number, fd_is_integer_between, fd_is_stand, fd_check_stands, fd_is_step, fd_check_steps, fd_is_ascending, fd_check_ends, fd_check_machine, fd_check_stand, fd_check_number, fd_moves_of, fd_way, fd_gain_of_loop, fd_reached]
def fn_1 : List FnA := [fd_tally_at, fd_greatest_at, fd_least_at, fd_bounds, fd_check_bounds, fd_stays, fd_ring, fd_row_outside, fd_bar, fd_bars_as_row, fd_bars_as_ring, fd_right_bar, fd_span_at, fd_paper, fd_is_span, fd_covers, fd_leads_on, fd_right_paper, fd_moves_from, fd_first_leaving, fd_longer, fd_numbers, fd_count_staying, fd_law_taken, fd_law_call, fd_law_refused, fd_law]
def fns : List FnA := fn_0 ++ fn_1
def ex_0 (K : PySem.W.Frag) : List Bool := [
    decide (PySem.W.nsIn K mainGlobals "led_to" = some (some (.ref (fAd K ("led_to", none))))),
    decide (PySem.W.nsIn K mainGlobals "longer_rows" = some (some (.ref (fAd K ("longer_rows", none))))),
    decide (PySem.W.nsIn K mainGlobals "_improved" = some (some (.ref (fAd K ("_improved", none))))),
    decide (PySem.W.nsIn K mainGlobals "best_rows" = some (some (.ref (fAd K ("best_rows", none))))),
    decide (PySem.W.nsIn K mainGlobals "shortest_rows" = some (some (.ref (fAd K ("shortest_rows", none))))),
    decide (PySem.W.nsIn K mainGlobals "best_loops" = some (some (.ref (fAd K ("best_loops", none))))),
    decide (PySem.W.nsIn K mainGlobals "_best_of" = some (some (.ref (fAd K ("_best_of", none))))),
    decide (PySem.W.nsIn K mainGlobals "least_and_greatest" = some (some (.ref (fAd K ("least_and_greatest", none))))),
    decide (PySem.W.nsIn K mainGlobals "is_within" = some (some (.ref (fAd K ("is_within", none))))),
    decide (PySem.W.nsIn K mainGlobals "first_row_out" = some (some (.ref (fAd K ("first_row_out", none))))),
    decide (PySem.W.nsIn K mainGlobals "is_whole_number" = some (some (.ref (fAd K ("is_whole_number", none))))),
    decide (PySem.W.nsIn K mainGlobals "is_integer_between" = some (some (.ref (fAd K ("is_integer_between", none))))),
    decide (PySem.W.nsIn K mainGlobals "_is_stand" = some (some (.ref (fAd K ("_is_stand", none))))),
    decide (PySem.W.nsIn K mainGlobals "_check_stands" = some (some (.ref (fAd K ("_check_stands", none))))),
    decide (PySem.W.nsIn K mainGlobals "_is_step" = some (some (.ref (fAd K ("_is_step", none))))),
    decide (PySem.W.nsIn K mainGlobals "_check_steps" = some (some (.ref (fAd K ("_check_steps", none))))),
    decide (PySem.W.nsIn K mainGlobals "is_ascending" = some (some (.ref (fAd K ("is_ascending", none))))),
    decide (PySem.W.nsIn K mainGlobals "_check_ends" = some (some (.ref (fAd K ("_check_ends", none))))),
    decide (PySem.W.nsIn K mainGlobals "check_machine" = some (some (.ref (fAd K ("check_machine", none))))),
    decide (PySem.W.nsIn K mainGlobals "check_stand" = some (some (.ref (fAd K ("check_stand", none))))),
    decide (PySem.W.nsIn K mainGlobals "check_number" = some (some (.ref (fAd K ("check_number", none))))),
    decide (PySem.W.nsIn K mainGlobals "moves_of" = some (some (.ref (fAd K ("moves_of", none))))),
    decide (PySem.W.nsIn K mainGlobals "way" = some (some (.ref (fAd K ("way", none))))),
    decide (PySem.W.nsIn K mainGlobals "gain_of_loop" = some (some (.ref (fAd K ("gain_of_loop", none))))),
    decide (PySem.W.nsIn K mainGlobals "reached" = some (some (.ref (fAd K ("reached", none)))))]
def ex_1 (K : PySem.W.Frag) : List Bool := [
    decide (PySem.W.nsIn K mainGlobals "_tally_at" = some (some (.ref (fAd K ("_tally_at", none))))),
    decide (PySem.W.nsIn K mainGlobals "greatest_at" = some (some (.ref (fAd K ("greatest_at", none))))),
    decide (PySem.W.nsIn K mainGlobals "least_at" = some (some (.ref (fAd K ("least_at", none))))),
    decide (PySem.W.nsIn K mainGlobals "bounds" = some (some (.ref (fAd K ("bounds", none))))),
    decide (PySem.W.nsIn K mainGlobals "check_bounds" = some (some (.ref (fAd K ("check_bounds", none))))),
    decide (PySem.W.nsIn K mainGlobals "stays" = some (some (.ref (fAd K ("stays", none))))),
    decide (PySem.W.nsIn K mainGlobals "_ring" = some (some (.ref (fAd K ("_ring", none))))),
    decide (PySem.W.nsIn K mainGlobals "_row_outside" = some (some (.ref (fAd K ("_row_outside", none))))),
    decide (PySem.W.nsIn K mainGlobals "bar" = some (some (.ref (fAd K ("bar", none))))),
    decide (PySem.W.nsIn K mainGlobals "_bars_as_row" = some (some (.ref (fAd K ("_bars_as_row", none))))),
    decide (PySem.W.nsIn K mainGlobals "_bars_as_ring" = some (some (.ref (fAd K ("_bars_as_ring", none))))),
    decide (PySem.W.nsIn K mainGlobals "right_bar" = some (some (.ref (fAd K ("right_bar", none))))),
    decide (PySem.W.nsIn K mainGlobals "_span_at" = some (some (.ref (fAd K ("_span_at", none))))),
    decide (PySem.W.nsIn K mainGlobals "paper" = some (some (.ref (fAd K ("paper", none))))),
    decide (PySem.W.nsIn K mainGlobals "_is_span" = some (some (.ref (fAd K ("_is_span", none))))),
    decide (PySem.W.nsIn K mainGlobals "_covers" = some (some (.ref (fAd K ("_covers", none))))),
    decide (PySem.W.nsIn K mainGlobals "_leads_on" = some (some (.ref (fAd K ("_leads_on", none))))),
    decide (PySem.W.nsIn K mainGlobals "right_paper" = some (some (.ref (fAd K ("right_paper", none))))),
    decide (PySem.W.nsIn K mainGlobals "_moves_from" = some (some (.ref (fAd K ("_moves_from", none))))),
    decide (PySem.W.nsIn K mainGlobals "first_leaving" = some (some (.ref (fAd K ("first_leaving", none))))),
    decide (PySem.W.nsIn K mainGlobals "_longer" = some (some (.ref (fAd K ("_longer", none))))),
    decide (PySem.W.nsIn K mainGlobals "_numbers" = some (some (.ref (fAd K ("_numbers", none))))),
    decide (PySem.W.nsIn K mainGlobals "count_staying" = some (some (.ref (fAd K ("count_staying", none))))),
    decide (PySem.W.nsIn K mainGlobals "_law_taken" = some (some (.ref (fAd K ("_law_taken", none))))),
    decide (PySem.W.nsIn K mainGlobals "_law_call" = some (some (.ref (fAd K ("_law_call", none)))))]
def ex_2 (K : PySem.W.Frag) : List Bool := [
    decide (PySem.W.nsIn K mainGlobals "_law_refused" = some (some (.ref (fAd K ("_law_refused", none))))),
    decide (PySem.W.nsIn K mainGlobals "law" = some (some (.ref (fAd K ("law", none))))),
    decide (PySem.W.nsIn K mainGlobals "Machine" = some (some (.ref (ga K "Machine")))),
    decide (PySem.W.nsIn K mainGlobals "BadBounds" = some (some (.ref (ga K "BadBounds")))),
    decide (PySem.W.nsIn K mainGlobals "BadNumber" = some (some (.ref (ga K "BadNumber")))),
    decide (PySem.W.nsIn K mainGlobals "TallyError" = some (some (.ref (ga K "TallyError")))),
    (Fa.int "MOST_STANDS" (8)).ok K,
    (Fa.int "MOST_GAIN" (1000000000000000000000000000000)).ok K,
    decide (PySem.W.nsIn K mainGlobals "LETTERS" = some (some (.ref (ga K "LETTERS")))),
    (Fa.str "ENDLESS" "endless").ok K,
    (Fa.int "MOST_NUMBER" (10000000000000000000000000000000000000000)).ok K,
    (Fa.int "MOST_LENGTH" (12)).ok K,
    (Fa.int "MOST_SMALL_BOUND" (20)).ok K,
    decide (PySem.W.nsIn K mainGlobals "all" = some none),
    decide (PySem.W.nsIn K mainGlobals "bool" = some none),
    decide (PySem.W.nsIn K mainGlobals "enumerate" = some none),
    decide (PySem.W.nsIn K mainGlobals "int" = some none),
    decide (PySem.W.nsIn K mainGlobals "isinstance" = some none),
    decide (PySem.W.nsIn K mainGlobals "len" = some none),
    decide (PySem.W.nsIn K mainGlobals "list" = some none),
    decide (PySem.W.nsIn K mainGlobals "max" = some none),
    decide (PySem.W.nsIn K mainGlobals "min" = some none),
    decide (PySem.W.nsIn K mainGlobals "range" = some none),
    decide (PySem.W.nsIn K mainGlobals "sorted" = some none),
    decide (PySem.W.nsIn K mainGlobals "str" = some none)]
def ex_3 (K : PySem.W.Frag) : List Bool := [
    decide (PySem.W.nsIn K mainGlobals "sum" = some none),
    decide (PySem.W.nsIn K mainGlobals "tuple" = some none),
    decide (PySem.W.keepIn K (.ref (fAd K ("BadNumber", some "__init__"))) = true),
    decide (PySem.W.keepIn K (.ref (fAd K ("led_to", none))) = true),
    decide (PySem.W.keepIn K (.ref (fAd K ("longer_rows", none))) = true),
    decide (PySem.W.keepIn K (.ref (fAd K ("_improved", none))) = true),
    decide (PySem.W.keepIn K (.ref (fAd K ("best_rows", none))) = true),
    decide (PySem.W.keepIn K (.ref (fAd K ("shortest_rows", none))) = true),
    decide (PySem.W.keepIn K (.ref (fAd K ("best_loops", none))) = true),
    decide (PySem.W.keepIn K (.ref (fAd K ("_best_of", none))) = true),
    decide (PySem.W.keepIn K (.ref (fAd K ("least_and_greatest", none))) = true),
    decide (PySem.W.keepIn K (.ref (fAd K ("is_within", none))) = true),
    decide (PySem.W.keepIn K (.ref (fAd K ("first_row_out", none))) = true),
    decide (PySem.W.keepIn K (.ref (fAd K ("Machine", some "__init__"))) = true),
    decide (PySem.W.keepIn K (.ref (pgA K "Machine" "stands")) = true),
    decide (PySem.W.keepIn K (.ref (pgA K "Machine" "steps")) = true),
    decide (PySem.W.keepIn K (.ref (pgA K "Machine" "ends")) = true),
    decide (PySem.W.keepIn K (.ref (fAd K ("is_whole_number", none))) = true),
    decide (PySem.W.keepIn K (.ref (fAd K ("is_integer_between", none))) = true),
    decide (PySem.W.keepIn K (.ref (fAd K ("_is_stand", none))) = true),
    decide (PySem.W.keepIn K (.ref (fAd K ("_check_stands", none))) = true),
    decide (PySem.W.keepIn K (.ref (fAd K ("_is_step", none))) = true),
    decide (PySem.W.keepIn K (.ref (fAd K ("_check_steps", none))) = true),
    decide (PySem.W.keepIn K (.ref (fAd K ("is_ascending", none))) = true),
    decide (PySem.W.keepIn K (.ref (fAd K ("_check_ends", none))) = true)]
def ex_4 (K : PySem.W.Frag) : List Bool := [
    decide (PySem.W.keepIn K (.ref (fAd K ("check_machine", none))) = true),
    decide (PySem.W.keepIn K (.ref (fAd K ("check_stand", none))) = true),
    decide (PySem.W.keepIn K (.ref (fAd K ("check_number", none))) = true),
    decide (PySem.W.keepIn K (.ref (fAd K ("moves_of", none))) = true),
    decide (PySem.W.keepIn K (.ref (fAd K ("way", none))) = true),
    decide (PySem.W.keepIn K (.ref (fAd K ("gain_of_loop", none))) = true),
    decide (PySem.W.keepIn K (.ref (fAd K ("reached", none))) = true),
    decide (PySem.W.keepIn K (.ref (fAd K ("_tally_at", none))) = true),
    decide (PySem.W.keepIn K (.ref (fAd K ("greatest_at", none))) = true),
    decide (PySem.W.keepIn K (.ref (fAd K ("least_at", none))) = true),
    decide (PySem.W.keepIn K (.ref (fAd K ("bounds", none))) = true),
    decide (PySem.W.keepIn K (.ref (fAd K ("check_bounds", none))) = true),
    decide (PySem.W.keepIn K (.ref (fAd K ("stays", none))) = true),
    decide (PySem.W.keepIn K (.ref (fAd K ("_ring", none))) = true),
    decide (PySem.W.keepIn K (.ref (fAd K ("_row_outside", none))) = true),
    decide (PySem.W.keepIn K (.ref (fAd K ("bar", none))) = true),
    decide (PySem.W.keepIn K (.ref (fAd K ("_bars_as_row", none))) = true),
    decide (PySem.W.keepIn K (.ref (fAd K ("_bars_as_ring", none))) = true),
    decide (PySem.W.keepIn K (.ref (fAd K ("right_bar", none))) = true),
    decide (PySem.W.keepIn K (.ref (fAd K ("_span_at", none))) = true),
    decide (PySem.W.keepIn K (.ref (fAd K ("paper", none))) = true),
    decide (PySem.W.keepIn K (.ref (fAd K ("_is_span", none))) = true),
    decide (PySem.W.keepIn K (.ref (fAd K ("_covers", none))) = true),
    decide (PySem.W.keepIn K (.ref (fAd K ("_leads_on", none))) = true),
    decide (PySem.W.keepIn K (.ref (fAd K ("right_paper", none))) = true)]
def ex_5 (K : PySem.W.Frag) : List Bool := [
    decide (PySem.W.keepIn K (.ref (fAd K ("_moves_from", none))) = true),
    decide (PySem.W.keepIn K (.ref (fAd K ("first_leaving", none))) = true),
    decide (PySem.W.keepIn K (.ref (fAd K ("_longer", none))) = true),
    decide (PySem.W.keepIn K (.ref (fAd K ("_numbers", none))) = true),
    decide (PySem.W.keepIn K (.ref (fAd K ("count_staying", none))) = true),
    decide (PySem.W.keepIn K (.ref (fAd K ("_law_taken", none))) = true),
    decide (PySem.W.keepIn K (.ref (fAd K ("_law_call", none))) = true),
    decide (PySem.W.keepIn K (.ref (fAd K ("_law_refused", none))) = true),
    decide (PySem.W.keepIn K (.ref (fAd K ("law", none))) = true),
    decide (PySem.W.plainGet K (ga K "Machine") Str.empty = true),
    decide (PySem.W.hasDictIn K (ga K "Machine") = true),
    decide (PySem.W.plainOver K (ga K "Machine") = true),
    decide (PySem.W.findIn K (.ref (ga K "Machine")) "__setattr__" = some (some (.builtin "object.__setattr__"))),
    decide (PySem.W.makesIn K (ga K "Machine") = true),
    decide (PySem.W.keepIn K (.ref (ga K "Machine")) = true),
    decide (PySem.W.findIn K (.ref (ga K "Machine")) "__init__" = some (some (.ref (fAd K ("Machine", some "__init__"))))),
    decide (PySem.W.isFn K (.ref (fAd K ("Machine", some "__init__"))) = true),
    decide (PySem.W.findIn K (.ref (ga K "Machine")) "_stands" = some none),
    decide (PySem.W.findIn K (.ref (ga K "Machine")) "_steps" = some none),
    decide (PySem.W.findIn K (.ref (ga K "Machine")) "_ends" = some none),
    decide (PySem.W.findIn K (.ref (ga K "Machine")) "stands" = some (some (.ref (ma K (ga K "Machine") "stands")))),
    decide (PySem.W.specialIn K (.ref (ma K (ga K "Machine") "stands")) "__get__" = some (some (.builtin "property.__get__"))),
    decide (PySem.W.takesIn K (.ref (ma K (ga K "Machine") "stands")) = some true),
    pgB K "Machine" "stands",
    decide (PySem.W.findIn K (.ref (ga K "Machine")) "steps" = some (some (.ref (ma K (ga K "Machine") "steps"))))]
def ex_6 (K : PySem.W.Frag) : List Bool := [
    decide (PySem.W.specialIn K (.ref (ma K (ga K "Machine") "steps")) "__get__" = some (some (.builtin "property.__get__"))),
    decide (PySem.W.takesIn K (.ref (ma K (ga K "Machine") "steps")) = some true),
    pgB K "Machine" "steps",
    decide (PySem.W.findIn K (.ref (ga K "Machine")) "ends" = some (some (.ref (ma K (ga K "Machine") "ends")))),
    decide (PySem.W.specialIn K (.ref (ma K (ga K "Machine") "ends")) "__get__" = some (some (.builtin "property.__get__"))),
    decide (PySem.W.takesIn K (.ref (ma K (ga K "Machine") "ends")) = some true),
    pgB K "Machine" "ends",
    decide (PySem.W.findIn K (.ref (ga K "Machine")) "__class__" = some (some (.builtin "object.__class__"))),
    decide (PySem.W.specialIn K (.builtin "object.__class__") "__get__" = some (some (.builtin "getset_descriptor.__get__"))),
    decide (PySem.W.takesIn K (.builtin "object.__class__") = some true),
    decide (PySem.W.mroIn K (ga K "Machine") (.type "object") = some true),
    decide (PySem.W.excIn K (ga K "BadBounds") [.type "ValueError", .type "Exception", .type "BaseException", .type "object"] "ValueError.__new__" = true),
    decide (PySem.W.keepIn K (.ref (ga K "BadBounds")) = true),
    decide (PySem.W.subIn K (.ref (ga K "BadBounds")) (.type "BaseException") = some true),
    decide (PySem.W.typeIn K (.ref (ga K "BadBounds")) = some (.type "type")),
    decide (PySem.W.isClsIn K (ga K "BadBounds") = true),
    decide (PySem.W.subIn K (.ref (ga K "BadBounds")) (.ref (ga K "BadBounds")) = some true),
    exclB K (ga K "BadNumber"),
    decide (PySem.W.findIn K (.ref (ga K "BadNumber")) "__setattr__" = some (some (.builtin "object.__setattr__"))),
    decide (PySem.W.keepIn K (.ref (ga K "BadNumber")) = true),
    decide (PySem.W.subIn K (.ref (ga K "BadNumber")) (.type "BaseException") = some true),
    decide (PySem.W.typeIn K (.ref (ga K "BadNumber")) = some (.type "type")),
    decide (PySem.W.isClsIn K (ga K "BadNumber") = true),
    decide (PySem.W.subIn K (.ref (ga K "BadNumber")) (.ref (ga K "BadNumber")) = some true),
    decide (PySem.W.findIn K (.ref (ga K "BadNumber")) "__getattribute__" = some (some (.builtin "BaseException.__getattribute__")))]
def ex_7 (K : PySem.W.Frag) : List Bool := [
    decide (PySem.W.findIn K (.ref (ga K "BadNumber")) "__getattr__" = some none),
    decide (PySem.W.hasDictIn K (ga K "BadNumber") = true),
    decide (PySem.W.findIn K (.ref (ga K "BadNumber")) "__init__" = some (some (.ref (fAd K ("BadNumber", some "__init__"))))),
    decide (PySem.W.typeIn K (.ref (fAd K ("BadNumber", some "__init__"))) = some (.type "function")),
    decide (PySem.W.findIn K (.ref (ga K "BadNumber")) "n" = some none),
    decide (PySem.W.readsIn K (ga K "TallyError") (.type "type") = true),
    fvB K (ga K "TallyError"),
    decide (PySem.W.specialIn K (.ref (ga K "TallyError")) "__getattribute__" = some (some (.builtin "type.__getattribute__"))),
    tupB K "LETTERS" [.str "a", .str "b", .str "c", .str "d"]]
def exs (K : PySem.W.Frag) : List Bool := [(ex_0 K).all fun b => b, (ex_1 K).all fun b => b, (ex_2 K).all fun b => b, (ex_3 K).all fun b => b, (ex_4 K).all fun b => b, (ex_5 K).all fun b => b, (ex_6 K).all fun b => b, (ex_7 K).all fun b => b]
theorem txt_of {K : PySem.W.Frag} {h : Heap} {mg : Str → Option Value} (X : K.In h) (G : h.Ns mainGlobals mg) (he : (exs K).all (fun b => b) = true) (hf : ∀ (i : Nat) (d : FnA), fns[i]? = some d → FnSaid K d) : Nonempty (Txt K mg) := by
  have e0 := row_ok he 0 (b := (ex_0 K).all fun b => b) rfl
  have e1 := row_ok he 1 (b := (ex_1 K).all fun b => b) rfl
  have e2 := row_ok he 2 (b := (ex_2 K).all fun b => b) rfl
  have e3 := row_ok he 3 (b := (ex_3 K).all fun b => b) rfl
  have e4 := row_ok he 4 (b := (ex_4 K).all fun b => b) rfl
  have e5 := row_ok he 5 (b := (ex_5 K).all fun b => b) rfl
  have e6 := row_ok he 6 (b := (ex_6 K).all fun b => b) rfl
  have e7 := row_ok he 7 (b := (ex_7 K).all fun b => b) rfl
  obtain ⟨oc_BadNumber_init, od_BadNumber_init, sl_BadNumber_init, kV_BadNumber_init, dc_BadNumber_init, pm_BadNumber_init, an_BadNumber_init, cd_BadNumber_init, ct_BadNumber_init, l_BadNumber_init, c_BadNumber_init⟩ := hf 0 fd_BadNumber_init rfl
  obtain ⟨oc_led_to, od_led_to, sl_led_to, kV_led_to, dc_led_to, pm_led_to, an_led_to, cd_led_to, ct_led_to, l_led_to, c_led_to⟩ := hf 1 fd_led_to rfl
  obtain ⟨oc_longer_rows, od_longer_rows, sl_longer_rows, kV_longer_rows, dc_longer_rows, pm_longer_rows, an_longer_rows, cd_longer_rows, ct_longer_rows, l_longer_rows, c_longer_rows⟩ := hf 2 fd_longer_rows rfl
  obtain ⟨oc_improved, od_improved, sl_improved, kV_improved, dc_improved, pm_improved, an_improved, cd_improved, ct_improved, l_improved, c_improved⟩ := hf 3 fd_improved rfl
  obtain ⟨oc_best_rows, od_best_rows, sl_best_rows, kV_best_rows, dc_best_rows, pm_best_rows, an_best_rows, cd_best_rows, ct_best_rows, l_best_rows, c_best_rows⟩ := hf 4 fd_best_rows rfl
  obtain ⟨oc_shortest_rows, od_shortest_rows, sl_shortest_rows, kV_shortest_rows, dc_shortest_rows, pm_shortest_rows, an_shortest_rows, cd_shortest_rows, ct_shortest_rows, l_shortest_rows, c_shortest_rows⟩ := hf 5 fd_shortest_rows rfl
  obtain ⟨oc_best_loops, od_best_loops, sl_best_loops, kV_best_loops, dc_best_loops, pm_best_loops, an_best_loops, cd_best_loops, ct_best_loops, l_best_loops, c_best_loops⟩ := hf 6 fd_best_loops rfl
  obtain ⟨oc_best_of, od_best_of, sl_best_of, kV_best_of, dc_best_of, pm_best_of, an_best_of, cd_best_of, ct_best_of, l_best_of, c_best_of⟩ := hf 7 fd_best_of rfl
  obtain ⟨oc_least_and_greatest, od_least_and_greatest, sl_least_and_greatest, kV_least_and_greatest, dc_least_and_greatest, pm_least_and_greatest, an_least_and_greatest, cd_least_and_greatest, ct_least_and_greatest, l_least_and_greatest, c_least_and_greatest⟩ := hf 8 fd_least_and_greatest rfl
  obtain ⟨oc_is_within, od_is_within, sl_is_within, kV_is_within, dc_is_within, pm_is_within, an_is_within, cd_is_within, ct_is_within, l_is_within, c_is_within⟩ := hf 9 fd_is_within rfl
  obtain ⟨oc_first_row_out, od_first_row_out, sl_first_row_out, kV_first_row_out, dc_first_row_out, pm_first_row_out, an_first_row_out, cd_first_row_out, ct_first_row_out, l_first_row_out, c_first_row_out⟩ := hf 10 fd_first_row_out rfl
  obtain ⟨oc_Machine_init, od_Machine_init, sl_Machine_init, kV_Machine_init, dc_Machine_init, pm_Machine_init, an_Machine_init, cd_Machine_init, ct_Machine_init, l_Machine_init, c_Machine_init⟩ := hf 11 fd_Machine_init rfl
  obtain ⟨oc_Machine_stands, od_Machine_stands, sl_Machine_stands, kV_Machine_stands, dc_Machine_stands, pm_Machine_stands, an_Machine_stands, cd_Machine_stands, ct_Machine_stands, l_Machine_stands, c_Machine_stands⟩ := hf 12 fd_Machine_stands rfl
  obtain ⟨oc_Machine_steps, od_Machine_steps, sl_Machine_steps, kV_Machine_steps, dc_Machine_steps, pm_Machine_steps, an_Machine_steps, cd_Machine_steps, ct_Machine_steps, l_Machine_steps, c_Machine_steps⟩ := hf 13 fd_Machine_steps rfl
  obtain ⟨oc_Machine_ends, od_Machine_ends, sl_Machine_ends, kV_Machine_ends, dc_Machine_ends, pm_Machine_ends, an_Machine_ends, cd_Machine_ends, ct_Machine_ends, l_Machine_ends, c_Machine_ends⟩ := hf 14 fd_Machine_ends rfl
  obtain ⟨oc_is_whole_number, od_is_whole_number, sl_is_whole_number, kV_is_whole_number, dc_is_whole_number, pm_is_whole_number, an_is_whole_number, cd_is_whole_number, ct_is_whole_number, l_is_whole_number, c_is_whole_number⟩ := hf 15 fd_is_whole_number rfl
  obtain ⟨oc_is_integer_between, od_is_integer_between, sl_is_integer_between, kV_is_integer_between, dc_is_integer_between, pm_is_integer_between, an_is_integer_between, cd_is_integer_between, ct_is_integer_between, l_is_integer_between, c_is_integer_between⟩ := hf 16 fd_is_integer_between rfl
  obtain ⟨oc_is_stand, od_is_stand, sl_is_stand, kV_is_stand, dc_is_stand, pm_is_stand, an_is_stand, cd_is_stand, ct_is_stand, l_is_stand, c_is_stand⟩ := hf 17 fd_is_stand rfl
  obtain ⟨oc_check_stands, od_check_stands, sl_check_stands, kV_check_stands, dc_check_stands, pm_check_stands, an_check_stands, cd_check_stands, ct_check_stands, l_check_stands, c_check_stands⟩ := hf 18 fd_check_stands rfl
  obtain ⟨oc_is_step, od_is_step, sl_is_step, kV_is_step, dc_is_step, pm_is_step, an_is_step, cd_is_step, ct_is_step, l_is_step, c_is_step⟩ := hf 19 fd_is_step rfl
  obtain ⟨oc_check_steps, od_check_steps, sl_check_steps, kV_check_steps, dc_check_steps, pm_check_steps, an_check_steps, cd_check_steps, ct_check_steps, l_check_steps, c_check_steps⟩ := hf 20 fd_check_steps rfl
  obtain ⟨oc_is_ascending, od_is_ascending, sl_is_ascending, kV_is_ascending, dc_is_ascending, pm_is_ascending, an_is_ascending, cd_is_ascending, ct_is_ascending, l_is_ascending, c_is_ascending⟩ := hf 21 fd_is_ascending rfl
  obtain ⟨oc_check_ends, od_check_ends, sl_check_ends, kV_check_ends, dc_check_ends, pm_check_ends, an_check_ends, cd_check_ends, ct_check_ends, l_check_ends, c_check_ends⟩ := hf 22 fd_check_ends rfl
  obtain ⟨oc_check_machine, od_check_machine, sl_check_machine, kV_check_machine, dc_check_machine, pm_check_machine, an_check_machine, cd_check_machine, ct_check_machine, l_check_machine, c_check_machine⟩ := hf 23 fd_check_machine rfl
  obtain ⟨oc_check_stand, od_check_stand, sl_check_stand, kV_check_stand, dc_check_stand, pm_check_stand, an_check_stand, cd_check_stand, ct_check_stand, l_check_stand, c_check_stand⟩ := hf 24 fd_check_stand rfl
  obtain ⟨oc_check_number, od_check_number, sl_check_number, kV_check_number, dc_check_number, pm_check_number, an_check_number, cd_check_number, ct_check_number, l_check_number, c_check_number⟩ := hf 25 fd_check_number rfl
  obtain ⟨oc_moves_of, od_moves_of, sl_moves_of, kV_moves_of, dc_moves_of, pm_moves_of, an_moves_of, cd_moves_of, ct_moves_of, l_moves_of, c_moves_of⟩ := hf 26 fd_moves_of rfl
  obtain ⟨oc_way, od_way, sl_way, kV_way, dc_way, pm_way, an_way, cd_way, ct_way, l_way, c_way⟩ := hf 27 fd_way rfl
  obtain ⟨oc_gain_of_loop, od_gain_of_loop, sl_gain_of_loop, kV_gain_of_loop, dc_gain_of_loop, pm_gain_of_loop, an_gain_of_loop, cd_gain_of_loop, ct_gain_of_loop, l_gain_of_loop, c_gain_of_loop⟩ := hf 28 fd_gain_of_loop rfl
  obtain ⟨oc_reached, od_reached, sl_reached, kV_reached, dc_reached, pm_reached, an_reached, cd_reached, ct_reached, l_reached, c_reached⟩ := hf 29 fd_reached rfl
  obtain ⟨oc_tally_at, od_tally_at, sl_tally_at, kV_tally_at, dc_tally_at, pm_tally_at, an_tally_at, cd_tally_at, ct_tally_at, l_tally_at, c_tally_at⟩ := hf 30 fd_tally_at rfl
  obtain ⟨oc_greatest_at, od_greatest_at, sl_greatest_at, kV_greatest_at, dc_greatest_at, pm_greatest_at, an_greatest_at, cd_greatest_at, ct_greatest_at, l_greatest_at, c_greatest_at⟩ := hf 31 fd_greatest_at rfl
  obtain ⟨oc_least_at, od_least_at, sl_least_at, kV_least_at, dc_least_at, pm_least_at, an_least_at, cd_least_at, ct_least_at, l_least_at, c_least_at⟩ := hf 32 fd_least_at rfl
  obtain ⟨oc_bounds, od_bounds, sl_bounds, kV_bounds, dc_bounds, pm_bounds, an_bounds, cd_bounds, ct_bounds, l_bounds, c_bounds⟩ := hf 33 fd_bounds rfl
  obtain ⟨oc_check_bounds, od_check_bounds, sl_check_bounds, kV_check_bounds, dc_check_bounds, pm_check_bounds, an_check_bounds, cd_check_bounds, ct_check_bounds, l_check_bounds, c_check_bounds⟩ := hf 34 fd_check_bounds rfl
  obtain ⟨oc_stays, od_stays, sl_stays, kV_stays, dc_stays, pm_stays, an_stays, cd_stays, ct_stays, l_stays, c_stays⟩ := hf 35 fd_stays rfl
  obtain ⟨oc_ring, od_ring, sl_ring, kV_ring, dc_ring, pm_ring, an_ring, cd_ring, ct_ring, l_ring, c_ring⟩ := hf 36 fd_ring rfl
  obtain ⟨oc_row_outside, od_row_outside, sl_row_outside, kV_row_outside, dc_row_outside, pm_row_outside, an_row_outside, cd_row_outside, ct_row_outside, l_row_outside, c_row_outside⟩ := hf 37 fd_row_outside rfl
  obtain ⟨oc_bar, od_bar, sl_bar, kV_bar, dc_bar, pm_bar, an_bar, cd_bar, ct_bar, l_bar, c_bar⟩ := hf 38 fd_bar rfl
  obtain ⟨oc_bars_as_row, od_bars_as_row, sl_bars_as_row, kV_bars_as_row, dc_bars_as_row, pm_bars_as_row, an_bars_as_row, cd_bars_as_row, ct_bars_as_row, l_bars_as_row, c_bars_as_row⟩ := hf 39 fd_bars_as_row rfl
  obtain ⟨oc_bars_as_ring, od_bars_as_ring, sl_bars_as_ring, kV_bars_as_ring, dc_bars_as_ring, pm_bars_as_ring, an_bars_as_ring, cd_bars_as_ring, ct_bars_as_ring, l_bars_as_ring, c_bars_as_ring⟩ := hf 40 fd_bars_as_ring rfl
  obtain ⟨oc_right_bar, od_right_bar, sl_right_bar, kV_right_bar, dc_right_bar, pm_right_bar, an_right_bar, cd_right_bar, ct_right_bar, l_right_bar, c_right_bar⟩ := hf 41 fd_right_bar rfl
  obtain ⟨oc_span_at, od_span_at, sl_span_at, kV_span_at, dc_span_at, pm_span_at, an_span_at, cd_span_at, ct_span_at, l_span_at, c_span_at⟩ := hf 42 fd_span_at rfl
  obtain ⟨oc_paper, od_paper, sl_paper, kV_paper, dc_paper, pm_paper, an_paper, cd_paper, ct_paper, l_paper, c_paper⟩ := hf 43 fd_paper rfl
  obtain ⟨oc_is_span, od_is_span, sl_is_span, kV_is_span, dc_is_span, pm_is_span, an_is_span, cd_is_span, ct_is_span, l_is_span, c_is_span⟩ := hf 44 fd_is_span rfl
  obtain ⟨oc_covers, od_covers, sl_covers, kV_covers, dc_covers, pm_covers, an_covers, cd_covers, ct_covers, l_covers, c_covers⟩ := hf 45 fd_covers rfl
  obtain ⟨oc_leads_on, od_leads_on, sl_leads_on, kV_leads_on, dc_leads_on, pm_leads_on, an_leads_on, cd_leads_on, ct_leads_on, l_leads_on, c_leads_on⟩ := hf 46 fd_leads_on rfl
  obtain ⟨oc_right_paper, od_right_paper, sl_right_paper, kV_right_paper, dc_right_paper, pm_right_paper, an_right_paper, cd_right_paper, ct_right_paper, l_right_paper, c_right_paper⟩ := hf 47 fd_right_paper rfl
  obtain ⟨oc_moves_from, od_moves_from, sl_moves_from, kV_moves_from, dc_moves_from, pm_moves_from, an_moves_from, cd_moves_from, ct_moves_from, l_moves_from, c_moves_from⟩ := hf 48 fd_moves_from rfl
  obtain ⟨oc_first_leaving, od_first_leaving, sl_first_leaving, kV_first_leaving, dc_first_leaving, pm_first_leaving, an_first_leaving, cd_first_leaving, ct_first_leaving, l_first_leaving, c_first_leaving⟩ := hf 49 fd_first_leaving rfl
  obtain ⟨oc_longer, od_longer, sl_longer, kV_longer, dc_longer, pm_longer, an_longer, cd_longer, ct_longer, l_longer, c_longer⟩ := hf 50 fd_longer rfl
  obtain ⟨oc_numbers, od_numbers, sl_numbers, kV_numbers, dc_numbers, pm_numbers, an_numbers, cd_numbers, ct_numbers, l_numbers, c_numbers⟩ := hf 51 fd_numbers rfl
  obtain ⟨oc_count_staying, od_count_staying, sl_count_staying, kV_count_staying, dc_count_staying, pm_count_staying, an_count_staying, cd_count_staying, ct_count_staying, l_count_staying, c_count_staying⟩ := hf 52 fd_count_staying rfl
  obtain ⟨oc_law_taken, od_law_taken, sl_law_taken, kV_law_taken, dc_law_taken, pm_law_taken, an_law_taken, cd_law_taken, ct_law_taken, l_law_taken, c_law_taken⟩ := hf 53 fd_law_taken rfl
  obtain ⟨oc_law_call, od_law_call, sl_law_call, kV_law_call, dc_law_call, pm_law_call, an_law_call, cd_law_call, ct_law_call, l_law_call, c_law_call⟩ := hf 54 fd_law_call rfl
  obtain ⟨oc_law_refused, od_law_refused, sl_law_refused, kV_law_refused, dc_law_refused, pm_law_refused, an_law_refused, cd_law_refused, ct_law_refused, l_law_refused, c_law_refused⟩ := hf 55 fd_law_refused rfl
  obtain ⟨oc_law, od_law, sl_law, kV_law, dc_law, pm_law, an_law, cd_law, ct_law, l_law, c_law⟩ := hf 56 fd_law rfl
  obtain ⟨t_MOST_STANDS, g_MOST_STANDS⟩ := int_k (row_ok e2 6 (b := (Fa.int "MOST_STANDS" (8)).ok K) rfl)
  obtain ⟨t_MOST_GAIN, g_MOST_GAIN⟩ := int_k (row_ok e2 7 (b := (Fa.int "MOST_GAIN" (1000000000000000000000000000000)).ok K) rfl)
  obtain ⟨t_ENDLESS, g_ENDLESS⟩ := str_k (row_ok e2 9 (b := (Fa.str "ENDLESS" "endless").ok K) rfl)
  obtain ⟨t_MOST_NUMBER, g_MOST_NUMBER⟩ := int_k (row_ok e2 10 (b := (Fa.int "MOST_NUMBER" (10000000000000000000000000000000000000000)).ok K) rfl)
  obtain ⟨t_MOST_LENGTH, g_MOST_LENGTH⟩ := int_k (row_ok e2 11 (b := (Fa.int "MOST_LENGTH" (12)).ok K) rfl)
  obtain ⟨t_MOST_SMALL_BOUND, g_MOST_SMALL_BOUND⟩ := int_k (row_ok e2 12 (b := (Fa.int "MOST_SMALL_BOUND" (20)).ok K) rfl)
  obtain ⟨rest_stands, pr_stands⟩ := pgB_ok (row_ok e5 23 (b := pgB K "Machine" "stands") rfl)
  obtain ⟨rest_steps, pr_steps⟩ := pgB_ok (row_ok e6 2 (b := pgB K "Machine" "steps") rfl)
  obtain ⟨rest_ends, pr_ends⟩ := pgB_ok (row_ok e6 6 (b := pgB K "Machine" "ends") rfl)
  exact ⟨txt_mk X G
    (of_decide_eq_true (row_ok e0 0 (b := decide (PySem.W.nsIn K mainGlobals "led_to" = some (some (.ref (fAd K ("led_to", none)))))) rfl))
    (of_decide_eq_true (row_ok e0 1 (b := decide (PySem.W.nsIn K mainGlobals "longer_rows" = some (some (.ref (fAd K ("longer_rows", none)))))) rfl))
    (of_decide_eq_true (row_ok e0 2 (b := decide (PySem.W.nsIn K mainGlobals "_improved" = some (some (.ref (fAd K ("_improved", none)))))) rfl))
    (of_decide_eq_true (row_ok e0 3 (b := decide (PySem.W.nsIn K mainGlobals "best_rows" = some (some (.ref (fAd K ("best_rows", none)))))) rfl))
    (of_decide_eq_true (row_ok e0 4 (b := decide (PySem.W.nsIn K mainGlobals "shortest_rows" = some (some (.ref (fAd K ("shortest_rows", none)))))) rfl))
    (of_decide_eq_true (row_ok e0 5 (b := decide (PySem.W.nsIn K mainGlobals "best_loops" = some (some (.ref (fAd K ("best_loops", none)))))) rfl))
    (of_decide_eq_true (row_ok e0 6 (b := decide (PySem.W.nsIn K mainGlobals "_best_of" = some (some (.ref (fAd K ("_best_of", none)))))) rfl))
    (of_decide_eq_true (row_ok e0 7 (b := decide (PySem.W.nsIn K mainGlobals "least_and_greatest" = some (some (.ref (fAd K ("least_and_greatest", none)))))) rfl))
    (of_decide_eq_true (row_ok e0 8 (b := decide (PySem.W.nsIn K mainGlobals "is_within" = some (some (.ref (fAd K ("is_within", none)))))) rfl))
    (of_decide_eq_true (row_ok e0 9 (b := decide (PySem.W.nsIn K mainGlobals "first_row_out" = some (some (.ref (fAd K ("first_row_out", none)))))) rfl))
    (of_decide_eq_true (row_ok e0 10 (b := decide (PySem.W.nsIn K mainGlobals "is_whole_number" = some (some (.ref (fAd K ("is_whole_number", none)))))) rfl))
    (of_decide_eq_true (row_ok e0 11 (b := decide (PySem.W.nsIn K mainGlobals "is_integer_between" = some (some (.ref (fAd K ("is_integer_between", none)))))) rfl))
    (of_decide_eq_true (row_ok e0 12 (b := decide (PySem.W.nsIn K mainGlobals "_is_stand" = some (some (.ref (fAd K ("_is_stand", none)))))) rfl))
    (of_decide_eq_true (row_ok e0 13 (b := decide (PySem.W.nsIn K mainGlobals "_check_stands" = some (some (.ref (fAd K ("_check_stands", none)))))) rfl))
    (of_decide_eq_true (row_ok e0 14 (b := decide (PySem.W.nsIn K mainGlobals "_is_step" = some (some (.ref (fAd K ("_is_step", none)))))) rfl))
    (of_decide_eq_true (row_ok e0 15 (b := decide (PySem.W.nsIn K mainGlobals "_check_steps" = some (some (.ref (fAd K ("_check_steps", none)))))) rfl))
    (of_decide_eq_true (row_ok e0 16 (b := decide (PySem.W.nsIn K mainGlobals "is_ascending" = some (some (.ref (fAd K ("is_ascending", none)))))) rfl))
    (of_decide_eq_true (row_ok e0 17 (b := decide (PySem.W.nsIn K mainGlobals "_check_ends" = some (some (.ref (fAd K ("_check_ends", none)))))) rfl))
    (of_decide_eq_true (row_ok e0 18 (b := decide (PySem.W.nsIn K mainGlobals "check_machine" = some (some (.ref (fAd K ("check_machine", none)))))) rfl))
    (of_decide_eq_true (row_ok e0 19 (b := decide (PySem.W.nsIn K mainGlobals "check_stand" = some (some (.ref (fAd K ("check_stand", none)))))) rfl))
    (of_decide_eq_true (row_ok e0 20 (b := decide (PySem.W.nsIn K mainGlobals "check_number" = some (some (.ref (fAd K ("check_number", none)))))) rfl))
    (of_decide_eq_true (row_ok e0 21 (b := decide (PySem.W.nsIn K mainGlobals "moves_of" = some (some (.ref (fAd K ("moves_of", none)))))) rfl))
    (of_decide_eq_true (row_ok e0 22 (b := decide (PySem.W.nsIn K mainGlobals "way" = some (some (.ref (fAd K ("way", none)))))) rfl))
    (of_decide_eq_true (row_ok e0 23 (b := decide (PySem.W.nsIn K mainGlobals "gain_of_loop" = some (some (.ref (fAd K ("gain_of_loop", none)))))) rfl))
    (of_decide_eq_true (row_ok e0 24 (b := decide (PySem.W.nsIn K mainGlobals "reached" = some (some (.ref (fAd K ("reached", none)))))) rfl))
    (of_decide_eq_true (row_ok e1 0 (b := decide (PySem.W.nsIn K mainGlobals "_tally_at" = some (some (.ref (fAd K ("_tally_at", none)))))) rfl))
    (of_decide_eq_true (row_ok e1 1 (b := decide (PySem.W.nsIn K mainGlobals "greatest_at" = some (some (.ref (fAd K ("greatest_at", none)))))) rfl))
    (of_decide_eq_true (row_ok e1 2 (b := decide (PySem.W.nsIn K mainGlobals "least_at" = some (some (.ref (fAd K ("least_at", none)))))) rfl))
    (of_decide_eq_true (row_ok e1 3 (b := decide (PySem.W.nsIn K mainGlobals "bounds" = some (some (.ref (fAd K ("bounds", none)))))) rfl))
    (of_decide_eq_true (row_ok e1 4 (b := decide (PySem.W.nsIn K mainGlobals "check_bounds" = some (some (.ref (fAd K ("check_bounds", none)))))) rfl))
    (of_decide_eq_true (row_ok e1 5 (b := decide (PySem.W.nsIn K mainGlobals "stays" = some (some (.ref (fAd K ("stays", none)))))) rfl))
    (of_decide_eq_true (row_ok e1 6 (b := decide (PySem.W.nsIn K mainGlobals "_ring" = some (some (.ref (fAd K ("_ring", none)))))) rfl))
    (of_decide_eq_true (row_ok e1 7 (b := decide (PySem.W.nsIn K mainGlobals "_row_outside" = some (some (.ref (fAd K ("_row_outside", none)))))) rfl))
    (of_decide_eq_true (row_ok e1 8 (b := decide (PySem.W.nsIn K mainGlobals "bar" = some (some (.ref (fAd K ("bar", none)))))) rfl))
    (of_decide_eq_true (row_ok e1 9 (b := decide (PySem.W.nsIn K mainGlobals "_bars_as_row" = some (some (.ref (fAd K ("_bars_as_row", none)))))) rfl))
    (of_decide_eq_true (row_ok e1 10 (b := decide (PySem.W.nsIn K mainGlobals "_bars_as_ring" = some (some (.ref (fAd K ("_bars_as_ring", none)))))) rfl))
    (of_decide_eq_true (row_ok e1 11 (b := decide (PySem.W.nsIn K mainGlobals "right_bar" = some (some (.ref (fAd K ("right_bar", none)))))) rfl))
    (of_decide_eq_true (row_ok e1 12 (b := decide (PySem.W.nsIn K mainGlobals "_span_at" = some (some (.ref (fAd K ("_span_at", none)))))) rfl))
    (of_decide_eq_true (row_ok e1 13 (b := decide (PySem.W.nsIn K mainGlobals "paper" = some (some (.ref (fAd K ("paper", none)))))) rfl))
    (of_decide_eq_true (row_ok e1 14 (b := decide (PySem.W.nsIn K mainGlobals "_is_span" = some (some (.ref (fAd K ("_is_span", none)))))) rfl))
    (of_decide_eq_true (row_ok e1 15 (b := decide (PySem.W.nsIn K mainGlobals "_covers" = some (some (.ref (fAd K ("_covers", none)))))) rfl))
    (of_decide_eq_true (row_ok e1 16 (b := decide (PySem.W.nsIn K mainGlobals "_leads_on" = some (some (.ref (fAd K ("_leads_on", none)))))) rfl))
    (of_decide_eq_true (row_ok e1 17 (b := decide (PySem.W.nsIn K mainGlobals "right_paper" = some (some (.ref (fAd K ("right_paper", none)))))) rfl))
    (of_decide_eq_true (row_ok e1 18 (b := decide (PySem.W.nsIn K mainGlobals "_moves_from" = some (some (.ref (fAd K ("_moves_from", none)))))) rfl))
    (of_decide_eq_true (row_ok e1 19 (b := decide (PySem.W.nsIn K mainGlobals "first_leaving" = some (some (.ref (fAd K ("first_leaving", none)))))) rfl))
    (of_decide_eq_true (row_ok e1 20 (b := decide (PySem.W.nsIn K mainGlobals "_longer" = some (some (.ref (fAd K ("_longer", none)))))) rfl))
    (of_decide_eq_true (row_ok e1 21 (b := decide (PySem.W.nsIn K mainGlobals "_numbers" = some (some (.ref (fAd K ("_numbers", none)))))) rfl))
    (of_decide_eq_true (row_ok e1 22 (b := decide (PySem.W.nsIn K mainGlobals "count_staying" = some (some (.ref (fAd K ("count_staying", none)))))) rfl))
    (of_decide_eq_true (row_ok e1 23 (b := decide (PySem.W.nsIn K mainGlobals "_law_taken" = some (some (.ref (fAd K ("_law_taken", none)))))) rfl))
    (of_decide_eq_true (row_ok e1 24 (b := decide (PySem.W.nsIn K mainGlobals "_law_call" = some (some (.ref (fAd K ("_law_call", none)))))) rfl))
    (of_decide_eq_true (row_ok e2 0 (b := decide (PySem.W.nsIn K mainGlobals "_law_refused" = some (some (.ref (fAd K ("_law_refused", none)))))) rfl))
    (of_decide_eq_true (row_ok e2 1 (b := decide (PySem.W.nsIn K mainGlobals "law" = some (some (.ref (fAd K ("law", none)))))) rfl))
    (of_decide_eq_true (row_ok e2 2 (b := decide (PySem.W.nsIn K mainGlobals "Machine" = some (some (.ref (ga K "Machine"))))) rfl))
    (of_decide_eq_true (row_ok e2 3 (b := decide (PySem.W.nsIn K mainGlobals "BadBounds" = some (some (.ref (ga K "BadBounds"))))) rfl))
    (of_decide_eq_true (row_ok e2 4 (b := decide (PySem.W.nsIn K mainGlobals "BadNumber" = some (some (.ref (ga K "BadNumber"))))) rfl))
    (of_decide_eq_true (row_ok e2 5 (b := decide (PySem.W.nsIn K mainGlobals "TallyError" = some (some (.ref (ga K "TallyError"))))) rfl))
    g_MOST_STANDS
    g_MOST_GAIN
    (of_decide_eq_true (row_ok e2 8 (b := decide (PySem.W.nsIn K mainGlobals "LETTERS" = some (some (.ref (ga K "LETTERS"))))) rfl))
    g_ENDLESS
    g_MOST_NUMBER
    g_MOST_LENGTH
    g_MOST_SMALL_BOUND
    (of_decide_eq_true (row_ok e2 13 (b := decide (PySem.W.nsIn K mainGlobals "all" = some none)) rfl))
    (of_decide_eq_true (row_ok e2 14 (b := decide (PySem.W.nsIn K mainGlobals "bool" = some none)) rfl))
    (of_decide_eq_true (row_ok e2 15 (b := decide (PySem.W.nsIn K mainGlobals "enumerate" = some none)) rfl))
    (of_decide_eq_true (row_ok e2 16 (b := decide (PySem.W.nsIn K mainGlobals "int" = some none)) rfl))
    (of_decide_eq_true (row_ok e2 17 (b := decide (PySem.W.nsIn K mainGlobals "isinstance" = some none)) rfl))
    (of_decide_eq_true (row_ok e2 18 (b := decide (PySem.W.nsIn K mainGlobals "len" = some none)) rfl))
    (of_decide_eq_true (row_ok e2 19 (b := decide (PySem.W.nsIn K mainGlobals "list" = some none)) rfl))
    (of_decide_eq_true (row_ok e2 20 (b := decide (PySem.W.nsIn K mainGlobals "max" = some none)) rfl))
    (of_decide_eq_true (row_ok e2 21 (b := decide (PySem.W.nsIn K mainGlobals "min" = some none)) rfl))
    (of_decide_eq_true (row_ok e2 22 (b := decide (PySem.W.nsIn K mainGlobals "range" = some none)) rfl))
    (of_decide_eq_true (row_ok e2 23 (b := decide (PySem.W.nsIn K mainGlobals "sorted" = some none)) rfl))
    (of_decide_eq_true (row_ok e2 24 (b := decide (PySem.W.nsIn K mainGlobals "str" = some none)) rfl))
    (of_decide_eq_true (row_ok e3 0 (b := decide (PySem.W.nsIn K mainGlobals "sum" = some none)) rfl))
    (of_decide_eq_true (row_ok e3 1 (b := decide (PySem.W.nsIn K mainGlobals "tuple" = some none)) rfl))
    l_BadNumber_init
    c_BadNumber_init
    (of_decide_eq_true (row_ok e3 2 (b := decide (PySem.W.keepIn K (.ref (fAd K ("BadNumber", some "__init__"))) = true)) rfl))
    l_led_to
    c_led_to
    (of_decide_eq_true (row_ok e3 3 (b := decide (PySem.W.keepIn K (.ref (fAd K ("led_to", none))) = true)) rfl))
    l_longer_rows
    c_longer_rows
    (of_decide_eq_true (row_ok e3 4 (b := decide (PySem.W.keepIn K (.ref (fAd K ("longer_rows", none))) = true)) rfl))
    l_improved
    c_improved
    (of_decide_eq_true (row_ok e3 5 (b := decide (PySem.W.keepIn K (.ref (fAd K ("_improved", none))) = true)) rfl))
    l_best_rows
    c_best_rows
    (of_decide_eq_true (row_ok e3 6 (b := decide (PySem.W.keepIn K (.ref (fAd K ("best_rows", none))) = true)) rfl))
    l_shortest_rows
    c_shortest_rows
    (of_decide_eq_true (row_ok e3 7 (b := decide (PySem.W.keepIn K (.ref (fAd K ("shortest_rows", none))) = true)) rfl))
    l_best_loops
    c_best_loops
    (of_decide_eq_true (row_ok e3 8 (b := decide (PySem.W.keepIn K (.ref (fAd K ("best_loops", none))) = true)) rfl))
    l_best_of
    c_best_of
    (of_decide_eq_true (row_ok e3 9 (b := decide (PySem.W.keepIn K (.ref (fAd K ("_best_of", none))) = true)) rfl))
    l_least_and_greatest
    c_least_and_greatest
    (of_decide_eq_true (row_ok e3 10 (b := decide (PySem.W.keepIn K (.ref (fAd K ("least_and_greatest", none))) = true)) rfl))
    l_is_within
    c_is_within
    (of_decide_eq_true (row_ok e3 11 (b := decide (PySem.W.keepIn K (.ref (fAd K ("is_within", none))) = true)) rfl))
    l_first_row_out
    c_first_row_out
    (of_decide_eq_true (row_ok e3 12 (b := decide (PySem.W.keepIn K (.ref (fAd K ("first_row_out", none))) = true)) rfl))
    l_Machine_init
    c_Machine_init
    (of_decide_eq_true (row_ok e3 13 (b := decide (PySem.W.keepIn K (.ref (fAd K ("Machine", some "__init__"))) = true)) rfl))
    l_Machine_stands
    c_Machine_stands
    (of_decide_eq_true (row_ok e3 14 (b := decide (PySem.W.keepIn K (.ref (pgA K "Machine" "stands")) = true)) rfl))
    l_Machine_steps
    c_Machine_steps
    (of_decide_eq_true (row_ok e3 15 (b := decide (PySem.W.keepIn K (.ref (pgA K "Machine" "steps")) = true)) rfl))
    l_Machine_ends
    c_Machine_ends
    (of_decide_eq_true (row_ok e3 16 (b := decide (PySem.W.keepIn K (.ref (pgA K "Machine" "ends")) = true)) rfl))
    l_is_whole_number
    c_is_whole_number
    (of_decide_eq_true (row_ok e3 17 (b := decide (PySem.W.keepIn K (.ref (fAd K ("is_whole_number", none))) = true)) rfl))
    l_is_integer_between
    c_is_integer_between
    (of_decide_eq_true (row_ok e3 18 (b := decide (PySem.W.keepIn K (.ref (fAd K ("is_integer_between", none))) = true)) rfl))
    l_is_stand
    c_is_stand
    (of_decide_eq_true (row_ok e3 19 (b := decide (PySem.W.keepIn K (.ref (fAd K ("_is_stand", none))) = true)) rfl))
    l_check_stands
    c_check_stands
    (of_decide_eq_true (row_ok e3 20 (b := decide (PySem.W.keepIn K (.ref (fAd K ("_check_stands", none))) = true)) rfl))
    l_is_step
    c_is_step
    (of_decide_eq_true (row_ok e3 21 (b := decide (PySem.W.keepIn K (.ref (fAd K ("_is_step", none))) = true)) rfl))
    l_check_steps
    c_check_steps
    (of_decide_eq_true (row_ok e3 22 (b := decide (PySem.W.keepIn K (.ref (fAd K ("_check_steps", none))) = true)) rfl))
    l_is_ascending
    c_is_ascending
    (of_decide_eq_true (row_ok e3 23 (b := decide (PySem.W.keepIn K (.ref (fAd K ("is_ascending", none))) = true)) rfl))
    l_check_ends
    c_check_ends
    (of_decide_eq_true (row_ok e3 24 (b := decide (PySem.W.keepIn K (.ref (fAd K ("_check_ends", none))) = true)) rfl))
    l_check_machine
    c_check_machine
    (of_decide_eq_true (row_ok e4 0 (b := decide (PySem.W.keepIn K (.ref (fAd K ("check_machine", none))) = true)) rfl))
    l_check_stand
    c_check_stand
    (of_decide_eq_true (row_ok e4 1 (b := decide (PySem.W.keepIn K (.ref (fAd K ("check_stand", none))) = true)) rfl))
    l_check_number
    c_check_number
    (of_decide_eq_true (row_ok e4 2 (b := decide (PySem.W.keepIn K (.ref (fAd K ("check_number", none))) = true)) rfl))
    l_moves_of
    c_moves_of
    (of_decide_eq_true (row_ok e4 3 (b := decide (PySem.W.keepIn K (.ref (fAd K ("moves_of", none))) = true)) rfl))
    l_way
    c_way
    (of_decide_eq_true (row_ok e4 4 (b := decide (PySem.W.keepIn K (.ref (fAd K ("way", none))) = true)) rfl))
    l_gain_of_loop
    c_gain_of_loop
    (of_decide_eq_true (row_ok e4 5 (b := decide (PySem.W.keepIn K (.ref (fAd K ("gain_of_loop", none))) = true)) rfl))
    l_reached
    c_reached
    (of_decide_eq_true (row_ok e4 6 (b := decide (PySem.W.keepIn K (.ref (fAd K ("reached", none))) = true)) rfl))
    l_tally_at
    c_tally_at
    (of_decide_eq_true (row_ok e4 7 (b := decide (PySem.W.keepIn K (.ref (fAd K ("_tally_at", none))) = true)) rfl))
    l_greatest_at
    c_greatest_at
    (of_decide_eq_true (row_ok e4 8 (b := decide (PySem.W.keepIn K (.ref (fAd K ("greatest_at", none))) = true)) rfl))
    l_least_at
    c_least_at
    (of_decide_eq_true (row_ok e4 9 (b := decide (PySem.W.keepIn K (.ref (fAd K ("least_at", none))) = true)) rfl))
    l_bounds
    c_bounds
    (of_decide_eq_true (row_ok e4 10 (b := decide (PySem.W.keepIn K (.ref (fAd K ("bounds", none))) = true)) rfl))
    l_check_bounds
    c_check_bounds
    (of_decide_eq_true (row_ok e4 11 (b := decide (PySem.W.keepIn K (.ref (fAd K ("check_bounds", none))) = true)) rfl))
    l_stays
    c_stays
    (of_decide_eq_true (row_ok e4 12 (b := decide (PySem.W.keepIn K (.ref (fAd K ("stays", none))) = true)) rfl))
    l_ring
    c_ring
    (of_decide_eq_true (row_ok e4 13 (b := decide (PySem.W.keepIn K (.ref (fAd K ("_ring", none))) = true)) rfl))
    l_row_outside
    c_row_outside
    (of_decide_eq_true (row_ok e4 14 (b := decide (PySem.W.keepIn K (.ref (fAd K ("_row_outside", none))) = true)) rfl))
    l_bar
    c_bar
    (of_decide_eq_true (row_ok e4 15 (b := decide (PySem.W.keepIn K (.ref (fAd K ("bar", none))) = true)) rfl))
    l_bars_as_row
    c_bars_as_row
    (of_decide_eq_true (row_ok e4 16 (b := decide (PySem.W.keepIn K (.ref (fAd K ("_bars_as_row", none))) = true)) rfl))
    l_bars_as_ring
    c_bars_as_ring
    (of_decide_eq_true (row_ok e4 17 (b := decide (PySem.W.keepIn K (.ref (fAd K ("_bars_as_ring", none))) = true)) rfl))
    l_right_bar
    c_right_bar
    (of_decide_eq_true (row_ok e4 18 (b := decide (PySem.W.keepIn K (.ref (fAd K ("right_bar", none))) = true)) rfl))
    l_span_at
    c_span_at
    (of_decide_eq_true (row_ok e4 19 (b := decide (PySem.W.keepIn K (.ref (fAd K ("_span_at", none))) = true)) rfl))
    l_paper
    c_paper
    (of_decide_eq_true (row_ok e4 20 (b := decide (PySem.W.keepIn K (.ref (fAd K ("paper", none))) = true)) rfl))
    l_is_span
    c_is_span
    (of_decide_eq_true (row_ok e4 21 (b := decide (PySem.W.keepIn K (.ref (fAd K ("_is_span", none))) = true)) rfl))
    l_covers
    c_covers
    (of_decide_eq_true (row_ok e4 22 (b := decide (PySem.W.keepIn K (.ref (fAd K ("_covers", none))) = true)) rfl))
    l_leads_on
    c_leads_on
    (of_decide_eq_true (row_ok e4 23 (b := decide (PySem.W.keepIn K (.ref (fAd K ("_leads_on", none))) = true)) rfl))
    l_right_paper
    c_right_paper
    (of_decide_eq_true (row_ok e4 24 (b := decide (PySem.W.keepIn K (.ref (fAd K ("right_paper", none))) = true)) rfl))
    l_moves_from
    c_moves_from
    (of_decide_eq_true (row_ok e5 0 (b := decide (PySem.W.keepIn K (.ref (fAd K ("_moves_from", none))) = true)) rfl))
    l_first_leaving
    c_first_leaving
    (of_decide_eq_true (row_ok e5 1 (b := decide (PySem.W.keepIn K (.ref (fAd K ("first_leaving", none))) = true)) rfl))
    l_longer
    c_longer
    (of_decide_eq_true (row_ok e5 2 (b := decide (PySem.W.keepIn K (.ref (fAd K ("_longer", none))) = true)) rfl))
    l_numbers
    c_numbers
    (of_decide_eq_true (row_ok e5 3 (b := decide (PySem.W.keepIn K (.ref (fAd K ("_numbers", none))) = true)) rfl))
    l_count_staying
    c_count_staying
    (of_decide_eq_true (row_ok e5 4 (b := decide (PySem.W.keepIn K (.ref (fAd K ("count_staying", none))) = true)) rfl))
    l_law_taken
    c_law_taken
    (of_decide_eq_true (row_ok e5 5 (b := decide (PySem.W.keepIn K (.ref (fAd K ("_law_taken", none))) = true)) rfl))
    l_law_call
    c_law_call
    (of_decide_eq_true (row_ok e5 6 (b := decide (PySem.W.keepIn K (.ref (fAd K ("_law_call", none))) = true)) rfl))
    l_law_refused
    c_law_refused
    (of_decide_eq_true (row_ok e5 7 (b := decide (PySem.W.keepIn K (.ref (fAd K ("_law_refused", none))) = true)) rfl))
    l_law
    c_law
    (of_decide_eq_true (row_ok e5 8 (b := decide (PySem.W.keepIn K (.ref (fAd K ("law", none))) = true)) rfl))
    (of_decide_eq_true (row_ok e5 9 (b := decide (PySem.W.plainGet K (ga K "Machine") Str.empty = true)) rfl))
    (of_decide_eq_true (row_ok e5 10 (b := decide (PySem.W.hasDictIn K (ga K "Machine") = true)) rfl))
    (of_decide_eq_true (row_ok e5 11 (b := decide (PySem.W.plainOver K (ga K "Machine") = true)) rfl))
    (of_decide_eq_true (row_ok e5 12 (b := decide (PySem.W.findIn K (.ref (ga K "Machine")) "__setattr__" = some (some (.builtin "object.__setattr__")))) rfl))
    (of_decide_eq_true (row_ok e5 13 (b := decide (PySem.W.makesIn K (ga K "Machine") = true)) rfl))
    (of_decide_eq_true (row_ok e5 14 (b := decide (PySem.W.keepIn K (.ref (ga K "Machine")) = true)) rfl))
    (of_decide_eq_true (row_ok e5 15 (b := decide (PySem.W.findIn K (.ref (ga K "Machine")) "__init__" = some (some (.ref (fAd K ("Machine", some "__init__")))))) rfl))
    (of_decide_eq_true (row_ok e5 16 (b := decide (PySem.W.isFn K (.ref (fAd K ("Machine", some "__init__"))) = true)) rfl))
    (of_decide_eq_true (row_ok e5 17 (b := decide (PySem.W.findIn K (.ref (ga K "Machine")) "_stands" = some none)) rfl))
    (of_decide_eq_true (row_ok e5 18 (b := decide (PySem.W.findIn K (.ref (ga K "Machine")) "_steps" = some none)) rfl))
    (of_decide_eq_true (row_ok e5 19 (b := decide (PySem.W.findIn K (.ref (ga K "Machine")) "_ends" = some none)) rfl))
    (of_decide_eq_true (row_ok e5 20 (b := decide (PySem.W.findIn K (.ref (ga K "Machine")) "stands" = some (some (.ref (ma K (ga K "Machine") "stands"))))) rfl))
    (of_decide_eq_true (row_ok e5 21 (b := decide (PySem.W.specialIn K (.ref (ma K (ga K "Machine") "stands")) "__get__" = some (some (.builtin "property.__get__")))) rfl))
    (of_decide_eq_true (row_ok e5 22 (b := decide (PySem.W.takesIn K (.ref (ma K (ga K "Machine") "stands")) = some true)) rfl))
    pr_stands
    (of_decide_eq_true (row_ok e5 24 (b := decide (PySem.W.findIn K (.ref (ga K "Machine")) "steps" = some (some (.ref (ma K (ga K "Machine") "steps"))))) rfl))
    (of_decide_eq_true (row_ok e6 0 (b := decide (PySem.W.specialIn K (.ref (ma K (ga K "Machine") "steps")) "__get__" = some (some (.builtin "property.__get__")))) rfl))
    (of_decide_eq_true (row_ok e6 1 (b := decide (PySem.W.takesIn K (.ref (ma K (ga K "Machine") "steps")) = some true)) rfl))
    pr_steps
    (of_decide_eq_true (row_ok e6 3 (b := decide (PySem.W.findIn K (.ref (ga K "Machine")) "ends" = some (some (.ref (ma K (ga K "Machine") "ends"))))) rfl))
    (of_decide_eq_true (row_ok e6 4 (b := decide (PySem.W.specialIn K (.ref (ma K (ga K "Machine") "ends")) "__get__" = some (some (.builtin "property.__get__")))) rfl))
    (of_decide_eq_true (row_ok e6 5 (b := decide (PySem.W.takesIn K (.ref (ma K (ga K "Machine") "ends")) = some true)) rfl))
    pr_ends
    (of_decide_eq_true (row_ok e6 7 (b := decide (PySem.W.findIn K (.ref (ga K "Machine")) "__class__" = some (some (.builtin "object.__class__")))) rfl))
    (of_decide_eq_true (row_ok e6 8 (b := decide (PySem.W.specialIn K (.builtin "object.__class__") "__get__" = some (some (.builtin "getset_descriptor.__get__")))) rfl))
    (of_decide_eq_true (row_ok e6 9 (b := decide (PySem.W.takesIn K (.builtin "object.__class__") = some true)) rfl))
    (of_decide_eq_true (row_ok e6 10 (b := decide (PySem.W.mroIn K (ga K "Machine") (.type "object") = some true)) rfl))
    (of_decide_eq_true (row_ok e6 11 (b := decide (PySem.W.excIn K (ga K "BadBounds") [.type "ValueError", .type "Exception", .type "BaseException", .type "object"] "ValueError.__new__" = true)) rfl))
    (of_decide_eq_true (row_ok e6 12 (b := decide (PySem.W.keepIn K (.ref (ga K "BadBounds")) = true)) rfl))
    (of_decide_eq_true (row_ok e6 13 (b := decide (PySem.W.subIn K (.ref (ga K "BadBounds")) (.type "BaseException") = some true)) rfl))
    (of_decide_eq_true (row_ok e6 14 (b := decide (PySem.W.typeIn K (.ref (ga K "BadBounds")) = some (.type "type"))) rfl))
    (of_decide_eq_true (row_ok e6 15 (b := decide (PySem.W.isClsIn K (ga K "BadBounds") = true)) rfl))
    (of_decide_eq_true (row_ok e6 16 (b := decide (PySem.W.subIn K (.ref (ga K "BadBounds")) (.ref (ga K "BadBounds")) = some true)) rfl))
    (exclB_ok (row_ok e6 17 (b := exclB K (ga K "BadNumber")) rfl))
    (of_decide_eq_true (row_ok e6 18 (b := decide (PySem.W.findIn K (.ref (ga K "BadNumber")) "__setattr__" = some (some (.builtin "object.__setattr__")))) rfl))
    (of_decide_eq_true (row_ok e6 19 (b := decide (PySem.W.keepIn K (.ref (ga K "BadNumber")) = true)) rfl))
    (of_decide_eq_true (row_ok e6 20 (b := decide (PySem.W.subIn K (.ref (ga K "BadNumber")) (.type "BaseException") = some true)) rfl))
    (of_decide_eq_true (row_ok e6 21 (b := decide (PySem.W.typeIn K (.ref (ga K "BadNumber")) = some (.type "type"))) rfl))
    (of_decide_eq_true (row_ok e6 22 (b := decide (PySem.W.isClsIn K (ga K "BadNumber") = true)) rfl))
    (of_decide_eq_true (row_ok e6 23 (b := decide (PySem.W.subIn K (.ref (ga K "BadNumber")) (.ref (ga K "BadNumber")) = some true)) rfl))
    (of_decide_eq_true (row_ok e6 24 (b := decide (PySem.W.findIn K (.ref (ga K "BadNumber")) "__getattribute__" = some (some (.builtin "BaseException.__getattribute__")))) rfl))
    (of_decide_eq_true (row_ok e7 0 (b := decide (PySem.W.findIn K (.ref (ga K "BadNumber")) "__getattr__" = some none)) rfl))
    (of_decide_eq_true (row_ok e7 1 (b := decide (PySem.W.hasDictIn K (ga K "BadNumber") = true)) rfl))
    (of_decide_eq_true (row_ok e7 2 (b := decide (PySem.W.findIn K (.ref (ga K "BadNumber")) "__init__" = some (some (.ref (fAd K ("BadNumber", some "__init__")))))) rfl))
    (of_decide_eq_true (row_ok e7 3 (b := decide (PySem.W.typeIn K (.ref (fAd K ("BadNumber", some "__init__"))) = some (.type "function"))) rfl))
    (of_decide_eq_true (row_ok e7 4 (b := decide (PySem.W.findIn K (.ref (ga K "BadNumber")) "n" = some none)) rfl))
    (of_decide_eq_true (row_ok e7 5 (b := decide (PySem.W.readsIn K (ga K "TallyError") (.type "type") = true)) rfl))
    (fvB_ok (row_ok e7 6 (b := fvB K (ga K "TallyError")) rfl))
    (of_decide_eq_true (row_ok e7 7 (b := decide (PySem.W.specialIn K (.ref (ga K "TallyError")) "__getattribute__" = some (some (.builtin "type.__getattribute__")))) rfl))
    (fun H => tupB_ok (row_ok e7 8 (b := tupB K "LETTERS" [.str "a", .str "b", .str "c", .str "d"]) rfl) H)⟩
end
/-! ### the run of the top -/
open PySem.W PySem.Calls PyProof.Rows in
abbrev R : PySem.W.OpenRow := PySem.W.OpenLaw.row PySem.Challenge.rw_staytallies_k10_bounds_refused
abbrev qv : Program := PySem.W.view R.prog [74]
def lo_0 : List Str := ["TallyError", "BadStands", "BadSteps", "BadEnds", "BadMachine", "BadStand", "BadNumber", "BadBounds", "ENDLESS", "led_to", "longer_rows", "_improved", "best_rows", "shortest_rows", "best_loops", "_best_of", "least_and_greatest", "is_within", "first_row_out", "MOST_STANDS", "MOST_GAIN", "MOST_NUMBER", "LETTERS", "Machine", "is_whole_number", "is_integer_between", "_is_stand", "_check_stands", "_is_step", "_check_steps"]
def lo_1 : List Str := ["is_ascending", "_check_ends", "check_machine", "check_stand", "check_number", "moves_of", "way", "gain_of_loop", "reached", "_tally_at", "greatest_at", "least_at", "bounds", "MOST_SMALL_BOUND", "check_bounds", "stays", "_ring", "_row_outside", "bar", "_bars_as_row", "_bars_as_ring", "right_bar", "_span_at", "paper", "_is_span", "_covers", "_leads_on", "right_paper", "_moves_from", "first_leaving"]
def lo_2 : List Str := ["MOST_LENGTH", "_longer", "_numbers", "count_staying", "_law_taken", "_law_call", "_law_refused"]
def los : List Str := lo_0 ++ lo_1 ++ lo_2
abbrev hk : PySem.W.Hook := hookF nms 4 fns exs
def ob (s : PySem.W.SharedT) : AlF := obsF nms 4 fns exs (HandSHeadRun.getT s)
theorem ob_eq (s : PySem.W.SharedT) : ob s = hk.obs s.abs := by
  have e : HandSHeadRun.getT s = s.abs.heap.get? := funext (HandSHeadRun.getT_eq s)
  show obsF nms 4 fns exs (HandSHeadRun.getT s) = obsF nms 4 fns exs s.abs.heap.get?
  rw [e]
set_option maxHeartbeats 0 in
theorem run_at1 (w : World) : (HandSHeadRun.wholeF (fun p => HandSHeadRun.stepQ (HandSHeadRun.denQ HandSHeadRun.tabQ) p w) HandSHeadRun.fenceQ 20000 R.prog).map (fun x => HandSHeadRun.looksF R.prog x.1.heap x.2.abs) = some true := by
  kernel_rfl
set_option maxHeartbeats 0 in
theorem run_at2 (w : World) : (HandSHeadRun.wholeF (fun p => HandSHeadRun.stepQ (HandSHeadRun.denQ HandSHeadRun.tabQ) p w) HandSHeadRun.fenceQ 20000 R.prog).map (fun x => HandSHeadRun.seenQ qv los (PySem.importedModules R.prog.main.body) (fun s => PySem.W.xlAt qv [] s && PySem.W.recOk R.toRowW.records s) x.2.abs) = some (PySem.W.openGood qv los) := by
  kernel_rfl
set_option maxHeartbeats 0 in
theorem run_at3 (w : World) : (HandSHeadRun.wholeF (fun p => HandSHeadRun.stepQ (HandSHeadRun.denQ HandSHeadRun.tabQ) p w) HandSHeadRun.fenceQ 20000 R.prog).map (fun x => ob x.2) = some (valF fns) := by
  kernel_rfl
theorem run_at (w : World) : HandSHeadRun.RunEqI R qv hk ob 20000 los w := by
  delta HandSHeadRun.RunEqI
  exact map_join (run_at1 w) (run_at2 w) (run_at3 w)
theorem walkH {l : PySem.W.OpenLaw} {q : Program} {loose : List Str} {XP : (Str → Option Value) → Heap → Prop} {YP : World → Heap → Prop} {d : DefRec} (hn : l.most = some 63) (hdf : d.params.defaults = [])
    (F : ∀ (w : World) (mg : Str → Option Value) (fa : Addr) (h : Heap), YP w h → h.Ns mainGlobals mg → mg d.name = some (.ref fa) → ∃ K : PySem.W.Frag, K.In h ∧
      ∃ fd : FuncData, (∀ (s : Shared) (u : Value), BindsTo s fd ⟨[u], []⟩ [("_law_script", u)]) ∧ ∀ base : Heap, K.In base → base.Ns mainGlobals mg → FnOk l.prog w K mg base (L2.CX l.prog w) 20 fa fd ["_law_script"] (sp_law K)) :
    PySem.W.WalkO q loose XP YP l.row.toRowW d [] (fun f vs => PySem.call f vs) := by
  refine Att.attach_call hn hdf fun w s₀ s₁ mg mb fa o pm cd doc a vs ns G Y ho hd hcd hmg hobj hints hlen hg => ?_
  obtain ⟨K, KX, fd, hb, hF⟩ := F w mg fa _ Y G.T.g hmg
  refine law_call KX G.T.g G.T.b G.T.builtins G.T.nolimit hg hobj hints (Nat.le_trans hlen (by decide)) ⟨rfl, by decide, by decide⟩ hF hb (fun H hO hS => ⟨a, ns, rfl, by
      rcases hS with (e | ⟨o, e⟩) | h
      · rcases hO a with z | ⟨_, _, z⟩
        · rw [e] at z; cases z
        · rw [e] at z; cases z
      · exact .inl ⟨o, e⟩
      · exact .inr fun _ => .inr h, hlen, fun _ => rfl⟩) fun H e s' h => ?_
  obtain ⟨_, _, _, _, _, _, _, _, _, _, _, _, z⟩ := h
  exact z.elim
end Sv
open PySem PySem.W PySem.Calls PyProof.Rows in
set_option maxRecDepth 100000 in
set_option maxHeartbeats 0 in
theorem PySem.Challenge.cw_staytallies_k10_bounds_refused_holds : PySem.Challenge.rw_staytallies_k10_bounds_refused.Holds := by
  w_on; o_law
  refine HandSHeadRun.head_imp (r := Sv.R) (q := Sv.qv) (H := Sv.hk) (ob := Sv.ob) (M := 20000) (loose := Sv.los) (d := HandSHeadRun.topDef Sv.R.prog 74) (kwd := []) Sv.ob_eq Sv.run_at (by kernel_rfl) (by kernel_rfl) (by kernel_rfl) (by rfl) (by first | assumption | decide +kernel) (by decide +kernel) ⟨rfl, rfl, rfl, rfl, rfl, by decide +kernel⟩ ?hw ?hc
  case hw => w_witness2
  case hc =>
    refine Sv.walkH (l := PySem.Challenge.rw_staytallies_k10_bounds_refused) rfl (by kernel_rfl) ?F
    intro w mg fa h Y G hmg
    obtain ⟨K, KX, he, hf⟩ := Y
    have hmg2 : mg "law" = some (.ref fa) := by
      have e : (HandSHeadRun.topDef Sv.R.prog 74).name = ("law" : PySem.Str) := by kernel_rfl
      rw [← e]
      exact hmg
    obtain ⟨T⟩ := Sv.txt_of KX G he hf
    exact ⟨K, KX, Sv.all_mk T hmg2⟩
#print axioms PySem.Challenge.cw_staytallies_k10_bounds_refused_holds
