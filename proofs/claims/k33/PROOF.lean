import PyProof.Rows.All
import Wide.All
import OpenK.AllK
import Wide.FinOn
import HandS.ForMost
import HandS.ForExc
import HandS.Wide
import HandS.Property
import HandS.IsInst
import HandS.TupAny
import HandS.TupLe
import HandS.Style
import HandS.Flow
import HandS.ExcInit
import HandS.ExcField
import HandS.FStr
import HandS.OwnEq
import KE.GoesMore
import HandS.Codes
import HandS.DictComp
import HandS.Walk
import HandS.SortInts
import HandS.TupMul
import HandS.Gcd
import HandS.Head3
import HandS.HeadHook2
import PySem.Challenge.RW_staytallies_k33_errors_are_apart
set_option Elab.async false
set_option linter.all false
set_option maxRecDepth 100000
set_option maxHeartbeats 4000000
namespace Sv
open PySem L2
def top (i : Nat) : Stmt := PySem.Challenge.pw_staytallies_k33_errors_are_apart.main.body.getD i (.Pass ⟨0, 0, 0, 0⟩)
abbrev s_BadSteps_init : Stmt := (inClass (top 5) 0)
abbrev s_BadNumber_init : Stmt := (inClass (top 11) 0)
abbrev s_TooMany_init : Stmt := (inClass (top 14) 0)
abbrev s_InvalidText_init : Stmt := (inClass (top 15) 0)
abbrev s_Machine_init : Stmt := (inClass (top 30) 0)
abbrev s_Machine_stands : Stmt := (inClass (top 30) 1)
abbrev s_Machine_steps : Stmt := (inClass (top 30) 2)
abbrev s_is_whole_number : Stmt := (top 31)
abbrev s_is_integer_between : Stmt := (top 32)
abbrev s_is_stand : Stmt := (top 33)
abbrev s_check_stands : Stmt := (top 34)
abbrev s_is_step : Stmt := (top 35)
abbrev s_check_steps : Stmt := (top 36)
abbrev s_is_ascending : Stmt := (top 38)
abbrev s_check_ends : Stmt := (top 39)
abbrev s_check_machine : Stmt := (top 40)
abbrev s_check_stand : Stmt := (top 41)
abbrev s_check_number : Stmt := (top 42)
abbrev s_moves_of : Stmt := (top 43)
abbrev s_way : Stmt := (top 44)
abbrev s_behind : Stmt := (top 45)
abbrev s_reached : Stmt := (top 46)
abbrev s_tally_at : Stmt := (top 48)
abbrev s_greatest_at : Stmt := (top 49)
abbrev s_check_bounds : Stmt := (top 52)
abbrev s_stays : Stmt := (top 53)
abbrev s_tallies : Stmt := (top 59)
abbrev s_check_steps_mends : Stmt := (top 62)
abbrev s_mends : Stmt := (top 70)
abbrev s_mended : Stmt := (top 71)
abbrev s_Meter_init : Stmt := (inClass (top 73) 0)
abbrev s_Meter_read : Stmt := (inClass (top 73) 6)
abbrev s_LineReader_init : Stmt := (inClass (top 76) 0)
abbrev s_LineReader_is_over : Stmt := (inClass (top 76) 1)
abbrev s_LineReader_fail : Stmt := (inClass (top 76) 2)
abbrev s_LineReader_take : Stmt := (inClass (top 76) 3)
abbrev s_read_stands : Stmt := (top 77)
abbrev s_read : Stmt := (top 80)
abbrev s_law_taken : Stmt := (top 82)
abbrev s_law_call : Stmt := (top 83)
abbrev s_law_first : Stmt := (top 84)
abbrev s_law_second : Stmt := (top 85)
abbrev s_law : Stmt := (top 86)
theorem sc_BadSteps_init : FnScope ["self", "index"] ["self", "index"] (defScope s_BadSteps_init) := ⟨rfl, rfl, rfl, by decide +kernel, rfl, by decide +kernel, by decide +kernel⟩
theorem sc_BadNumber_init : FnScope ["self", "n"] ["self", "n"] (defScope s_BadNumber_init) := ⟨rfl, rfl, rfl, by decide +kernel, rfl, by decide +kernel, by decide +kernel⟩
theorem sc_TooMany_init : FnScope ["self", "most"] ["self", "most"] (defScope s_TooMany_init) := ⟨rfl, rfl, rfl, by decide +kernel, rfl, by decide +kernel, by decide +kernel⟩
theorem sc_InvalidText_init : FnScope ["self", "line", "word"] ["self", "line", "word"] (defScope s_InvalidText_init) := ⟨rfl, rfl, rfl, by decide +kernel, rfl, by decide +kernel, by decide +kernel⟩
theorem sc_Machine_init : FnScope ["self", "stands", "steps", "ends"] ["self", "stands", "steps", "ends"] (defScope s_Machine_init) := ⟨rfl, rfl, rfl, by decide +kernel, rfl, by decide +kernel, by decide +kernel⟩
theorem sc_Machine_stands : FnScope ["self"] ["self"] (defScope s_Machine_stands) := ⟨rfl, rfl, rfl, by decide +kernel, rfl, by decide +kernel, by decide +kernel⟩
theorem sc_Machine_steps : FnScope ["self"] ["self"] (defScope s_Machine_steps) := ⟨rfl, rfl, rfl, by decide +kernel, rfl, by decide +kernel, by decide +kernel⟩
theorem sc_is_whole_number : FnScope ["value"] ["value"] (defScope s_is_whole_number) := ⟨rfl, rfl, rfl, by decide +kernel, rfl, by decide +kernel, by decide +kernel⟩
theorem sc_is_integer_between : FnScope ["value", "least", "most"] ["value", "least", "most"] (defScope s_is_integer_between) := ⟨rfl, rfl, rfl, by decide +kernel, rfl, by decide +kernel, by decide +kernel⟩
theorem sc_is_stand : FnScope ["stands", "value"] ["stands", "value"] (defScope s_is_stand) := ⟨rfl, rfl, rfl, by decide +kernel, rfl, by decide +kernel, by decide +kernel⟩
theorem sc_check_stands : FnScope ["stands"] ["stands"] (defScope s_check_stands) := ⟨rfl, rfl, rfl, by decide +kernel, rfl, by decide +kernel, by decide +kernel⟩
theorem sc_is_step : FnScope ["stands", "value", "begun", "letter", "end", "gain"] ["stands", "value"] (defScope s_is_step) := ⟨rfl, rfl, rfl, by decide +kernel, rfl, by decide +kernel, by decide +kernel⟩
theorem sc_check_steps : FnScope ["stands", "steps", "index", "step"] ["stands", "steps"] (defScope s_check_steps) := ⟨rfl, rfl, rfl, by decide +kernel, rfl, by decide +kernel, by decide +kernel⟩
theorem sc_is_ascending : FnScope ["value", "many", "least", "number"] ["value", "many"] (defScope s_is_ascending) := ⟨rfl, rfl, rfl, by decide +kernel, rfl, by decide +kernel, by decide +kernel⟩
theorem sc_check_ends : FnScope ["stands", "ends"] ["stands", "ends"] (defScope s_check_ends) := ⟨rfl, rfl, rfl, by decide +kernel, rfl, by decide +kernel, by decide +kernel⟩
theorem sc_check_machine : FnScope ["value"] ["value"] (defScope s_check_machine) := ⟨rfl, rfl, rfl, by decide +kernel, rfl, by decide +kernel, by decide +kernel⟩
theorem sc_check_stand : FnScope ["machine", "value"] ["machine", "value"] (defScope s_check_stand) := ⟨rfl, rfl, rfl, by decide +kernel, rfl, by decide +kernel, by decide +kernel⟩
theorem sc_check_number : FnScope ["value", "least", "most"] ["value", "least", "most"] (defScope s_check_number) := ⟨rfl, rfl, rfl, by decide +kernel, rfl, by decide +kernel, by decide +kernel⟩
theorem sc_moves_of : FnScope ["machine", "begun", "letter", "end", "gain"] ["machine"] (defScope s_moves_of) := ⟨rfl, rfl, rfl, by decide +kernel, rfl, by decide +kernel, by decide +kernel⟩
theorem sc_way : FnScope ["machine", "stand", "value", "moves", "sums", "letter", "gain"] ["machine", "stand", "value"] (defScope s_way) := ⟨rfl, rfl, rfl, by decide +kernel, rfl, by decide +kernel, by decide +kernel⟩
theorem sc_behind : FnScope ["machine", "row", "place", "stand", "sums"] ["machine", "row"] (defScope s_behind) := ⟨rfl, rfl, rfl, by decide +kernel, rfl, by decide +kernel, by decide +kernel⟩
theorem sc_reached : FnScope ["machine"] ["machine"] (defScope s_reached) := ⟨rfl, rfl, rfl, by decide +kernel, rfl, by decide +kernel, by decide +kernel⟩
theorem sc_tally_at : FnScope ["machine", "stand", "sign", "best", "tally"] ["machine", "stand", "sign"] (defScope s_tally_at) := ⟨rfl, rfl, rfl, by decide +kernel, rfl, by decide +kernel, by decide +kernel⟩
theorem sc_greatest_at : FnScope ["machine", "stand"] ["machine", "stand"] (defScope s_greatest_at) := ⟨rfl, rfl, rfl, by decide +kernel, rfl, by decide +kernel, by decide +kernel⟩
theorem sc_check_bounds : FnScope ["low", "high", "most"] ["low", "high", "most"] (defScope s_check_bounds) := ⟨rfl, rfl, rfl, by decide +kernel, rfl, by decide +kernel, by decide +kernel⟩
theorem sc_stays : FnScope ["machine", "low", "high"] ["machine", "low", "high"] (defScope s_stays) := ⟨rfl, rfl, rfl, by decide +kernel, rfl, by decide +kernel, by decide +kernel⟩
theorem sc_tallies : FnScope ["machine", "length", "numbers", "tally"] ["machine", "length"] (defScope s_tallies) := ⟨rfl, rfl, rfl, by decide +kernel, rfl, by decide +kernel, by decide +kernel⟩
theorem sc_check_steps_mends : FnScope ["machine"] ["machine"] (defScope s_check_steps_mends) := ⟨rfl, rfl, rfl, by decide +kernel, rfl, by decide +kernel, by decide +kernel⟩
theorem sc_mends : FnScope ["machine", "places", "many", "found"] ["machine"] (defScope s_mends) := ⟨rfl, rfl, rfl, by decide +kernel, rfl, by decide +kernel, by decide +kernel⟩
theorem sc_mended : FnScope ["machine", "some", "numbers", "place", "begun", "letter", "end", "gain"] ["machine", "some"] (defScope s_mended) := ⟨rfl, rfl, rfl, by decide +kernel, rfl, by decide +kernel, by decide +kernel⟩
theorem sc_Meter_init : FnScope ["self", "machine"] ["self", "machine"] (defScope s_Meter_init) := ⟨rfl, rfl, rfl, by decide +kernel, rfl, by decide +kernel, by decide +kernel⟩
theorem sc_Meter_read : FnScope ["self", "letter", "stand", "tally", "span", "end", "gain"] ["self", "letter"] (defScope s_Meter_read) := ⟨rfl, rfl, rfl, by decide +kernel, rfl, by decide +kernel, by decide +kernel⟩
theorem sc_LineReader_init : FnScope ["self", "place", "words", "word"] ["self", "place", "words"] (defScope s_LineReader_init) := ⟨rfl, rfl, rfl, by decide +kernel, rfl, by decide +kernel, by decide +kernel⟩
theorem sc_LineReader_is_over : FnScope ["self"] ["self"] (defScope s_LineReader_is_over) := ⟨rfl, rfl, rfl, by decide +kernel, rfl, by decide +kernel, by decide +kernel⟩
theorem sc_LineReader_fail : FnScope ["self"] ["self"] (defScope s_LineReader_fail) := ⟨rfl, rfl, rfl, by decide +kernel, rfl, by decide +kernel, by decide +kernel⟩
theorem sc_LineReader_take : FnScope ["self", "words"] ["self", "words"] (defScope s_LineReader_take) := ⟨rfl, rfl, rfl, by decide +kernel, rfl, by decide +kernel, by decide +kernel⟩
theorem sc_read_stands : FnScope ["line", "stands"] ["line"] (defScope s_read_stands) := ⟨rfl, rfl, rfl, by decide +kernel, rfl, by decide +kernel, by decide +kernel⟩
theorem sc_read : FnScope ["text", "lines", "stands", "ends", "steps", "ahead", "line", "step", "index", "words"] ["text"] (defScope s_read) := ⟨rfl, rfl, rfl, by decide +kernel, rfl, by decide +kernel, by decide +kernel⟩
theorem sc_law_taken : FnScope ["_law_row", "_law_many", "_law_found", "_law_cell"] ["_law_row", "_law_many"] (defScope s_law_taken) := ⟨rfl, rfl, rfl, by decide +kernel, rfl, by decide +kernel, by decide +kernel⟩
theorem sc_law_call : FnScope ["_law_kind", "_law_machine", "_law_steps", "_law_stand"] ["_law_kind"] (defScope s_law_call) := ⟨rfl, rfl, rfl, by decide +kernel, rfl, by decide +kernel, by decide +kernel⟩
theorem sc_law_first : FnScope ["_law_kind", "_law_raised"] ["_law_kind"] (defScope s_law_first) := ⟨rfl, rfl, rfl, by decide +kernel, rfl, by decide +kernel, by decide +kernel⟩
theorem sc_law_second : FnScope ["_law_kind", "_law_raised"] ["_law_kind"] (defScope s_law_second) := ⟨rfl, rfl, rfl, by decide +kernel, rfl, by decide +kernel, by decide +kernel⟩
theorem sc_law : FnScope ["_law_script", "_law_row", "_law_turn", "_law_kind"] ["_law_script"] (defScope s_law) := ⟨rfl, rfl, rfl, by decide +kernel, rfl, by decide +kernel, by decide +kernel⟩
structure Txt (K : PySem.W.Frag) (mg : Str → Option Value) : Type where
  a_BadSteps_init : Addr
  fd_BadSteps_init : FuncData
  F_BadSteps_init : Fun K "__init__" "BadSteps.__init__" s_BadSteps_init a_BadSteps_init fd_BadSteps_init
  b_BadSteps_init : Binds K fd_BadSteps_init ["self", "index"] []
  k_BadSteps_init : PySem.W.keepIn K (.ref a_BadSteps_init) = true
  a_BadNumber_init : Addr
  fd_BadNumber_init : FuncData
  F_BadNumber_init : Fun K "__init__" "BadNumber.__init__" s_BadNumber_init a_BadNumber_init fd_BadNumber_init
  b_BadNumber_init : Binds K fd_BadNumber_init ["self", "n"] []
  k_BadNumber_init : PySem.W.keepIn K (.ref a_BadNumber_init) = true
  a_TooMany_init : Addr
  fd_TooMany_init : FuncData
  F_TooMany_init : Fun K "__init__" "TooMany.__init__" s_TooMany_init a_TooMany_init fd_TooMany_init
  b_TooMany_init : Binds K fd_TooMany_init ["self", "most"] []
  k_TooMany_init : PySem.W.keepIn K (.ref a_TooMany_init) = true
  a_InvalidText_init : Addr
  fd_InvalidText_init : FuncData
  F_InvalidText_init : Fun K "__init__" "InvalidText.__init__" s_InvalidText_init a_InvalidText_init fd_InvalidText_init
  b_InvalidText_init : Binds K fd_InvalidText_init ["self", "line", "word"] []
  k_InvalidText_init : PySem.W.keepIn K (.ref a_InvalidText_init) = true
  a_Machine_init : Addr
  fd_Machine_init : FuncData
  F_Machine_init : Fun K "__init__" "Machine.__init__" s_Machine_init a_Machine_init fd_Machine_init
  b_Machine_init : Binds K fd_Machine_init ["self", "stands", "steps", "ends"] []
  k_Machine_init : PySem.W.keepIn K (.ref a_Machine_init) = true
  a_Machine_stands : Addr
  fd_Machine_stands : FuncData
  F_Machine_stands : Fun K "stands" "Machine.stands" s_Machine_stands a_Machine_stands fd_Machine_stands
  b_Machine_stands : Binds K fd_Machine_stands ["self"] []
  k_Machine_stands : PySem.W.keepIn K (.ref a_Machine_stands) = true
  a_Machine_steps : Addr
  fd_Machine_steps : FuncData
  F_Machine_steps : Fun K "steps" "Machine.steps" s_Machine_steps a_Machine_steps fd_Machine_steps
  b_Machine_steps : Binds K fd_Machine_steps ["self"] []
  k_Machine_steps : PySem.W.keepIn K (.ref a_Machine_steps) = true
  a_is_whole_number : Addr
  fd_is_whole_number : FuncData
  F_is_whole_number : Fun K "is_whole_number" "is_whole_number" s_is_whole_number a_is_whole_number fd_is_whole_number
  b_is_whole_number : Binds K fd_is_whole_number ["value"] []
  k_is_whole_number : PySem.W.keepIn K (.ref a_is_whole_number) = true
  m_is_whole_number : mg "is_whole_number" = some (.ref a_is_whole_number)
  a_is_integer_between : Addr
  fd_is_integer_between : FuncData
  F_is_integer_between : Fun K "is_integer_between" "is_integer_between" s_is_integer_between a_is_integer_between fd_is_integer_between
  b_is_integer_between : Binds K fd_is_integer_between ["value", "least", "most"] []
  k_is_integer_between : PySem.W.keepIn K (.ref a_is_integer_between) = true
  m_is_integer_between : mg "is_integer_between" = some (.ref a_is_integer_between)
  a_is_stand : Addr
  fd_is_stand : FuncData
  F_is_stand : Fun K "_is_stand" "_is_stand" s_is_stand a_is_stand fd_is_stand
  b_is_stand : Binds K fd_is_stand ["stands", "value"] []
  k_is_stand : PySem.W.keepIn K (.ref a_is_stand) = true
  m_is_stand : mg "_is_stand" = some (.ref a_is_stand)
  a_check_stands : Addr
  fd_check_stands : FuncData
  F_check_stands : Fun K "_check_stands" "_check_stands" s_check_stands a_check_stands fd_check_stands
  b_check_stands : Binds K fd_check_stands ["stands"] []
  k_check_stands : PySem.W.keepIn K (.ref a_check_stands) = true
  m_check_stands : mg "_check_stands" = some (.ref a_check_stands)
  a_is_step : Addr
  fd_is_step : FuncData
  F_is_step : Fun K "_is_step" "_is_step" s_is_step a_is_step fd_is_step
  b_is_step : Binds K fd_is_step ["stands", "value"] []
  k_is_step : PySem.W.keepIn K (.ref a_is_step) = true
  m_is_step : mg "_is_step" = some (.ref a_is_step)
  a_check_steps : Addr
  fd_check_steps : FuncData
  F_check_steps : Fun K "_check_steps" "_check_steps" s_check_steps a_check_steps fd_check_steps
  b_check_steps : Binds K fd_check_steps ["stands", "steps"] []
  k_check_steps : PySem.W.keepIn K (.ref a_check_steps) = true
  m_check_steps : mg "check_steps_machines" = some (.ref a_check_steps)
  a_is_ascending : Addr
  fd_is_ascending : FuncData
  F_is_ascending : Fun K "is_ascending" "is_ascending" s_is_ascending a_is_ascending fd_is_ascending
  b_is_ascending : Binds K fd_is_ascending ["value", "many"] []
  k_is_ascending : PySem.W.keepIn K (.ref a_is_ascending) = true
  m_is_ascending : mg "is_ascending" = some (.ref a_is_ascending)
  a_check_ends : Addr
  fd_check_ends : FuncData
  F_check_ends : Fun K "_check_ends" "_check_ends" s_check_ends a_check_ends fd_check_ends
  b_check_ends : Binds K fd_check_ends ["stands", "ends"] []
  k_check_ends : PySem.W.keepIn K (.ref a_check_ends) = true
  m_check_ends : mg "_check_ends" = some (.ref a_check_ends)
  a_check_machine : Addr
  fd_check_machine : FuncData
  F_check_machine : Fun K "check_machine" "check_machine" s_check_machine a_check_machine fd_check_machine
  b_check_machine : Binds K fd_check_machine ["value"] []
  k_check_machine : PySem.W.keepIn K (.ref a_check_machine) = true
  m_check_machine : mg "check_machine" = some (.ref a_check_machine)
  a_check_stand : Addr
  fd_check_stand : FuncData
  F_check_stand : Fun K "check_stand" "check_stand" s_check_stand a_check_stand fd_check_stand
  b_check_stand : Binds K fd_check_stand ["machine", "value"] []
  k_check_stand : PySem.W.keepIn K (.ref a_check_stand) = true
  m_check_stand : mg "check_stand" = some (.ref a_check_stand)
  a_check_number : Addr
  fd_check_number : FuncData
  F_check_number : Fun K "check_number" "check_number" s_check_number a_check_number fd_check_number
  b_check_number : Binds K fd_check_number ["value", "least", "most"] []
  k_check_number : PySem.W.keepIn K (.ref a_check_number) = true
  m_check_number : mg "check_number" = some (.ref a_check_number)
  a_moves_of : Addr
  fd_moves_of : FuncData
  F_moves_of : Fun K "moves_of" "moves_of" s_moves_of a_moves_of fd_moves_of
  b_moves_of : Binds K fd_moves_of ["machine"] []
  k_moves_of : PySem.W.keepIn K (.ref a_moves_of) = true
  m_moves_of : mg "moves_of" = some (.ref a_moves_of)
  a_way : Addr
  fd_way : FuncData
  F_way : Fun K "way" "way" s_way a_way fd_way
  b_way : Binds K fd_way ["machine", "stand", "value"] []
  k_way : PySem.W.keepIn K (.ref a_way) = true
  m_way : mg "way" = some (.ref a_way)
  a_behind : Addr
  fd_behind : FuncData
  F_behind : Fun K "behind" "behind" s_behind a_behind fd_behind
  b_behind : Binds K fd_behind ["machine", "row"] []
  k_behind : PySem.W.keepIn K (.ref a_behind) = true
  m_behind : mg "behind" = some (.ref a_behind)
  a_reached : Addr
  fd_reached : FuncData
  F_reached : Fun K "reached" "reached" s_reached a_reached fd_reached
  b_reached : Binds K fd_reached ["machine"] []
  k_reached : PySem.W.keepIn K (.ref a_reached) = true
  m_reached : mg "reached" = some (.ref a_reached)
  a_tally_at : Addr
  fd_tally_at : FuncData
  F_tally_at : Fun K "_tally_at" "_tally_at" s_tally_at a_tally_at fd_tally_at
  b_tally_at : Binds K fd_tally_at ["machine", "stand", "sign"] []
  k_tally_at : PySem.W.keepIn K (.ref a_tally_at) = true
  m_tally_at : mg "_tally_at" = some (.ref a_tally_at)
  a_greatest_at : Addr
  fd_greatest_at : FuncData
  F_greatest_at : Fun K "greatest_at" "greatest_at" s_greatest_at a_greatest_at fd_greatest_at
  b_greatest_at : Binds K fd_greatest_at ["machine", "stand"] []
  k_greatest_at : PySem.W.keepIn K (.ref a_greatest_at) = true
  m_greatest_at : mg "greatest_at" = some (.ref a_greatest_at)
  a_check_bounds : Addr
  fd_check_bounds : FuncData
  F_check_bounds : Fun K "check_bounds" "check_bounds" s_check_bounds a_check_bounds fd_check_bounds
  b_check_bounds : Binds K fd_check_bounds ["low", "high", "most"] []
  k_check_bounds : PySem.W.keepIn K (.ref a_check_bounds) = true
  m_check_bounds : mg "check_bounds" = some (.ref a_check_bounds)
  a_stays : Addr
  fd_stays : FuncData
  F_stays : Fun K "stays" "stays" s_stays a_stays fd_stays
  b_stays : Binds K fd_stays ["machine", "low", "high"] []
  k_stays : PySem.W.keepIn K (.ref a_stays) = true
  m_stays : mg "stays" = some (.ref a_stays)
  a_tallies : Addr
  fd_tallies : FuncData
  F_tallies : Fun K "tallies" "tallies" s_tallies a_tallies fd_tallies
  b_tallies : Binds K fd_tallies ["machine", "length"] []
  k_tallies : PySem.W.keepIn K (.ref a_tallies) = true
  m_tallies : mg "tallies" = some (.ref a_tallies)
  a_check_steps_mends : Addr
  fd_check_steps_mends : FuncData
  F_check_steps_mends : Fun K "_check_steps" "_check_steps" s_check_steps_mends a_check_steps_mends fd_check_steps_mends
  b_check_steps_mends : Binds K fd_check_steps_mends ["machine"] []
  k_check_steps_mends : PySem.W.keepIn K (.ref a_check_steps_mends) = true
  m_check_steps_mends : mg "check_steps_mends" = some (.ref a_check_steps_mends)
  a_mends : Addr
  fd_mends : FuncData
  F_mends : Fun K "mends" "mends" s_mends a_mends fd_mends
  b_mends : Binds K fd_mends ["machine"] []
  k_mends : PySem.W.keepIn K (.ref a_mends) = true
  m_mends : mg "mends" = some (.ref a_mends)
  a_mended : Addr
  fd_mended : FuncData
  F_mended : Fun K "mended" "mended" s_mended a_mended fd_mended
  b_mended : Binds K fd_mended ["machine", "some"] []
  k_mended : PySem.W.keepIn K (.ref a_mended) = true
  m_mended : mg "mended" = some (.ref a_mended)
  a_Meter_init : Addr
  fd_Meter_init : FuncData
  F_Meter_init : Fun K "__init__" "Meter.__init__" s_Meter_init a_Meter_init fd_Meter_init
  b_Meter_init : Binds K fd_Meter_init ["self", "machine"] []
  k_Meter_init : PySem.W.keepIn K (.ref a_Meter_init) = true
  a_Meter_read : Addr
  fd_Meter_read : FuncData
  F_Meter_read : Fun K "read" "Meter.read" s_Meter_read a_Meter_read fd_Meter_read
  b_Meter_read : Binds K fd_Meter_read ["self", "letter"] []
  k_Meter_read : PySem.W.keepIn K (.ref a_Meter_read) = true
  a_LineReader_init : Addr
  fd_LineReader_init : FuncData
  F_LineReader_init : Fun K "__init__" "LineReader.__init__" s_LineReader_init a_LineReader_init fd_LineReader_init
  b_LineReader_init : Binds K fd_LineReader_init ["self", "place", "words"] []
  k_LineReader_init : PySem.W.keepIn K (.ref a_LineReader_init) = true
  a_LineReader_is_over : Addr
  fd_LineReader_is_over : FuncData
  F_LineReader_is_over : Fun K "is_over" "LineReader.is_over" s_LineReader_is_over a_LineReader_is_over fd_LineReader_is_over
  b_LineReader_is_over : Binds K fd_LineReader_is_over ["self"] []
  k_LineReader_is_over : PySem.W.keepIn K (.ref a_LineReader_is_over) = true
  a_LineReader_fail : Addr
  fd_LineReader_fail : FuncData
  F_LineReader_fail : Fun K "fail" "LineReader.fail" s_LineReader_fail a_LineReader_fail fd_LineReader_fail
  b_LineReader_fail : Binds K fd_LineReader_fail ["self"] []
  k_LineReader_fail : PySem.W.keepIn K (.ref a_LineReader_fail) = true
  a_LineReader_take : Addr
  fd_LineReader_take : FuncData
  F_LineReader_take : Fun K "take" "LineReader.take" s_LineReader_take a_LineReader_take fd_LineReader_take
  b_LineReader_take : Binds K fd_LineReader_take ["self", "words"] []
  k_LineReader_take : PySem.W.keepIn K (.ref a_LineReader_take) = true
  a_read_stands : Addr
  fd_read_stands : FuncData
  F_read_stands : Fun K "_read_stands" "_read_stands" s_read_stands a_read_stands fd_read_stands
  b_read_stands : Binds K fd_read_stands ["line"] []
  k_read_stands : PySem.W.keepIn K (.ref a_read_stands) = true
  m_read_stands : mg "_read_stands" = some (.ref a_read_stands)
  a_read : Addr
  fd_read : FuncData
  F_read : Fun K "read" "read" s_read a_read fd_read
  b_read : Binds K fd_read ["text"] []
  k_read : PySem.W.keepIn K (.ref a_read) = true
  m_read : mg "read" = some (.ref a_read)
  a_law_taken : Addr
  fd_law_taken : FuncData
  F_law_taken : Fun K "_law_taken" "_law_taken" s_law_taken a_law_taken fd_law_taken
  b_law_taken : Binds K fd_law_taken ["_law_row", "_law_many"] []
  k_law_taken : PySem.W.keepIn K (.ref a_law_taken) = true
  m_law_taken : mg "_law_taken" = some (.ref a_law_taken)
  a_law_call : Addr
  fd_law_call : FuncData
  F_law_call : Fun K "_law_call" "_law_call" s_law_call a_law_call fd_law_call
  b_law_call : Binds K fd_law_call ["_law_kind"] []
  k_law_call : PySem.W.keepIn K (.ref a_law_call) = true
  m_law_call : mg "_law_call" = some (.ref a_law_call)
  a_law_first : Addr
  fd_law_first : FuncData
  F_law_first : Fun K "_law_first" "_law_first" s_law_first a_law_first fd_law_first
  b_law_first : Binds K fd_law_first ["_law_kind"] []
  k_law_first : PySem.W.keepIn K (.ref a_law_first) = true
  m_law_first : mg "_law_first" = some (.ref a_law_first)
  a_law_second : Addr
  fd_law_second : FuncData
  F_law_second : Fun K "_law_second" "_law_second" s_law_second a_law_second fd_law_second
  b_law_second : Binds K fd_law_second ["_law_kind"] []
  k_law_second : PySem.W.keepIn K (.ref a_law_second) = true
  m_law_second : mg "_law_second" = some (.ref a_law_second)
  a_law : Addr
  fd_law : FuncData
  F_law : Fun K "law" "law" s_law a_law fd_law
  b_law : Binds K fd_law ["_law_script"] []
  k_law : PySem.W.keepIn K (.ref a_law) = true
  m_law : mg "law" = some (.ref a_law)
  c_Machine : Addr
  cl_Machine : Cls K c_Machine
  m_Machine : mg "Machine" = some (.ref c_Machine)
  mk_Machine : Mk K c_Machine a_Machine_init
  n__stands : NoAttr K c_Machine "_stands"
  n__steps : NoAttr K c_Machine "_steps"
  n__ends : NoAttr K c_Machine "_ends"
  q_stands : Addr
  p_stands : PropOf K c_Machine "stands" q_stands a_Machine_stands
  q_steps : Addr
  p_steps : PropOf K c_Machine "steps" q_steps a_Machine_steps
  i1_Machine : PySem.W.findIn K (.ref c_Machine) "__class__" = some (some (.builtin "object.__class__"))
  i2_Machine : PySem.W.specialIn K (.builtin "object.__class__") "__get__" = some (some (.builtin "getset_descriptor.__get__"))
  i3_Machine : PySem.W.takesIn K (.builtin "object.__class__") = some true
  i4_Machine : PySem.W.mroIn K c_Machine (.type "object") = some true
  j1_Machine : PySem.W.isClsIn K c_Machine = true
  j2_Machine : PySem.W.typeIn K (.ref c_Machine) = some (.type "type")
  c_Meter : Addr
  cl_Meter : Cls K c_Meter
  m_Meter : mg "Meter" = some (.ref c_Meter)
  mk_Meter : Mk K c_Meter a_Meter_init
  n__machine : NoAttr K c_Meter "_machine"
  n__moves : NoAttr K c_Meter "_moves"
  n__row : NoAttr K c_Meter "_row"
  n__places : NoAttr K c_Meter "_places"
  h_Meter_read : Meth K c_Meter "read" a_Meter_read
  c_LineReader : Addr
  cl_LineReader : Cls K c_LineReader
  m_LineReader : mg "LineReader" = some (.ref c_LineReader)
  mk_LineReader : Mk K c_LineReader a_LineReader_init
  n__place : NoAttr K c_LineReader "_place"
  n__words : NoAttr K c_LineReader "_words"
  n__taken : NoAttr K c_LineReader "_taken"
  h_LineReader_is_over : Meth K c_LineReader "is_over" a_LineReader_is_over
  h_LineReader_fail : Meth K c_LineReader "fail" a_LineReader_fail
  h_LineReader_take : Meth K c_LineReader "take" a_LineReader_take
  c_BadStands : Addr
  m_BadStands : mg "BadStands" = some (.ref c_BadStands)
  x_BadStands : PySem.W.excIn K c_BadStands [.type "ValueError", .type "Exception", .type "BaseException", .type "object"] "ValueError.__new__" = true
  k_BadStands : PySem.W.keepIn K (.ref c_BadStands) = true
  b_BadStands : PySem.W.subIn K (.ref c_BadStands) (.type "BaseException") = some true
  t_BadStands : PySem.W.typeIn K (.ref c_BadStands) = some (.type "type")
  e_BadStands : PySem.W.exmOne K (.ref c_BadStands) (.ref c_BadStands) = some true
  c_BadEnds : Addr
  m_BadEnds : mg "BadEnds" = some (.ref c_BadEnds)
  x_BadEnds : PySem.W.excIn K c_BadEnds [.type "ValueError", .type "Exception", .type "BaseException", .type "object"] "ValueError.__new__" = true
  k_BadEnds : PySem.W.keepIn K (.ref c_BadEnds) = true
  b_BadEnds : PySem.W.subIn K (.ref c_BadEnds) (.type "BaseException") = some true
  t_BadEnds : PySem.W.typeIn K (.ref c_BadEnds) = some (.type "type")
  e_BadEnds : PySem.W.exmOne K (.ref c_BadEnds) (.ref c_BadEnds) = some true
  c_BadMachine : Addr
  m_BadMachine : mg "BadMachine" = some (.ref c_BadMachine)
  x_BadMachine : PySem.W.excIn K c_BadMachine [.type "ValueError", .type "Exception", .type "BaseException", .type "object"] "ValueError.__new__" = true
  k_BadMachine : PySem.W.keepIn K (.ref c_BadMachine) = true
  b_BadMachine : PySem.W.subIn K (.ref c_BadMachine) (.type "BaseException") = some true
  t_BadMachine : PySem.W.typeIn K (.ref c_BadMachine) = some (.type "type")
  e_BadMachine : PySem.W.exmOne K (.ref c_BadMachine) (.ref c_BadMachine) = some true
  c_BadStand : Addr
  m_BadStand : mg "BadStand" = some (.ref c_BadStand)
  x_BadStand : PySem.W.excIn K c_BadStand [.type "ValueError", .type "Exception", .type "BaseException", .type "object"] "ValueError.__new__" = true
  k_BadStand : PySem.W.keepIn K (.ref c_BadStand) = true
  b_BadStand : PySem.W.subIn K (.ref c_BadStand) (.type "BaseException") = some true
  t_BadStand : PySem.W.typeIn K (.ref c_BadStand) = some (.type "type")
  e_BadStand : PySem.W.exmOne K (.ref c_BadStand) (.ref c_BadStand) = some true
  c_BadRow : Addr
  m_BadRow : mg "BadRow" = some (.ref c_BadRow)
  x_BadRow : PySem.W.excIn K c_BadRow [.type "ValueError", .type "Exception", .type "BaseException", .type "object"] "ValueError.__new__" = true
  k_BadRow : PySem.W.keepIn K (.ref c_BadRow) = true
  b_BadRow : PySem.W.subIn K (.ref c_BadRow) (.type "BaseException") = some true
  t_BadRow : PySem.W.typeIn K (.ref c_BadRow) = some (.type "type")
  e_BadRow : PySem.W.exmOne K (.ref c_BadRow) (.ref c_BadRow) = some true
  c_BadLetter : Addr
  m_BadLetter : mg "BadLetter" = some (.ref c_BadLetter)
  x_BadLetter : PySem.W.excIn K c_BadLetter [.type "ValueError", .type "Exception", .type "BaseException", .type "object"] "ValueError.__new__" = true
  k_BadLetter : PySem.W.keepIn K (.ref c_BadLetter) = true
  b_BadLetter : PySem.W.subIn K (.ref c_BadLetter) (.type "BaseException") = some true
  t_BadLetter : PySem.W.typeIn K (.ref c_BadLetter) = some (.type "type")
  e_BadLetter : PySem.W.exmOne K (.ref c_BadLetter) (.ref c_BadLetter) = some true
  c_BadBounds : Addr
  m_BadBounds : mg "BadBounds" = some (.ref c_BadBounds)
  x_BadBounds : PySem.W.excIn K c_BadBounds [.type "ValueError", .type "Exception", .type "BaseException", .type "object"] "ValueError.__new__" = true
  k_BadBounds : PySem.W.keepIn K (.ref c_BadBounds) = true
  b_BadBounds : PySem.W.subIn K (.ref c_BadBounds) (.type "BaseException") = some true
  t_BadBounds : PySem.W.typeIn K (.ref c_BadBounds) = some (.type "type")
  e_BadBounds : PySem.W.exmOne K (.ref c_BadBounds) (.ref c_BadBounds) = some true
  c_BadSet : Addr
  m_BadSet : mg "BadSet" = some (.ref c_BadSet)
  x_BadSet : PySem.W.excIn K c_BadSet [.type "ValueError", .type "Exception", .type "BaseException", .type "object"] "ValueError.__new__" = true
  k_BadSet : PySem.W.keepIn K (.ref c_BadSet) = true
  b_BadSet : PySem.W.subIn K (.ref c_BadSet) (.type "BaseException") = some true
  t_BadSet : PySem.W.typeIn K (.ref c_BadSet) = some (.type "type")
  e_BadSet : PySem.W.exmOne K (.ref c_BadSet) (.ref c_BadSet) = some true
  c_BadSteps : Addr
  m_BadSteps : mg "BadSteps" = some (.ref c_BadSteps)
  o_BadSteps : OexC K c_BadSteps
  xf_BadSteps : XfC K c_BadSteps
  ie_BadSteps : PySem.W.findIn K (.ref c_BadSteps) "__init__" = some (some (.ref a_BadSteps_init))
  ti_BadSteps : PySem.W.typeIn K (.ref a_BadSteps_init) = some (.type "function")
  e_BadSteps : PySem.W.exmOne K (.ref c_BadSteps) (.ref c_BadSteps) = some true
  no_BadSteps_index : PySem.W.findIn K (.ref c_BadSteps) "index" = some none
  c_BadNumber : Addr
  m_BadNumber : mg "BadNumber" = some (.ref c_BadNumber)
  o_BadNumber : OexC K c_BadNumber
  xf_BadNumber : XfC K c_BadNumber
  ie_BadNumber : PySem.W.findIn K (.ref c_BadNumber) "__init__" = some (some (.ref a_BadNumber_init))
  ti_BadNumber : PySem.W.typeIn K (.ref a_BadNumber_init) = some (.type "function")
  e_BadNumber : PySem.W.exmOne K (.ref c_BadNumber) (.ref c_BadNumber) = some true
  no_BadNumber_n : PySem.W.findIn K (.ref c_BadNumber) "n" = some none
  c_TooMany : Addr
  m_TooMany : mg "TooMany" = some (.ref c_TooMany)
  o_TooMany : OexC K c_TooMany
  xf_TooMany : XfC K c_TooMany
  ie_TooMany : PySem.W.findIn K (.ref c_TooMany) "__init__" = some (some (.ref a_TooMany_init))
  ti_TooMany : PySem.W.typeIn K (.ref a_TooMany_init) = some (.type "function")
  e_TooMany : PySem.W.exmOne K (.ref c_TooMany) (.ref c_TooMany) = some true
  no_TooMany_most : PySem.W.findIn K (.ref c_TooMany) "most" = some none
  c_InvalidText : Addr
  m_InvalidText : mg "InvalidText" = some (.ref c_InvalidText)
  o_InvalidText : OexC K c_InvalidText
  xf_InvalidText : XfC K c_InvalidText
  ie_InvalidText : PySem.W.findIn K (.ref c_InvalidText) "__init__" = some (some (.ref a_InvalidText_init))
  ti_InvalidText : PySem.W.typeIn K (.ref a_InvalidText_init) = some (.type "function")
  e_InvalidText : PySem.W.exmOne K (.ref c_InvalidText) (.ref c_InvalidText) = some true
  no_InvalidText_line : PySem.W.findIn K (.ref c_InvalidText) "line" = some none
  no_InvalidText_word : PySem.W.findIn K (.ref c_InvalidText) "word" = some none
  c_TallyError : Addr
  m_TallyError : mg "TallyError" = some (.ref c_TallyError)
  rd_TallyError : PySem.W.readsIn K c_TallyError (.type "type") = true
  fv_TallyError : PySem.W.findCls K (.ref c_TallyError) (.type "type") "__init__" = some (.val (.builtin "ValueError.__init__"))
  sg_TallyError : PySem.W.specialIn K (.ref c_TallyError) "__getattribute__" = some (some (.builtin "type.__getattribute__"))
  er_BadBounds_BadEnds : PySem.W.exmOne K (.ref c_BadBounds) (.ref c_BadEnds) = some false
  er_BadBounds_BadLetter : PySem.W.exmOne K (.ref c_BadBounds) (.ref c_BadLetter) = some false
  er_BadBounds_BadMachine : PySem.W.exmOne K (.ref c_BadBounds) (.ref c_BadMachine) = some false
  er_BadBounds_BadNumber : PySem.W.exmOne K (.ref c_BadBounds) (.ref c_BadNumber) = some false
  er_BadBounds_BadRow : PySem.W.exmOne K (.ref c_BadBounds) (.ref c_BadRow) = some false
  er_BadBounds_BadStand : PySem.W.exmOne K (.ref c_BadBounds) (.ref c_BadStand) = some false
  er_BadBounds_BadStands : PySem.W.exmOne K (.ref c_BadBounds) (.ref c_BadStands) = some false
  er_BadBounds_BadSteps : PySem.W.exmOne K (.ref c_BadBounds) (.ref c_BadSteps) = some false
  er_BadBounds_TallyError : PySem.W.exmOne K (.ref c_BadBounds) (.ref c_TallyError) = some true
  er_BadEnds_BadBounds : PySem.W.exmOne K (.ref c_BadEnds) (.ref c_BadBounds) = some false
  er_BadEnds_BadLetter : PySem.W.exmOne K (.ref c_BadEnds) (.ref c_BadLetter) = some false
  er_BadEnds_BadNumber : PySem.W.exmOne K (.ref c_BadEnds) (.ref c_BadNumber) = some false
  er_BadEnds_BadSet : PySem.W.exmOne K (.ref c_BadEnds) (.ref c_BadSet) = some false
  er_BadEnds_BadStands : PySem.W.exmOne K (.ref c_BadEnds) (.ref c_BadStands) = some false
  er_BadEnds_BadSteps : PySem.W.exmOne K (.ref c_BadEnds) (.ref c_BadSteps) = some false
  er_BadEnds_InvalidText : PySem.W.exmOne K (.ref c_BadEnds) (.ref c_InvalidText) = some false
  er_BadEnds_TallyError : PySem.W.exmOne K (.ref c_BadEnds) (.ref c_TallyError) = some true
  er_BadEnds_TooMany : PySem.W.exmOne K (.ref c_BadEnds) (.ref c_TooMany) = some false
  er_BadLetter_BadEnds : PySem.W.exmOne K (.ref c_BadLetter) (.ref c_BadEnds) = some false
  er_BadLetter_BadMachine : PySem.W.exmOne K (.ref c_BadLetter) (.ref c_BadMachine) = some false
  er_BadLetter_BadRow : PySem.W.exmOne K (.ref c_BadLetter) (.ref c_BadRow) = some false
  er_BadLetter_BadStand : PySem.W.exmOne K (.ref c_BadLetter) (.ref c_BadStand) = some false
  er_BadLetter_BadStands : PySem.W.exmOne K (.ref c_BadLetter) (.ref c_BadStands) = some false
  er_BadLetter_BadSteps : PySem.W.exmOne K (.ref c_BadLetter) (.ref c_BadSteps) = some false
  er_BadLetter_TallyError : PySem.W.exmOne K (.ref c_BadLetter) (.ref c_TallyError) = some true
  er_BadMachine_BadBounds : PySem.W.exmOne K (.ref c_BadMachine) (.ref c_BadBounds) = some false
  er_BadMachine_BadEnds : PySem.W.exmOne K (.ref c_BadMachine) (.ref c_BadEnds) = some false
  er_BadMachine_BadLetter : PySem.W.exmOne K (.ref c_BadMachine) (.ref c_BadLetter) = some false
  er_BadMachine_BadNumber : PySem.W.exmOne K (.ref c_BadMachine) (.ref c_BadNumber) = some false
  er_BadMachine_BadSet : PySem.W.exmOne K (.ref c_BadMachine) (.ref c_BadSet) = some false
  er_BadMachine_BadStands : PySem.W.exmOne K (.ref c_BadMachine) (.ref c_BadStands) = some false
  er_BadMachine_BadSteps : PySem.W.exmOne K (.ref c_BadMachine) (.ref c_BadSteps) = some false
  er_BadMachine_InvalidText : PySem.W.exmOne K (.ref c_BadMachine) (.ref c_InvalidText) = some false
  er_BadMachine_TallyError : PySem.W.exmOne K (.ref c_BadMachine) (.ref c_TallyError) = some true
  er_BadMachine_TooMany : PySem.W.exmOne K (.ref c_BadMachine) (.ref c_TooMany) = some false
  er_BadNumber_BadEnds : PySem.W.exmOne K (.ref c_BadNumber) (.ref c_BadEnds) = some false
  er_BadNumber_BadLetter : PySem.W.exmOne K (.ref c_BadNumber) (.ref c_BadLetter) = some false
  er_BadNumber_BadMachine : PySem.W.exmOne K (.ref c_BadNumber) (.ref c_BadMachine) = some false
  er_BadNumber_BadRow : PySem.W.exmOne K (.ref c_BadNumber) (.ref c_BadRow) = some false
  er_BadNumber_BadStand : PySem.W.exmOne K (.ref c_BadNumber) (.ref c_BadStand) = some false
  er_BadNumber_BadStands : PySem.W.exmOne K (.ref c_BadNumber) (.ref c_BadStands) = some false
  er_BadNumber_BadSteps : PySem.W.exmOne K (.ref c_BadNumber) (.ref c_BadSteps) = some false
  er_BadNumber_TallyError : PySem.W.exmOne K (.ref c_BadNumber) (.ref c_TallyError) = some true
  er_BadRow_BadBounds : PySem.W.exmOne K (.ref c_BadRow) (.ref c_BadBounds) = some false
  er_BadRow_BadEnds : PySem.W.exmOne K (.ref c_BadRow) (.ref c_BadEnds) = some false
  er_BadRow_BadLetter : PySem.W.exmOne K (.ref c_BadRow) (.ref c_BadLetter) = some false
  er_BadRow_BadMachine : PySem.W.exmOne K (.ref c_BadRow) (.ref c_BadMachine) = some false
  er_BadRow_BadNumber : PySem.W.exmOne K (.ref c_BadRow) (.ref c_BadNumber) = some false
  er_BadRow_BadSet : PySem.W.exmOne K (.ref c_BadRow) (.ref c_BadSet) = some false
  er_BadRow_BadStand : PySem.W.exmOne K (.ref c_BadRow) (.ref c_BadStand) = some false
  er_BadRow_BadStands : PySem.W.exmOne K (.ref c_BadRow) (.ref c_BadStands) = some false
  er_BadRow_BadSteps : PySem.W.exmOne K (.ref c_BadRow) (.ref c_BadSteps) = some false
  er_BadRow_InvalidText : PySem.W.exmOne K (.ref c_BadRow) (.ref c_InvalidText) = some false
  er_BadRow_TallyError : PySem.W.exmOne K (.ref c_BadRow) (.ref c_TallyError) = some true
  er_BadRow_TooMany : PySem.W.exmOne K (.ref c_BadRow) (.ref c_TooMany) = some false
  er_BadSet_BadBounds : PySem.W.exmOne K (.ref c_BadSet) (.ref c_BadBounds) = some false
  er_BadSet_BadEnds : PySem.W.exmOne K (.ref c_BadSet) (.ref c_BadEnds) = some false
  er_BadSet_BadLetter : PySem.W.exmOne K (.ref c_BadSet) (.ref c_BadLetter) = some false
  er_BadSet_BadMachine : PySem.W.exmOne K (.ref c_BadSet) (.ref c_BadMachine) = some false
  er_BadSet_BadNumber : PySem.W.exmOne K (.ref c_BadSet) (.ref c_BadNumber) = some false
  er_BadSet_BadRow : PySem.W.exmOne K (.ref c_BadSet) (.ref c_BadRow) = some false
  er_BadSet_BadStand : PySem.W.exmOne K (.ref c_BadSet) (.ref c_BadStand) = some false
  er_BadSet_BadStands : PySem.W.exmOne K (.ref c_BadSet) (.ref c_BadStands) = some false
  er_BadSet_BadSteps : PySem.W.exmOne K (.ref c_BadSet) (.ref c_BadSteps) = some false
  er_BadSet_TallyError : PySem.W.exmOne K (.ref c_BadSet) (.ref c_TallyError) = some true
  er_BadStand_BadBounds : PySem.W.exmOne K (.ref c_BadStand) (.ref c_BadBounds) = some false
  er_BadStand_BadEnds : PySem.W.exmOne K (.ref c_BadStand) (.ref c_BadEnds) = some false
  er_BadStand_BadLetter : PySem.W.exmOne K (.ref c_BadStand) (.ref c_BadLetter) = some false
  er_BadStand_BadMachine : PySem.W.exmOne K (.ref c_BadStand) (.ref c_BadMachine) = some false
  er_BadStand_BadNumber : PySem.W.exmOne K (.ref c_BadStand) (.ref c_BadNumber) = some false
  er_BadStand_BadSet : PySem.W.exmOne K (.ref c_BadStand) (.ref c_BadSet) = some false
  er_BadStand_BadStands : PySem.W.exmOne K (.ref c_BadStand) (.ref c_BadStands) = some false
  er_BadStand_BadSteps : PySem.W.exmOne K (.ref c_BadStand) (.ref c_BadSteps) = some false
  er_BadStand_InvalidText : PySem.W.exmOne K (.ref c_BadStand) (.ref c_InvalidText) = some false
  er_BadStand_TallyError : PySem.W.exmOne K (.ref c_BadStand) (.ref c_TallyError) = some true
  er_BadStand_TooMany : PySem.W.exmOne K (.ref c_BadStand) (.ref c_TooMany) = some false
  er_BadStands_BadBounds : PySem.W.exmOne K (.ref c_BadStands) (.ref c_BadBounds) = some false
  er_BadStands_BadLetter : PySem.W.exmOne K (.ref c_BadStands) (.ref c_BadLetter) = some false
  er_BadStands_BadNumber : PySem.W.exmOne K (.ref c_BadStands) (.ref c_BadNumber) = some false
  er_BadStands_BadSet : PySem.W.exmOne K (.ref c_BadStands) (.ref c_BadSet) = some false
  er_BadStands_InvalidText : PySem.W.exmOne K (.ref c_BadStands) (.ref c_InvalidText) = some false
  er_BadStands_TallyError : PySem.W.exmOne K (.ref c_BadStands) (.ref c_TallyError) = some true
  er_BadStands_TooMany : PySem.W.exmOne K (.ref c_BadStands) (.ref c_TooMany) = some false
  er_BadSteps_BadBounds : PySem.W.exmOne K (.ref c_BadSteps) (.ref c_BadBounds) = some false
  er_BadSteps_BadLetter : PySem.W.exmOne K (.ref c_BadSteps) (.ref c_BadLetter) = some false
  er_BadSteps_BadNumber : PySem.W.exmOne K (.ref c_BadSteps) (.ref c_BadNumber) = some false
  er_BadSteps_BadSet : PySem.W.exmOne K (.ref c_BadSteps) (.ref c_BadSet) = some false
  er_BadSteps_BadStands : PySem.W.exmOne K (.ref c_BadSteps) (.ref c_BadStands) = some false
  er_BadSteps_InvalidText : PySem.W.exmOne K (.ref c_BadSteps) (.ref c_InvalidText) = some false
  er_BadSteps_TallyError : PySem.W.exmOne K (.ref c_BadSteps) (.ref c_TallyError) = some true
  er_BadSteps_TooMany : PySem.W.exmOne K (.ref c_BadSteps) (.ref c_TooMany) = some false
  er_InvalidText_BadBounds : PySem.W.exmOne K (.ref c_InvalidText) (.ref c_BadBounds) = some false
  er_InvalidText_BadEnds : PySem.W.exmOne K (.ref c_InvalidText) (.ref c_BadEnds) = some false
  er_InvalidText_BadLetter : PySem.W.exmOne K (.ref c_InvalidText) (.ref c_BadLetter) = some false
  er_InvalidText_BadMachine : PySem.W.exmOne K (.ref c_InvalidText) (.ref c_BadMachine) = some false
  er_InvalidText_BadNumber : PySem.W.exmOne K (.ref c_InvalidText) (.ref c_BadNumber) = some false
  er_InvalidText_BadRow : PySem.W.exmOne K (.ref c_InvalidText) (.ref c_BadRow) = some false
  er_InvalidText_BadSet : PySem.W.exmOne K (.ref c_InvalidText) (.ref c_BadSet) = some false
  er_InvalidText_BadStand : PySem.W.exmOne K (.ref c_InvalidText) (.ref c_BadStand) = some false
  er_InvalidText_BadStands : PySem.W.exmOne K (.ref c_InvalidText) (.ref c_BadStands) = some false
  er_InvalidText_BadSteps : PySem.W.exmOne K (.ref c_InvalidText) (.ref c_BadSteps) = some false
  er_InvalidText_TallyError : PySem.W.exmOne K (.ref c_InvalidText) (.ref c_TallyError) = some true
  er_InvalidText_TooMany : PySem.W.exmOne K (.ref c_InvalidText) (.ref c_TooMany) = some false
  er_TooMany_BadBounds : PySem.W.exmOne K (.ref c_TooMany) (.ref c_BadBounds) = some false
  er_TooMany_BadEnds : PySem.W.exmOne K (.ref c_TooMany) (.ref c_BadEnds) = some false
  er_TooMany_BadLetter : PySem.W.exmOne K (.ref c_TooMany) (.ref c_BadLetter) = some false
  er_TooMany_BadMachine : PySem.W.exmOne K (.ref c_TooMany) (.ref c_BadMachine) = some false
  er_TooMany_BadNumber : PySem.W.exmOne K (.ref c_TooMany) (.ref c_BadNumber) = some false
  er_TooMany_BadRow : PySem.W.exmOne K (.ref c_TooMany) (.ref c_BadRow) = some false
  er_TooMany_BadSet : PySem.W.exmOne K (.ref c_TooMany) (.ref c_BadSet) = some false
  er_TooMany_BadStand : PySem.W.exmOne K (.ref c_TooMany) (.ref c_BadStand) = some false
  er_TooMany_BadStands : PySem.W.exmOne K (.ref c_TooMany) (.ref c_BadStands) = some false
  er_TooMany_BadSteps : PySem.W.exmOne K (.ref c_TooMany) (.ref c_BadSteps) = some false
  er_TooMany_TallyError : PySem.W.exmOne K (.ref c_TooMany) (.ref c_TallyError) = some true
  u_MOST_STANDS : Value
  m_MOST_STANDS : mg "MOST_STANDS" = some u_MOST_STANDS
  r_MOST_STANDS : RelV (V.int 8) u_MOST_STANDS
  u_MOST_GAIN : Value
  m_MOST_GAIN : mg "MOST_GAIN" = some u_MOST_GAIN
  r_MOST_GAIN : RelV (V.int 1000000000000000000000000000000) u_MOST_GAIN
  a_LETTERS : Addr
  m_LETTERS : mg "LETTERS" = some (.ref a_LETTERS)
  r_LETTERS : RelV (V.ref a_LETTERS) (.ref a_LETTERS)
  s_LETTERS : ∀ H : Hp, SqT K H a_LETTERS [V.str "a", V.str "b", V.str "c", V.str "d"]
  u_MOST_LENGTH : Value
  m_MOST_LENGTH : mg "MOST_LENGTH" = some u_MOST_LENGTH
  r_MOST_LENGTH : RelV (V.int 12) u_MOST_LENGTH
  u_MOST_NUMBER : Value
  m_MOST_NUMBER : mg "MOST_NUMBER" = some u_MOST_NUMBER
  r_MOST_NUMBER : RelV (V.int 10000000000000000000000000000000000000000) u_MOST_NUMBER
  u_MOST_STEPS : Value
  m_MOST_STEPS : mg "MOST_STEPS" = some u_MOST_STEPS
  r_MOST_STEPS : RelV (V.int 12) u_MOST_STEPS
  z_bool : mg "bool" = none
  z_enumerate : mg "enumerate" = none
  z_int : mg "int" = none
  z_isinstance : mg "isinstance" = none
  z_len : mg "len" = none
  z_list : mg "list" = none
  z_max : mg "max" = none
  z_min : mg "min" = none
  z_range : mg "range" = none
  z_str : mg "str" = none
  z_tuple : mg "tuple" = none
  bs_law : ∀ (s : Shared) (v : Value), BindsTo s fd_law ⟨[v], []⟩ [("_law_script", v)]
/-! ### heaps -/
/-- all but a stands as it was -/
def Keep (a : Addr) (H H' : Hp) : Prop := ∀ b o, b ≠ a → H b = some o → H' b = some o
theorem Keep.refl (a : Addr) (H : Hp) : Keep a H H := fun _ _ _ h => h
theorem Keep.trans {a : Addr} {H H1 H2 : Hp} (x : Keep a H H1) (y : Keep a H1 H2) : Keep a H H2 := fun b o n h => y b o n (x b o n h)
theorem Keep.at_ {a : Addr} {H : Hp} {o : HO} : Keep a H (upd H a o) := fun b u n h => by rw [upd_ne n]; exact h
theorem Keep.new {a p : Addr} {H : Hp} {o : HO} (hp : H p = none) : Keep a H (upd H p o) := fun b u _ h => by rw [upd_ne (ne_of_none h hp)]; exact h
theorem Keep.of_same {a : Addr} {H H' : Hp} (x : Same H H') : Keep a H H' := fun b o _ h => x b o h
theorem Same.new {p : Addr} {H : Hp} {o : HO} (hp : H p = none) : Same H (upd H p o) := fun b u h => by rw [upd_ne (ne_of_none h hp)]; exact h
theorem Keep.free {a p : Addr} {H H' : Hp} (x : Keep a H H') (n : p ≠ a) (h : H' p = none) : H p = none := by
  cases q : H p with
  | none => rfl
  | some o => rw [x p o n q] at h; cases h
/-- what H does not know may change -/
theorem Keep.mut {a p : Addr} {H H' : Hp} {o : HO} (x : Keep a H H') (hp : H p = none) : Keep a H (upd H' p o) := fun b u n h => by rw [upd_ne (ne_of_none h hp)]; exact x b u n h
theorem Keep.tup {K : PySem.W.Frag} {a b : Addr} {H H' : Hp} {xs : List V} (x : Keep a H H') (ha : ∃ l, H a = some (.lst l)) (h : SqT K H b xs) : SqT K H' b xs := by
  obtain ⟨l, ha⟩ := ha
  rcases h with (h | ⟨o, h⟩) | h
  · exact .inl (.inl (x _ _ (fun e => by rw [e, ha] at h; cases h) h))
  · exact .inl (.inr ⟨o, x _ _ (fun e => by rw [e, ha] at h; cases h) h⟩)
  · exact .inr h
theorem Keep.lst {K : PySem.W.Frag} {a b : Addr} {H H' : Hp} {xs : List V} (x : Keep a H H') (n : b ≠ a) (h : SqL K H b xs) : SqL K H' b xs := by
  rcases h with (h | ⟨o, h⟩) | h
  · exact .inl (.inl (x _ _ n h))
  · exact .inl (.inr ⟨o, x _ _ n h⟩)
  · exact .inr h
/-- the script: known to the object, or of the written part -/
def ScAt (K : PySem.W.Frag) (H : Hp) (b : Addr) (xs : List V) : Prop := (∃ o, H b = some (.frz o (.lst xs))) ∨ ∀ H', SqL K H' b xs
theorem ScAt.sq {K : PySem.W.Frag} {H : Hp} {b : Addr} {xs : List V} (h : ScAt K H b xs) : SqL K H b xs := by
  rcases h with ⟨o, h⟩ | h
  · exact .inl (.inr ⟨o, h⟩)
  · exact h H
theorem ScAt.keep {K : PySem.W.Frag} {a b : Addr} {H H' : Hp} {xs l : List V} (h : ScAt K H b xs) (k : Keep a H H') (ha : H a = some (.lst l)) : ScAt K H' b xs := by
  rcases h with ⟨o, h⟩ | h
  · exact .inl ⟨o, k _ _ (fun z => by rw [z, ha] at h; cases h) h⟩
  · exact .inr h
theorem ScAt.same {K : PySem.W.Frag} {b : Addr} {H H' : Hp} {xs : List V} (h : ScAt K H b xs) (k : Same H H') : ScAt K H' b xs := by
  rcases h with ⟨o, h⟩ | h
  · exact .inl ⟨o, k _ _ h⟩
  · exact .inr h
/-- the draws' row at a: the script, how many were read, the mixed number, the rest -/
def RowOk (K : PySem.W.Frag) (H : Hp) (a : Addr) : Prop := ∃ (sc : Addr) (ns : List Int) (i z r : Int), H a = some (.lst [.ref sc, .int i, .int z, .int r]) ∧ ScAt K H sc (ns.map V.int) ∧ ns.length ≤ 63 ∧ 0 ≤ i ∧ 0 ≤ z ∧ z < 2147483647
theorem RowOk.lst {K : PySem.W.Frag} {H : Hp} {a : Addr} (h : RowOk K H a) : ∃ l, H a = some (.lst l) := by
  obtain ⟨_, _, _, _, _, e, _⟩ := h; exact ⟨_, e⟩
/-- behind a step that leaves the row and the script as they were -/
theorem RowOk.same {K : PySem.W.Frag} {H H' : Hp} {a : Addr} (h : RowOk K H a) (s : Same H H') : RowOk K H' a := by
  obtain ⟨sc, ns, i, z, r, e, q, rest⟩ := h
  exact ⟨sc, ns, i, z, r, s _ _ e, q.same s, rest⟩
theorem RowOk.keep {K : PySem.W.Frag} {H H' : Hp} {a l : Addr} {xs : List V} (h : RowOk K H a) (n : a ≠ l) (e : H l = some (.lst xs)) (k : Keep l H H') : RowOk K H' a := by
  obtain ⟨sc, is, i, z, r, ea, q, rest⟩ := h
  exact ⟨sc, is, i, z, r, k _ _ n ea, q.keep k e, rest⟩
theorem RowOk.ne {K : PySem.W.Frag} {H : Hp} {a p : Addr} (h : RowOk K H a) (e : H p = none) : a ≠ p := by
  obtain ⟨l, q⟩ := h.lst
  exact ne_of_none q e
theorem tupl_upd {H : Hp} {F x : Addr} {o : HO} {ys : List V} (hF : ∀ xs, H F ≠ some (.tup xs)) (h : H x = some (.tup ys)) : (upd H F o) x = some (.tup ys) := by
  rw [upd_ne (fun e => hF ys (by rw [← e]; exact h))]
  exact h
theorem free_of {H H' : Hp} {q : Addr} (z : Same H H') (hq : H' q = none) : H q = none := by
  cases e : H q with
  | none => rfl
  | some ob => rw [z _ _ e] at hq; cases hq
theorem unlock_same {H2 H' : Hp} {e : Addr} {od : _} {kvs : List (Key × V)} (he : H2 e = some (.dK kvs)) (z : Same (upd H2 e (.frz od (.dK kvs))) H') : Same H2 (upd H' e (.dK kvs)) := fun b o eb => by
  by_cases c : b = e
  · rw [c, he] at eb
    rw [c, upd_same]
    exact eb
  · rw [upd_ne c]
    exact z _ _ (by rw [upd_ne c]; exact eb)
/-! ### steps: one a combinator -/
section
variable {K : PySem.W.Frag} {σ : L2.St} {H : Hp} {D : Ends} {Q : VK}
theorem k_seq {t u : TS} (h : t { D with nx := u D } σ H) : tSeq t u D σ H := h
theorem k_ifS {c : TT} {t u : TS} (h : c σ H fun b H1 => if b = true then t D σ H1 else u D σ H1) : tIfS c t u D σ H := h
theorem k_asg {te : TE} {g : TG} (h : te σ H fun x H1 => g x σ H1 D.nx) : tAsg te g D σ H := h
theorem k_ret {te : TE} (h : te σ H D.rt) : tRet te D σ H := h
theorem k_retN (h : D.rt .non H) : tRetN D σ H := h
theorem k_next (h : D.nx σ H) : tNext D σ H := h
theorem k_cont (h : D.ct σ H) : tCont D σ H := h
theorem k_break (h : D.bk σ H) : tBreak D σ H := h
theorem k_drop {te : TE} (h : te σ H fun _ H1 => D.nx σ H1) : tDrop te D σ H := h
theorem k_par {i j : Nat} {ta : TA} (h : ta σ H fun vs H1 => ∃ v w, vs = [v, w] ∧ D.nx ((σ.set i (some v)).set j (some w)) H1) : tPar i j ta D σ H := h
theorem k_two {p : V → V → Prop} {a b : V} (h : p a b) : ∃ v w, [a, b] = [v, w] ∧ p v w := ⟨a, b, rfl, h⟩
theorem k_var {i : Nat} {v : V} (e : σ[i]? = some (some v)) (h : Q v H) : tVar i σ H Q := ⟨v, e, h⟩
theorem k_c {v : V} (h : Q v H) : tC v σ H Q := h
theorem k_op {r : R2} {ta tb : TE} (h : ta σ H fun x H1 => tb σ H1 fun y H2 => r x y H2 Q) : tOp r ta tb σ H Q := h
theorem k_un {r : V → Hp → VK → Prop} {ta : TE} (h : ta σ H fun x H1 => r x H1 Q) : tUn r ta σ H Q := h
theorem k_cb {r : List V → Hp → VK → Prop} {t : TA} (h : t σ H fun vs H1 => r vs H1 Q) : tCB r t σ H Q := h
theorem k_cons {ta : TE} {tr : TA} {R : List V → Hp → Prop} (h : ta σ H fun x H1 => tr σ H1 fun xs H2 => R (x :: xs) H2) : tCons ta tr σ H R := h
theorem k_nil {R : List V → Hp → Prop} (h : R [] H) : tNil σ H R := h
theorem k_call {sp : Sp} {dvs : List V} {E : XK} {t : TA} (h : t σ H fun vs H1 => sp (vs ++ dvs) H1 Q E) : tCall sp dvs E t σ H Q := h
theorem k_make {C : Addr} {sp : Sp} {dvs : List V} {E : XK} {t : TA} (h : t σ H fun vs H1 => ∀ x dx, H1 x = none → H1 dx = none → dx ≠ x →
  sp (.ref x :: (vs ++ dvs)) (upd (upd H1 dx (.own x)) x (.ins C dx [])) (fun v H2 => v = .non ∧ Q (.ref x) H2) E) : tMake C sp dvs E t σ H Q := h
theorem k_test {t : TE} {R : Bool → Hp → Prop} (h : t σ H fun x H' => ∃ k, x = .bl k ∧ R k H') : tTest t σ H R := h
theorem k_tB {t : TE} {R : Bool → Hp → Prop} (h : t σ H fun x H' => ∃ k, x = .bl k ∧ R k H') : tB t σ H R := h
theorem k_bl {b : Bool} {R : Bool → Prop} (h : R b) : ∃ k, V.bl b = .bl k ∧ R k := ⟨b, rfl, h⟩
theorem k_and {t u : TT} {R : Bool → Hp → Prop} (h : t σ H fun c H1 => if c = true then u σ H1 R else R false H1) : tAnd t u σ H R := h
theorem k_or {t u : TT} {R : Bool → Hp → Prop} (h : t σ H fun c H1 => if c = true then R true H1 else u σ H1 R) : tOr t u σ H R := h
theorem k_not {t : TT} {R : Bool → Hp → Prop} (h : t σ H fun c H1 => R (!c) H1) : tNot t σ H R := h
theorem k_andV {ta tb : TE} (h : ta σ H fun x H1 => ∃ c, x = .bl c ∧ if c = true then tb σ H1 Q else Q (.bl false) H1) : tAndV ta tb σ H Q := h
theorem k_orV {ta tb : TE} (h : ta σ H fun x H1 => ∃ c, x = .bl c ∧ if c = true then Q (.bl true) H1 else tb σ H1 Q) : tOrV ta tb σ H Q := h
theorem k_notV {ta : TE} (h : ta σ H fun x H1 => ∃ c, x = .bl c ∧ Q (.bl (!c)) H1) : tNotV ta σ H Q := h
theorem k_ifE {t : TT} {ta tb : TE} (h : t σ H fun c H1 => if c = true then ta σ H1 Q else tb σ H1 Q) : tIf t ta tb σ H Q := h
theorem k_isN {ta : TE} (h : ta σ H fun x H1 => Q (.bl (decide (x = .non))) H1) : tIsN ta σ H Q := h
theorem k_notN {ta : TE} (h : ta σ H fun x H1 => Q (.bl (!decide (x = .non))) H1) : tNotN ta σ H Q := h
theorem k_name {i : Nat} {v : V} {R : L2.St → Hp → Prop} (h : R (σ.set i (some v)) H) : gName i v σ H R := h
theorem k_sub {to ti : TE} {t : TSet} {v : V} {R : L2.St → Hp → Prop} (h : to σ H fun o H1 => ti σ H1 fun i H2 => t o i v H2 fun H3 => R σ H3) : gSub to ti t v σ H R := h
theorem k_gt {n : Nat} {t : TGs} {R : L2.St → Hp → Prop} {a : Addr} {xs : List V} (h : SqT K H a xs) (e : xs.length = n) (q : t xs σ H R) : gTup K n t (.ref a) σ H R := ⟨a, xs, rfl, h, e, q⟩
theorem k_gn {R : L2.St → Hp → Prop} (h : R σ H) : gNil [] σ H R := ⟨rfl, h⟩
theorem k_gc {t : TG} {u : TGs} {v : V} {vs : List V} {R : L2.St → Hp → Prop} (h : t v σ H fun σ' H' => u vs σ' H' R) : gCons t u (v :: vs) σ H R := ⟨v, vs, rfl, h⟩
theorem k_I0 {g : Int → Int → V} {i j : Int} (h : Q (g i j) H) : rI0 g (.int i) (.int j) H Q := ⟨i, j, rfl, rfl, h⟩
theorem k_I {C : Int → Int → Prop} {g : Int → Int → V} {i j : Int} (c : C i j) (h : Q (g i j) H) : rI C g (.int i) (.int j) H Q := ⟨i, j, rfl, rfl, c, h⟩
theorem k_U {g : Int → V} {i : Int} (h : Q (g i) H) : rU g (.int i) H Q := ⟨i, rfl, h⟩
theorem k_eq {x y : V} (e : scal x y = true) (h : Q (.bl (decide (x = y))) H) : rEq x y H Q := ⟨e, h⟩
theorem k_ne {x y : V} (e : scal x y = true) (h : Q (.bl (!decide (x = y))) H) : rNe x y H Q := ⟨e, h⟩
theorem k_ixL {p : Addr} {xs : List V} {i : Int} {v : V} (h : SqL K H p xs) (e : atI xs i = some v) (q : Q v H) : rIxL K (.ref p) (.int i) H Q := ⟨p, xs, i, v, rfl, rfl, h, e, q⟩
theorem k_ixT {p : Addr} {xs : List V} {i : Int} {v : V} (h : SqT K H p xs) (e : atI xs i = some v) (q : Q v H) : rIxT K (.ref p) (.int i) H Q := ⟨p, xs, i, v, rfl, rfl, h, e, q⟩
theorem k_setL {p : Addr} {xs : List V} {k : Int} {j : Nat} {v : V} {R : Hp → Prop} (h : H p = some (.lst xs)) (e : ixN xs.length k = some j) (q : R (upd H p (.lst (xs.set j v)))) : rSetL (.ref p) (.int k) v H R := ⟨p, xs, k, j, rfl, rfl, h, e, q⟩
theorem k_tup {t : TA} (h : t σ H fun xs H1 => xs.length ≤ sizeLine ∧ ∀ p, H1 p = none → Q (.ref p) (upd H1 p (.tup xs))) : tTup t σ H Q := h
theorem k_lst {t : TA} (h : t σ H fun xs H1 => xs.length ≤ sizeLine ∧ ∀ p, H1 p = none → Q (.ref p) (upd H1 p (.lst xs))) : tLst t σ H Q := h
theorem k_bm {T : String} {r : V → List V → Hp → VK → Prop} {to : TE} {t : TA} (h : to σ H fun x H1 => tyV K T x H1 ∧ t σ H1 fun xs H2 => r x xs H2 Q) : tBM K T r to t σ H Q := h
theorem k_append {l : Addr} {xs : List V} {y : V} (h : H l = some (.lst xs)) (e : xs.length < sizeLine) (q : Q .non (upd H l (.lst (xs ++ [y])))) : rAppend (.ref l) [y] H Q := ⟨l, xs, y, rfl, rfl, h, e, q⟩
theorem k_dget {td ty : TE} (h : td σ H fun x H1 => ty σ H1 fun y H2 => ∃ a v, x = .ref a ∧ DGet H2 a y (some v) ∧ Q v H2) : tDGet td ty σ H Q := h
theorem k_dg {a : Addr} {y v : V} (h : DGet H a y (some v)) (q : Q v H) : ∃ b u, V.ref a = .ref b ∧ DGet H b y (some u) ∧ Q u H := ⟨a, v, rfl, h, q⟩
theorem k_fld {ta : TE} {f : Str} (h : ta σ H fun x H1 => ∃ a C dx fs v, x = .ref a ∧ H1 a = some (.ins C dx fs) ∧ Cls K C ∧ NoAttr K C f ∧ fs.lookup f = some v ∧ Q v H1) : tFld K ta f σ H Q := h
theorem k_sl {r : V → Option Int → Option Int → Hp → VK → Prop} {te : TE} {tl th : TO} (h : te σ H fun x H1 => tl σ H1 fun l H2 => th σ H2 fun u H3 => r x l u H3 Q) : L2.tSl r te tl th σ H Q := h
theorem k_noPart {R : Option Int → Hp → Prop} (h : R none H) : tNoPart σ H R := h
theorem k_part {t : TE} {R : Option Int → Hp → Prop} (h : t σ H fun x H1 => ∃ i, x = .int i ∧ R (some i) H1) : tPart t σ H R := h
theorem k_int {i : Int} {R : Int → Prop} (h : R i) : ∃ k, V.int i = .int k ∧ R k := ⟨i, rfl, h⟩
theorem k_int1 {i : Int} {R : Int → Prop} {R' : Bool → Prop} (h : R i) : (∃ j, [V.int i] = [V.int j] ∧ R j) ∨ (∃ k, [V.int i] = [V.bl k] ∧ R' k) := .inl ⟨i, rfl, h⟩
theorem k_len {a : Addr} {ys : List V} {R : List V → Prop} (h : SqL K H a ys ∨ SqT K H a ys) (q : R ys) : ∃ p xs, [V.ref a] = [V.ref p] ∧ (SqL K H p xs ∨ SqT K H p xs) ∧ R xs := ⟨a, ys, rfl, h, q⟩
theorem k_disp {trs : List (TE × TE)} (h : ∀ p, H p = none → tPairs trs σ (upd H p (.dK [])) fun ps H2 => H2 p = some (.dK []) ∧ ∃ kvs : List (Key × V), ps = kvs.map (fun kv => (kV kv.1, kv.2)) ∧ kvs.length ≤ 15 ∧ Q (.ref p) (upd H2 p (.dK (mergeK [] kvs)))) : tDisp trs σ H Q := h
theorem k_cut {t u : TS} (M : L2.St → Hp → Prop) (h : t { D with nx := M } σ H) (k : ∀ σ' H', M σ' H' → u D σ' H') : C8.tCut t u D σ H := ⟨M, h, k⟩
theorem k_rng1 {ta : TA} {R : It → Hp → Prop} (h : ta σ H fun vs H1 => ∃ j : Int, vs = [.int j] ∧ -(2 ^ 62) ≤ j ∧ j < 2 ^ 62 ∧ R (Itr 0 j.toNat) H1) : iRng1 ta σ H R := h
theorem k_rg {j : Int} {R : Int → Prop} (h1 : 0 ≤ j) (h2 : j < 2 ^ 62) (q : R j) : ∃ i : Int, [V.int j] = [V.int i] ∧ -(2 ^ 62) ≤ i ∧ i < 2 ^ 62 ∧ R i := ⟨j, rfl, by omega, h2, q⟩
theorem k_for {wi : TI} {g : TG} {tb : TS} (h : wi σ H fun J H1 => ∃ W : Nat → Nat → L2.St → Hp → Prop, (∃ m, W 0 m σ H1) ∧ ∀ i m σ H, W i m σ H →
  (J.stop i H ∧ D.nx σ H) ∨ (J.go i H ∧ ∃ N : L2.St → Hp → Prop, (∀ σ' H', N σ' H' → ∃ m', m' < m ∧ W (i + 1) m' σ' H') ∧ ∀ x H', J.yld i H x H' → g x σ H' fun σ2 H2 => tb { D with nx := N, ct := N, bk := D.nx } σ2 H2)) : tFor wi g tb D σ H := h
theorem k_lc {wi : TI} {g : TG} {tt : TT} {te : TE} {vs : List Nat} (h : wi σ H fun J H1 => ∀ D, H1 D = none → ∃ W : Nat → Nat → Hp → Prop, (∃ m, W 0 m (upd H1 D (.lst []))) ∧ ∀ i m H, W i m H →
  (J.stop i H ∧ Q (.ref D) H) ∨ (J.go i H ∧ ∃ Nx : Hp → Prop, (∀ H', Nx H' → ∃ m', m' < m ∧ W (i + 1) m' H') ∧ ∀ x H', J.yld i H x H' → g x (wipe σ vs) H' fun σ2 H2 => wipe σ2 vs = wipe σ vs ∧ tt σ2 H2 fun b H3 =>
    if b = true then te σ2 H3 fun y H4 => ∃ acc, H4 D = some (.lst acc) ∧ acc.length < sizeLine ∧ Nx (upd H4 D (.lst (acc ++ [y]))) else Nx H3)) : tLc wi g tt te vs σ H Q := h
theorem k_yesT {R : Bool → Hp → Prop} (h : R true H) : tYes σ H R := h
theorem k_str {te : TE} {R : It → Hp → Prop} (h : te σ H fun v H1 => ∃ x, v = .str x ∧ R (Its x) H1) : iStr te σ H R := h
theorem k_slS {z : Str} {lo hi : Option Int} (e : z.length ≤ sizeLine) (q : Q (.str (cutS z lo hi)) H) : rSlS (.str z) lo hi H Q := ⟨z, rfl, e, q⟩
theorem k_prs {tk tv : TE} {r : List (TE × TE)} {R : List (V × V) → Hp → Prop} (h : tk σ H fun x H1 => tv σ H1 fun y H2 => tPairs r σ H2 fun ps H3 => R ((x, y) :: ps) H3) : tPairs ((tk, tv) :: r) σ H R := h
theorem k_prn {R : List (V × V) → Hp → Prop} (h : R [] H) : tPairs [] σ H R := h
theorem k_aug {i : Nat} {te : TE} {ti : TIp} {x : V} (e : σ[i]? = some (some x)) (h : te σ H fun y H1 => ti x y H1 fun z H2 => D.nx (σ.set i (some z)) H2) : tAug i te ti D σ H := ⟨x, e, h⟩
theorem k_ipI {f : Int → Int → Int} {i j : Int} (h : Q (.int (f i j)) H) : ipI f (.int i) (.int j) H Q := ⟨i, j, rfl, rfl, h⟩
theorem k_din {ty td : TE} (h : ty σ H fun y H1 => td σ H1 fun x H2 => ∃ a o, x = .ref a ∧ DGet H2 a y o ∧ Q (.bl o.isSome) H2) : tDIn ty td σ H Q := h
theorem k_dnotin {ty td : TE} (h : ty σ H fun y H1 => td σ H1 fun x H2 => ∃ a o, x = .ref a ∧ DGet H2 a y o ∧ Q (.bl (!o.isSome)) H2) : tDNotIn ty td σ H Q := h
theorem k_dput {td ty tv : TE} (h : tv σ H fun v H1 => td σ H1 fun x H2 => ty σ H2 fun y H3 => ∃ a H4, x = .ref a ∧ DPut H3 a y v H4 ∧ D.nx σ H4) : sDPut td ty tv D σ H := h
theorem k_prop {C : Addr} {sp : Sp} {dvs : List V} {E : XK} {ta : TE} (h : ta σ H fun x H1 => ∃ a dx fs, x = .ref a ∧ H1 a = some (.ins C dx fs) ∧ sp (.ref a :: dvs) H1 Q E) : tProp C sp dvs E ta σ H Q := h
theorem k_itup {tl : TE} {R : It → Hp → Prop} (h : tl σ H fun x H1 => ∃ a, x = .ref a ∧ (∃ xs, SqT K H1 a xs) ∧ R (Itt K a) H1) : iTup K tl σ H R := h
theorem k_ilst {tl : TE} {R : It → Hp → Prop} (h : tl σ H fun x H1 => ∃ a, x = .ref a ∧ (∃ xs, SqL K H1 a xs) ∧ R (Itl K a) H1) : iList K tl σ H R := h
theorem k_bm0 {T : String} {r : V → List V → Hp → VK → Prop} {to : TE} (h : to σ H fun x H1 => tyV K T x H1 ∧ r x [] H1 Q) : tBM0 K T r to σ H Q := h
theorem k_dc {wi : TI} {g : TG} {tt : TT} {tk tv : TE} {vs : List Nat} (h : wi σ H fun J H1 => ∀ D, H1 D = none → ∃ W : Nat → Nat → Hp → Prop, (∃ m, W 0 m (upd H1 D (.dK []))) ∧ ∀ i m H, W i m H →
  (J.stop i H ∧ Q (.ref D) H) ∨ (J.go i H ∧ ∃ Nx : Hp → Prop, (∀ H', Nx H' → ∃ m', m' < m ∧ W (i + 1) m' H') ∧ ∀ x H', J.yld i H x H' → g x (wipe σ vs) H' fun σ2 H2 => wipe σ2 vs = wipe σ vs ∧ tt σ2 H2 fun b H3 =>
    if b = true then tk σ2 H3 fun y H4 => tv σ2 H4 fun z H5 => ∃ kvs k, y = kV k ∧ H5 D = some (.dK kvs) ∧ kvs.length < sizeLine ∧ Nx (upd H5 D (.dK (putK kvs k z))) else Nx H3)) : tDc wi g tt tk tv vs σ H Q := h
theorem k_whl {c : TT} {tb : TS} (W : Nat → L2.St → Hp → Prop) (h0 : ∃ m, W m σ H) (h : ∀ m σ H, W m σ H → c σ H fun b H1 => if b = true then tb { D with nx := fun σ' H' => ∃ m', m' < m ∧ W m' σ' H', ct := fun σ' H' => ∃ m', m' < m ∧ W m' σ' H', bk := D.nx } σ H1 else D.nx σ H1)
    (mono : ∀ σ H (R R' : Bool → Hp → Prop), (∀ b H1, R b H1 → R' b H1) → c σ H R → c σ H R') : tWhile c tb D σ H := by
  refine ⟨W, h0, fun m σ H w => mono _ _ _ _ (fun b H1 q => ?_) (h m σ H w)⟩
  cases b with
  | false => exact q
  | true => exact ⟨_, fun _ _ z => z, q⟩
theorem k_ite {p A B : Prop} [Decidable p] (h1 : p → A) (h2 : ¬ p → B) : if decide p = true then A else B := by
  by_cases h : p
  · rw [decide_eq_true h]; exact iteT (h1 h)
  · rw [decide_eq_false h]; exact iteF (h2 h)
theorem k_iteN {p A B : Prop} [Decidable p] (h1 : p → B) (h2 : ¬ p → A) : if (!decide p) = true then A else B := by
  by_cases h : p
  · rw [decide_eq_true h]; exact iteF (h1 h)
  · rw [decide_eq_false h]; exact iteT (h2 h)
theorem k_yes {c : Bool} {A B : Prop} (e : c = true) (h : A) : if c = true then A else B := by rw [e]; exact iteT h
theorem k_no {c : Bool} {A B : Prop} (e : c = false) (h : B) : if c = true then A else B := by rw [e]; exact iteF h
theorem k_bool {c : Bool} {A B : Prop} (h1 : c = true → A) (h2 : c = false → B) : if c = true then A else B := by cases c; exact iteF (h2 rfl); exact iteT (h1 rfl)
end
section
variable {K : PySem.W.Frag} {σ : L2.St} {H : Hp} {D : Ends} {Q : VK}
theorem k_par3 {i j l : Nat} {ta : TA} (h : ta σ H fun vs H1 => ∃ u v w, vs = [u, v, w] ∧ D.nx (((σ.set i (some u)).set j (some v)).set l (some w)) H1) : tPar3 i j l ta D σ H := h
theorem k_three {p : V → V → V → Prop} {a b c : V} (h : p a b c) : ∃ u v w, [a, b, c] = [u, v, w] ∧ p u v w := ⟨a, b, c, rfl, h⟩
theorem k_neD {x y : V} {d e : PyData} (h1 : Dp K H x d) (h2 : Dp K H y e) (s1 : SeqAt.shaped d = true) (s2 : SeqAt.shaped e = true) (q : Q (.bl (!PyData.eqv d e)) H) : rNeD K x y H Q := ⟨d, e, h1, h2, s1, s2, q⟩
theorem k_eqD {x y : V} {d e : PyData} (h1 : Dp K H x d) (h2 : Dp K H y e) (s1 : SeqAt.shaped d = true) (s2 : SeqAt.shaped e = true) (q : Q (.bl (PyData.eqv d e)) H) : rEqD K x y H Q := ⟨d, e, h1, h2, s1, s2, q⟩
theorem k_lenS {z : Str} {R : Int → Prop} (h : z.length ≤ sizeLine) (q : R z.length) : ∃ y : Str, [V.str z] = [V.str y] ∧ y.length ≤ sizeLine ∧ R y.length := ⟨z, rfl, h, q⟩
end
local macro_rules | `(tactic| walk_at "st") => `(tactic| first
  | ((with_reducible show tVar _ _ _ _); refine k_var rfl ?_)
  | (with_reducible first
    | refine k_c ?_ | refine k_op ?_ | refine k_I0 ?_ | refine k_seq ?_ | refine k_asg ?_ | refine k_name ?_ | refine k_cons ?_ | refine k_nil ?_ | refine k_cb ?_
    | refine k_ret ?_ | refine k_ifS ?_ | refine k_test ?_ | refine k_tB ?_ | refine k_bl ?_ | refine k_call ?_ | refine k_make ?_ | refine k_par3 ?_ | refine k_three ?_ | refine k_ipI ?_ | refine k_din ?_ | refine k_dnotin ?_ | refine k_dput ?_ | refine k_prop ?_ | refine k_itup ?_ | refine k_ilst ?_ | refine k_bm0 ?_ | refine k_dc ?_ | refine k_prs ?_ | refine k_prn ?_ | refine k_lc ?_ | refine k_yesT ?_ | refine k_str ?_ | refine k_disp ?_ | refine k_for ?_ | refine k_rng1 ?_ | refine k_drop ?_ | refine k_next ?_ | refine k_sub ?_ | refine k_un ?_ | refine k_U ?_
    | refine k_par ?_ | refine k_two ?_ | refine k_and ?_ | refine k_or ?_ | refine k_not ?_ | refine k_andV ?_ | refine k_orV ?_ | refine k_notV ?_ | refine k_ifE ?_ | refine k_isN ?_ | refine k_notN ?_
    | refine k_gn ?_ | refine k_gc ?_ | refine k_tup ?_ | refine k_lst ?_ | refine k_bm ?_ | refine k_dget ?_ | refine k_fld ?_ | refine k_sl ?_ | refine k_noPart ?_ | refine k_part ?_ | refine k_int ?_
    | refine k_int1 ?_ | refine k_retN ?_ | refine k_cont ?_ | refine k_break ?_)
  | ((with_reducible show rIxL _ _ _ _ _); refine k_ixL (SqL.of (by first | assumption | exact upd_same)) rfl ?_)
  | ((with_reducible show rSetL _ _ _ _ _); refine k_setL (by first | assumption | exact upd_same) rfl ?_)
  | ((with_reducible show tAug _ _ _ _ _ _); refine k_aug rfl ?_)
  | ((with_reducible show rEq _ _ _ _); refine k_eq rfl ?_)
  | ((with_reducible show rNe _ _ _ _); refine k_ne rfl ?_))
local macro_rules | `(tactic| walk_at "go") => `(tactic| repeat (walk_at "st"))
local macro_rules | `(tactic| walk_at "begin") => `(tactic| ((try dsimp only [cxOf]); simp only [L2.start, List.map_cons, List.map_nil, List.length_cons, List.length_nil, Nat.reduceAdd, Nat.reduceSub, List.replicate_succ, List.replicate_zero, List.cons_append, List.nil_append]))
/-! ### a draw: any number below the most -/
def sp_taken (K : PySem.W.Frag) : Sp := fun vs H Q _ => ∃ (a : Addr) (m : Int), vs = [.ref a, .int m] ∧ 0 < m ∧ m.natAbs < 2 ^ 8000 ∧ RowOk K H a ∧
  ∀ (x : Int) (H' : Hp), 0 ≤ x → x < m → RowOk K H' a → Keep a H H' → Q (.int x) H'
section
variable {P : Program} {w : World} {K : PySem.W.Frag} {mg : Str → Option Value} {base : Heap}
theorem ok_law_taken (T : Txt K mg) : FnOk P w K mg base (L2.CX P w) 1 T.a_law_taken T.fd_law_taken ["_law_row", "_law_many"] (sp_taken K) := by
  refine T.F_law_taken.okX sc_law_taken (fun vs H Q E h => ?_) (fun cdv A outer s H vs Q E hr h => ?_)
  · obtain ⟨a, m, rfl, _⟩ := h
    rfl
  · obtain ⟨a, m, rfl, m0, mb, ⟨sc, ns, i, z, r, ea, hs, hn, i0, z0, z1⟩, k⟩ := h
    refine ⟨_, (PSs.nox (pss_cons (ps_if (pt_cmpR op_gt (pe_ix ix_list (pv 0) pe_int (fun _ _ => rfl)) pe_int (nomark _))
  (pss_cons (ps_set (i := 2) sc_law_taken.nd rfl (Or.inl rfl) (pe_op op_mod (pe_callTy call_int1 (by rfl) T.z_int PySem.Pv.boot_int (pa_cons (pe_ix ix_list (pv 0) pe_int (fun _ _ => rfl)) pa_nil)) (pv 1)))
  (pss_cons (ps_asg (pe_op op_fdivW (pe_ix ix_list (pv 0) pe_int (fun _ _ => rfl)) (pv 1)) (pg_sub (pv 0) pe_int set_list))
  (pss_one (ps_ret (pv 2)))))
  pss_nil)
  (pss_cons (ps_asg (pe_op op_add (pe_ix ix_list (pv 0) pe_int (fun _ _ => rfl)) pe_int) (pg_sub (pv 0) pe_int set_list))
  (pss_cons (ps_if (pt_cmpR op_gt (pe_ix ix_list (pv 0) pe_int (fun _ _ => rfl)) (pe_callB call_len_seq (by rfl) T.z_len PySem.boot_len (pa_cons (pe_ix ix_list (pv 0) pe_int (fun _ _ => rfl)) pa_nil)) (nomark _))
  (pss_cons (ps_asg (pe_op op_mod (pe_callTy call_int1 (by rfl) T.z_int PySem.Pv.boot_int (pa_cons (pe_op op_add (pe_op op_mulW (pe_ix ix_list (pv 0) pe_int (fun _ _ => rfl)) pe_int) pe_int) pa_nil)) pe_int) (pg_sub (pv 0) pe_int set_list))
  (pss_one (ps_ret (pe_op op_mod (pe_callTy call_int1 (by rfl) T.z_int PySem.Pv.boot_int (pa_cons (pe_op op_fdivW (pe_ix ix_list (pv 0) pe_int (fun _ _ => rfl)) pe_int) pa_nil)) (pv 1)))))
  pss_nil)
  (pss_cons (ps_set (i := 3) sc_law_taken.nd rfl (Or.inl rfl) (pe_ix ix_list (pe_ix ix_list (pv 0) pe_int (fun _ _ => rfl)) (pe_op op_sub (pe_ix ix_list (pv 0) pe_int (fun _ _ => rfl)) pe_int) (fun _ _ => rfl)))
  (pss_cons (ps_asg (pe_op op_mod (pe_callTy call_int1 (by rfl) T.z_int PySem.Pv.boot_int (pa_cons (pe_op op_add (pe_op op_add (pe_op op_mulW (pe_ix ix_list (pv 0) pe_int (fun _ _ => rfl)) pe_int) (pv 3)) pe_int) pa_nil)) pe_int) (pg_sub (pv 0) pe_int set_list))
  (pss_cons (ps_if (pt_cmpR op_ge (pv 3) (pe_op op_pow pe_int pe_int) (nomark _))
  (pss_one (ps_asg (pe_op op_fdivW (pv 3) (pv 1)) (pg_sub (pv 0) pe_int set_list)))
  pss_nil)
  (pss_one (ps_ret (pe_op op_mod (pe_callTy call_int1 (by rfl) T.z_int PySem.Pv.boot_int (pa_cons (pv 3) pa_nil)) (pv 1))))))))))), ?_⟩
    walk_at "begin"
    walk_at "go"
    have CD : CDivW r m := wide_div m0 mb (by decide) (by decide)
    have CZ : CMulW z 48271 := wide_mul (a := 31) (b := 16) (by omega) (by decide) (by decide) (by decide) (by decide)
    refine k_ite (fun c => ?_) (fun c => ?_)
    · walk_at "go"
      refine k_I m0 ?_
      walk_at "go"
      refine k_I CD ?_
      walk_at "go"
      exact k _ _ (Int.emod_nonneg _ (by omega)) (Int.emod_lt_of_pos _ m0) ⟨sc, ns, i, z, r / m, upd_same, hs.keep Keep.at_ ea, hn, i0, z0, z1⟩ Keep.at_
    · walk_at "go"
      have K1 : Keep a H (upd H a (HO.lst ([V.ref sc, V.int i, V.int z, V.int r].set (Int.toNat 1) (V.int (i + 1))))) := Keep.at_
      refine k_len (.inl (hs.keep K1 ea).sq) ?_
      walk_at "go"
      have zn : ∀ q : Int, 0 ≤ q % 2147483647 ∧ q % 2147483647 < 2147483647 := fun q => ⟨Int.emod_nonneg _ (by decide), Int.emod_lt_of_pos _ (by decide)⟩
      have mn : ∀ q : Int, 0 ≤ q % m ∧ q % m < m := fun q => ⟨Int.emod_nonneg _ (by omega), Int.emod_lt_of_pos _ m0⟩
      refine k_ite (fun c1 => ?_) (fun c1 => ?_)
      · walk_at "go"
        refine k_I CZ ?_
        walk_at "go"
        refine k_I (by decide) ?_
        walk_at "go"
        refine k_I (wide_div (b := 3) (by decide) (by decide) (by decide) (by decide)) ?_
        walk_at "go"
        refine k_I m0 ?_
        exact k _ _ (mn _).1 (mn _).2 ⟨sc, ns, i + 1, _, r, upd_same, (hs.keep K1 ea).keep Keep.at_ upd_same, hn, by omega, (zn _).1, (zn _).2⟩ (K1.trans Keep.at_)
      · walk_at "go"
        rw [List.length_map] at c1
        have hl : (i + 1 - 1).toNat < ns.length := by omega
        refine k_ixL (hs.keep K1 ea).sq (v := V.int (ns[(i + 1 - 1).toNat]'hl)) (at_of (j := (i + 1 - 1).toNat) (by omega) (by rw [List.getElem?_map, List.getElem?_eq_getElem hl]; rfl)) ?_
        generalize ns[(i + 1 - 1).toNat]'hl = cell
        walk_at "go"
        refine k_I CZ ?_
        walk_at "go"
        refine k_I (by decide) ?_
        walk_at "go"
        refine k_I (by exact ⟨by decide, by decide, by decide⟩) ?_
        walk_at "go"
        refine k_ite (fun c2 => ?_) (fun c2 => ?_)
        · walk_at "go"
          refine k_I (wide_div m0 mb (by decide) (by decide)) ?_
          walk_at "go"
          refine k_I m0 ?_
          exact k _ _ (mn _).1 (mn _).2 ⟨sc, ns, i + 1, _, _, upd_same, ((hs.keep K1 ea).keep Keep.at_ upd_same).keep Keep.at_ upd_same, hn, by omega, (zn _).1, (zn _).2⟩ ((K1.trans Keep.at_).trans Keep.at_)
        · walk_at "go"
          refine k_I m0 ?_
          exact k _ _ (mn _).1 (mn _).2 ⟨sc, ns, i + 1, _, _, upd_same, (hs.keep K1 ea).keep Keep.at_ upd_same, hn, by omega, (zn _).1, (zn _).2⟩ (K1.trans Keep.at_)
end
/-! ### enumerate over a tuple -/
section
open Builtin
theorem meets_enumT (t : Addr) (its : Array Value) : Meets (Builtin.«enumerate.__new__» ⟨[.type "enumerate", .ref t], []⟩) (fun _ R st => st.heap.IsTuple t its ∧
    R (.ok (.ret (.ref (st.heap.objs.size + 1)))) { st with heap := (st.heap.push { cls := .type "tuple_iterator", data := .fields #[.ref t, .int 0 0] }).push { cls := .type "enumerate", data := .fields #[.none, .bool false, .ref st.heap.objs.size, rawInt 0, .none, .none] } }) := by
  refine Meets.of_wp fun prog w A R st hh => ?_
  rcases st with ⟨h0, g0, d0, t0, o0⟩
  obtain ⟨isT, q⟩ := hh
  have sub := sub_enumerate
  have L : Heap.IsTuple (Shared.heap ⟨h0, g0, d0, t0, o0⟩) t its := isT
  obtain ⟨ob, e0, c0, n0, dt0⟩ := L
  have z : (Heap.push h0 { cls := .type "tuple_iterator", data := .fields #[.ref t, .int 0 0] }).objs.size = h0.objs.size + 1 := Heap.size_push ..
  have q' := q
  rw [← z] at q'
  wp_walk using PySem.wpAny_pyIter_tuple isT
  refine wpAny_stack_any fun fr => wpAny_pure ?_
  split
  · rename_i cc _ _ _ _ _
    cases (cc == Value.type "enumerate")
    · wp_walk using PySem.wpAny_pyIter_tuple isT
      exact ⟨_, rfl, q'⟩
    · wp_walk using PySem.wpAny_pyIter_tuple isT
      exact ⟨_, rfl, q'⟩
  · wp_walk using PySem.wpAny_pyIter_tuple isT
    exact ⟨_, rfl, q'⟩
end
section
variable {prog : Program} {w : World} {A : Around} {E : Value → Shared → Prop} {s : Shared}
theorem call_enumT {t : Addr} {its : Array Value} {Q : Value → Shared → Prop} (isT : s.heap.IsTuple t its)
    (k : ∀ h', IsEnum h' (s.heap.objs.size + 1) s.heap.objs.size 0 .none → h'.IsTupleIter s.heap.objs.size t 0 → (∀ b o, s.heap.get? b = some o → h'.get? b = some o) →
      Q (.ref (s.heap.objs.size + 1)) { s with heap := h' }) : wpAny (model prog w) A (call (.type "enumerate") [.ref t]) Q E s := by
  have m := meets_enumT t its
  refine callType_new F.called_enumerate (by decide) (F.typeCall_enumerate_1 _) (F.newCall_enumerate_1 _) (fun o => F.args_object_init_2 o _) F.entry_enumerate_new m ⟨isT, ?_⟩
  have z : (Heap.push s.heap { cls := .type "tuple_iterator", data := .fields #[.ref t, .int 0 0] }).objs.size = s.heap.objs.size + 1 := Heap.size_push ..
  have g := Heap.get?_push_size (Heap.push s.heap { cls := .type "tuple_iterator", data := .fields #[.ref t, .int 0 0] })
    (o := { cls := .type "enumerate", data := .fields #[.none, .bool false, .ref s.heap.objs.size, rawInt 0, .none, .none] }) rfl
  rw [z] at g
  exact ⟨⟨_, g, rfl⟩, k _ g ⟨_, Heap.get?_push_of_some _ (Heap.get?_push_size _ rfl), rfl, rfl⟩ fun b o x => Heap.get?_push_of_some _ (Heap.get?_push_of_some _ x)⟩
end
/-- the i-th pair is new: its place and the tuple's item -/
def Iet (K : PySem.W.Frag) (a : Addr) : It :=
  ⟨fun i H => ∃ (xs : List V) (x : V), SqT K H a xs ∧ xs[i]? = some x,
   fun i H v H' => ∃ p x, v = .ref p ∧ H p = none ∧ H' = upd H p (.tup [.int (i : Nat), x]) ∧ ∀ xs, SqT K H a xs → xs[i]? = some x,
   fun i H => ∃ xs : List V, SqT K H a xs ∧ xs.length ≤ i⟩
theorem turn_enumT {P : Program} {w : World} {K : PySem.W.Frag} {es : List Expr} {c : Nat} {tp : Pos} (a e it : Addr) :
    Turn P w K (.Tuple es c tp) (Iet K a) [e, it] e (fun i h => (∃ old, IsEnum h e it ((i : Nat) : Int) old) ∧ h.IsTupleIter it a i ∧ e ≠ it) := by
  have two : ∀ b, b ∈ [e, it] → b = e ∨ b = it := fun b hb => by simpa using hb
  constructor
  case mem => simp
  case obj =>
    rintro i h ⟨⟨old, he⟩, ⟨o, ho, hc, hd⟩, _⟩ b hb
    rcases two b hb with rfl | rfl
    · exact ⟨_, he, fun v q => nomatch q⟩
    · exact ⟨o, ho, fun v q => by rw [hd] at q; cases q⟩
  case keep =>
    rintro i h h' ⟨⟨old, he⟩, hi, ne⟩ k
    exact ⟨⟨old, k e (by simp) _ he⟩, hi.at fun o q => k it (by simp) o q, ne⟩
  case item =>
    rintro X rfl rfl rfl hC i pins s σ H E I hf ⟨⟨old, he⟩, hit, ne⟩ ⟨xs, x, hq, hx⟩
    obtain ⟨its, rv, p, hz⟩ := I.tuple hq
    obtain ⟨u, hu, ru⟩ := rv.get hx
    have le : e < s.heap.objs.size := Heap.lt_size he
    have li : it < s.heap.objs.size := by obtain ⟨_, q, _⟩ := hit; exact Heap.lt_size q
    have pt : s.heap.IsTuple a its.toArray := p
    have na : a ≠ it := fun z => by
      obtain ⟨o1, q1, c1, _⟩ := hit
      obtain ⟨o2, q2, c2, _⟩ := pt
      rw [z, q1] at q2
      cases q2
      rw [c1] at c2
      exact absurd c2 (by simp)
    have nb : e ≠ a := fun z => by
      obtain ⟨o2, q2, c2, _⟩ := pt
      have q3 : s.heap.get? e = _ := he
      rw [z, q2] at q3
      cases q3
      exact absurd c2 (by simp)
    have Dr := Draws.tuple (prog := X.prog) (w := X.w) (A := X.A.in1) (I.ok.hd hC) it a na its.toArray
    refine wpAny_pyNext_enum_itemD (i := i) Dr he ⟨hit, pt⟩ (by simpa using (List.getElem?_eq_some_iff.mp hu).1) ne (by simp [ne, nb]) fun x' h' tk px ho st hT hsz hk => ?_
    have ex : x' = u := by
      have q : its.toArray[i]? = some x' := px
      rw [List.getElem?_toArray, hu] at q
      exact (Option.some.inj q).symm
    subst ex
    refine ⟨_, rfl, wpAny_letOwnedTupleGo_enum (s := { s with heap := h', toks := tk + 1 }) ho fun h2 he2 sb => ?_⟩
    have hT2 : h2.get? s.heap.objs.size = some { cls := .type "tuple", data := .seq #[.int i tk, x'] } := (sb.2 _ (Nat.ne_of_gt le)).trans hT
    have new : ObjOk X.prog X.w (upd H s.heap.objs.size (.tup [.int (i : Nat), x])) h2 s.heap.objs.size (.tup [.int (i : Nat), x]) :=
      ⟨(by decide : 2 ≤ sizeLine), [.int i tk, x'], .cons ⟨_, rfl⟩ (.cons ru .nil), ⟨_, hT2, rfl, _, rfl⟩⟩
    have I1 : Inv X pins σ (upd H s.heap.objs.size (.tup [.int (i : Nat), x])) { s with heap := h2, toks := tk + 1 } :=
      I.turnedNew (ch := [e, it]) (fun b ob hb q => (sb.2 b (fun z => hb (by simp [z]))).trans (hk b ob (fun z => hb (by simp [z])) (fun z => hb (by simp [z])) q)) hf (Nat.le_refl _) new
    refine ⟨.ref s.heap.objs.size, _, I1, rfl, ⟨_, x, rfl, I.hok.fresh (Nat.le_refl _), rfl, fun ys hy => ?_⟩, ⟨⟨x', ?_⟩, ?_, ne⟩, fun b hb => ?_⟩
    · rw [I.tuple_inj hy hq]; exact hx
    · have e1 : ((i + 1 : Nat) : Int) = (i : Int) + 1 := by omega
      rw [e1]; exact he2
    · exact st.1.at fun o q => (sb.2 it (Ne.symm ne)).trans q
    · have lb : b < s.heap.objs.size := by rcases two b hb with rfl | rfl <;> assumption
      rw [upd_ne (Nat.ne_of_lt lb)]
      exact (hf b hb).1
  case done =>
    rintro X rfl rfl rfl hC i pins s σ H E I hf ⟨⟨old, he⟩, hit, ne⟩ ⟨xs, hq, hx⟩
    obtain ⟨its, rv, p, hz⟩ := I.tuple hq
    have pt : s.heap.IsTuple a its.toArray := p
    have na : a ≠ it := fun z => by
      obtain ⟨o1, q1, c1, _⟩ := hit
      obtain ⟨o2, q2, c2, _⟩ := pt
      rw [z, q1] at q2
      cases q2
      rw [c1] at c2
      exact absurd c2 (by simp)
    have out : its.toArray[i]? = none := by
      have hl := rv.length
      rw [List.getElem?_toArray]
      exact List.getElem?_eq_none (by omega)
    have Dr : Draws X.prog X.w X.A.in1 it [it, a] i (fun _ _ => True) (fun j h => j = i ∧ h.IsTupleIter it a j ∧ h.IsTuple a its.toArray) :=
      { live := fun j h st => by obtain ⟨_, ⟨o, ho, _⟩, _⟩ := st; exact ⟨o, ho⟩
        frame := fun j h h' st hk => ⟨st.1, st.2.1.at fun o e => hk it (by simp) o e, st.2.2.at fun o e => hk a (by simp) o e⟩
        item := fun j s Q E hj st hQ => absurd st.1 (Nat.ne_of_lt hj)
        done := fun s Q E st hE => wpAny_nextOf_tuple_end (A := X.A.in1) (I.ok.hd hC) st.2.1 st.2.2 out hE }
    obtain ⟨f0, f1, f2, f3, f4, f5⟩ := hf it (by simp)
    exact wpAny_pyNext_enum_endD Dr he ⟨rfl, hit, pt⟩ fun h' eb => ⟨rfl, I.turned (t' := s.toks) (fun b o hb q => eb b o hb q) f0 f1 f3 f4 f5⟩
  case self =>
    rintro A i s Q E ⟨⟨_, he⟩, _⟩ h
    exact wpAny_pyIter_enum he h
def iEnumT (K : PySem.W.Frag) (ta : TA) : TI := fun σ H R => ta σ H fun vs H1 => ∃ a xs, vs = [.ref a] ∧ SqT K H1 a xs ∧ R (Iet K a) H1
theorem pi_enumT {X : Cx} {e : Expr} {ta : TA} {p pos tpos : Pos} {es : List Expr} {c : Nat} (hg : Gl X "enumerate") (hm : X.mg "enumerate" = none) (ha : PA X [e] ta)
    (hs : starEach [e] X.env = [(false, eval e X.env)] := by rfl) : PI X (.Tuple es c tpos) (.Call (.Name "enumerate" p) [e] [] pos) (iEnumT X.K ta) := by
  constructor
  intro pins s σ H R I h
  refine PyProof.Rows.Call_ (ld_blt I hg hm (show bootBuiltins "enumerate" = some (.type "enumerate") by decide +kernel) (PyProof.Rows.callWith_type1 (thn (ha.run pos pins s σ H _ I h) ?_) hs rfl))
  rintro us s1 ⟨vs, H1, I1, r1, a, xs, rfl, hq, q⟩
  obtain ⟨u, rfl, ru⟩ := vals1 r1
  cases ru
  obtain ⟨its, rv, p', hz⟩ := I1.tuple hq
  have pt : s1.heap.IsTuple a its.toArray := p'
  refine call_enumT pt fun h' he hit hk => wpAny_pyIter_enum he ?_
  have I2 : Inv X pins σ H1 { s1 with heap := h' } := I1.kept (t' := s1.toks) hk
  refine ⟨s1.heap.objs.size + 1, [s1.heap.objs.size + 1, s1.heap.objs.size], _, _, H1, rfl, I2, turn_enumT a (s1.heap.objs.size + 1) s1.heap.objs.size, ⟨⟨.none, he⟩, hit, Nat.succ_ne_self _⟩, fun b hb => ?_, q⟩
  have lb : s1.heap.objs.size ≤ b := by
    have two : b = s1.heap.objs.size + 1 ∨ b = s1.heap.objs.size := by simpa using hb
    rcases two with rfl | rfl
    · exact Nat.le_succ _
    · exact Nat.le_refl _
  exact I1.fpOk lb (I1.hok.fresh lb)
/-- over a tuple that stands still, the place and the item in a new pair -/
theorem for_enumT {K : PySem.W.Frag} {a : Addr} {xs : List V} {g : TG} {tb : TS} {D : Ends} {σ : L2.St} {H : Hp} (Pv : Nat → L2.St → Hp → Prop) (h0 : Pv 0 σ H) (hl : ∀ i σ H, i ≤ xs.length → Pv i σ H → SqT K H a xs)
    (hs : ∀ i x p σ H, xs[i]? = some x → Pv i σ H → H p = none → g (.ref p) σ (upd H p (.tup [.int (i : Nat), x])) fun σ2 H2 => tb { D with nx := Pv (i + 1), ct := Pv (i + 1), bk := D.nx } σ2 H2) (hd : ∀ σ H, Pv xs.length σ H → D.nx σ H) :
    ∃ W : Nat → Nat → L2.St → Hp → Prop, (∃ m, W 0 m σ H) ∧ ∀ i m σ H, W i m σ H → ((Iet K a).stop i H ∧ D.nx σ H) ∨
      ((Iet K a).go i H ∧ ∃ N : L2.St → Hp → Prop, (∀ σ' H', N σ' H' → ∃ m', m' < m ∧ W (i + 1) m' σ' H') ∧ ∀ x H', (Iet K a).yld i H x H' → g x σ H' fun σ2 H2 => tb { D with nx := N, ct := N, bk := D.nx } σ2 H2) := by
  refine ⟨fun i m σ H => m + i = xs.length ∧ Pv i σ H, ⟨xs.length, by simp, h0⟩, fun i m σ H ⟨em, hP⟩ => ?_⟩
  have sq := hl i σ H (by omega) hP
  by_cases c : i < xs.length
  · refine .inr ⟨⟨xs, xs[i], sq, List.getElem?_eq_getElem c⟩, Pv (i + 1), fun σ' H' z => ⟨m - 1, by omega, by omega, z⟩, ?_⟩
    rintro v H' ⟨p, x, rfl, hp, rfl, hx⟩
    exact hs i x p σ H (hx xs sq) hP hp
  · have e : i = xs.length := by omega
    exact .inl ⟨⟨xs, sq, by omega⟩, hd σ H (e ▸ hP)⟩
/-! ### machines as data -/
structure Stp where
  b : Nat
  c : Nat
  e : Nat
  g : Int
structure MD where
  n : Nat
  ss : List Stp
  es : List Nat
def stpV (s : Stp) : List V := [.int (s.b : Nat), .str ⟨#[s.c]⟩, .int (s.e : Nat), .int s.g]
structure Stp.Ok (n : Nat) (s : Stp) : Prop where
  b : s.b < n
  c : 97 ≤ s.c
  c' : s.c ≤ 100
  e : s.e < n
  g : -(10 ^ 30) ≤ s.g
  g' : s.g ≤ 10 ^ 30
def Stp.lt (s t : Stp) : Prop := s.b < t.b ∨ (s.b = t.b ∧ s.c < t.c)
structure MD.Ok (m : MD) : Prop where
  n1 : 1 ≤ m.n
  n8 : m.n ≤ 8
  ok : ∀ s ∈ m.ss, s.Ok m.n
  up : m.ss.Pairwise Stp.lt
  len : m.ss.length ≤ 32
  eb : ∀ e ∈ m.es, e < m.n
  eu : m.es.Pairwise (· < ·)
  el : m.es.length ≤ 8
/-- steps alone, whatever the number of stands -/
structure StOk (N : Nat) (s : Stp) : Prop where
  b : s.b < N
  c : 97 ≤ s.c
  c' : s.c ≤ 100
  e : s.e < N
  g : -(10 ^ 32) ≤ s.g
  g' : s.g ≤ 10 ^ 32
structure SsOk (N : Nat) (ss : List Stp) : Prop where
  n1 : 1 ≤ N
  n64 : N ≤ 63
  ok : ∀ s ∈ ss, StOk N s
  len : ss.length ≤ 300
theorem MD.Ok.sok {m : MD} (o : m.Ok) : SsOk m.n m.ss := ⟨o.n1, by have := o.n8; omega, fun s h => let k := o.ok s h; ⟨k.b, k.c, k.c', k.e, by have := k.g; omega, by have := k.g'; omega⟩, by have := o.len; omega⟩
/-- the steps' tuples -/
def StpsAt (K : PySem.W.Frag) (H : Hp) (vs : List V) (ss : List Stp) : Prop := vs.length = ss.length ∧ ∀ (i : Nat) (s : Stp), ss[i]? = some s → ∃ p, vs[i]? = some (V.ref p) ∧ SqT K H p (stpV s)
def nats (es : List Nat) : List V := es.map fun e => V.int (e : Nat)
def StAt (K : PySem.W.Frag) (H : Hp) (t : Addr) (ss : List Stp) : Prop := ∃ us, SqT K H t us ∧ StpsAt K H us ss
/-- steps and ends as they stand -/
def PartsAt (K : PySem.W.Frag) (H : Hp) (t u : Addr) (m : MD) : Prop := (∃ vs, SqT K H t vs ∧ StpsAt K H vs m.ss) ∧ SqT K H u (nats m.es)
def DAt (K : PySem.W.Frag) (H : Hp) (d : Addr) (m : MD) : Prop := ∃ t u, H d = some (.dK [(.inr "stands", .int (m.n : Nat)), (.inr "steps", .ref t), (.inr "ends", .ref u)]) ∧ PartsAt K H t u m
def mfs (n : Nat) (t u : Addr) : List (Str × V) := [("_stands", .int (n : Nat)), ("_steps", .ref t), ("_ends", .ref u)]
def MAt (K : PySem.W.Frag) (C : Addr) (H : Hp) (x : Addr) (m : MD) : Prop := ∃ dx t u, H x = some (.ins C dx (mfs m.n t u)) ∧ PartsAt K H t u m
section
variable {K : PySem.W.Frag} {a : Addr} {H H' : Hp}
/-- tuples stay -/
def Tups (H H' : Hp) : Prop := (∀ b xs, H b = some (.tup xs) → H' b = some (.tup xs)) ∧ ∀ b o xs, H b = some (.frz o (.tup xs)) → H' b = some (.frz o (.tup xs))
theorem Tups.trans {H H1 H2 : Hp} (a : Tups H H1) (b : Tups H1 H2) : Tups H H2 := ⟨fun c xs e => b.1 c xs (a.1 c xs e), fun c o xs e => b.2 c o xs (a.2 c o xs e)⟩
theorem Tups.sq {p : Addr} {xs : List V} (k : Tups H H') (h : SqT K H p xs) : SqT K H' p xs := by
  rcases h with (h | ⟨o, h⟩) | h
  · exact .inl (.inl (k.1 _ _ h))
  · exact .inl (.inr ⟨o, k.2 _ _ _ h⟩)
  · exact .inr h
theorem Tups.steps {vs : List V} {ss : List Stp} (k : Tups H H') (h : StpsAt K H vs ss) : StpsAt K H' vs ss := ⟨h.1, fun i s e => let ⟨p, e1, q⟩ := h.2 i s e; ⟨p, e1, k.sq q⟩⟩
theorem Tups.stAt {t : Addr} {ss : List Stp} (k : Tups H H') (h : StAt K H t ss) : StAt K H' t ss := let ⟨us, q, z⟩ := h; ⟨us, k.sq q, k.steps z⟩
theorem Tups.parts {t u : Addr} {m : MD} (k : Tups H H') (h : PartsAt K H t u m) : PartsAt K H' t u m := let ⟨⟨vs, q, z⟩, r⟩ := h; ⟨⟨vs, k.sq q, k.steps z⟩, k.sq r⟩
theorem same_tups (k : Same H H') : Tups H H' := ⟨fun _ _ e => k _ _ e, fun _ _ _ e => k _ _ e⟩
theorem Keep.tups {l : List V} (k : Keep a H H') (ha : H a = some (.lst l)) : Tups H H' := ⟨fun b _ e => k _ _ (fun z => by rw [z, ha] at e; cases e) e, fun b _ _ e => k _ _ (fun z => by rw [z, ha] at e; cases e) e⟩
theorem Tups.new {p : Addr} {o : HO} (h : H p = none) : Tups H (upd H p o) := same_tups (Same.new h)
theorem Tups.lst {p : Addr} {xs : List V} {o : HO} (h : H p = some (.lst xs)) : Tups H (upd H p o) := Keep.tups (Keep.at_) h
theorem DAt.keep {d : Addr} {m : MD} {l : List V} (h : DAt K H d m) (k : Keep a H H') (ha : H a = some (.lst l)) : DAt K H' d m :=
  let ⟨t, u, e, q⟩ := h; ⟨t, u, k _ _ (fun z => by rw [z, ha] at e; cases e) e, (k.tups ha).parts q⟩
theorem MAt.keep {C x : Addr} {m : MD} {l : List V} (h : MAt K C H x m) (k : Keep a H H') (ha : H a = some (.lst l)) : MAt K C H' x m :=
  let ⟨dx, t, u, e, q⟩ := h; ⟨dx, t, u, k _ _ (fun z => by rw [z, ha] at e; cases e) e, (k.tups ha).parts q⟩
theorem DAt.same {d : Addr} {m : MD} (h : DAt K H d m) (k : Same H H') : DAt K H' d m := let ⟨t, u, e, q⟩ := h; ⟨t, u, k _ _ e, (same_tups k).parts q⟩
theorem MAt.same {C x : Addr} {m : MD} (h : MAt K C H x m) (k : Same H H') : MAt K C H' x m := let ⟨dx, t, u, e, q⟩ := h; ⟨dx, t, u, k _ _ e, (same_tups k).parts q⟩
theorem StpsAt.snoc {vs : List V} {ss : List Stp} {p : Addr} {s : Stp} (h : StpsAt K H vs ss) (q : SqT K H p (stpV s)) : StpsAt K H (vs ++ [V.ref p]) (ss ++ [s]) := by
  refine ⟨by rw [List.length_append, List.length_append, h.1]; rfl, fun i t e => ?_⟩
  by_cases c : i < ss.length
  · rw [List.getElem?_append_left c] at e
    obtain ⟨r, e1, q1⟩ := h.2 i t e
    exact ⟨r, by rw [List.getElem?_append_left (by rw [h.1]; exact c)]; exact e1, q1⟩
  · rw [List.getElem?_append_right (by omega)] at e
    have z : i - ss.length = 0 := by
      have := (List.getElem?_eq_some_iff.mp e).1
      simp at this
      omega
    rw [z] at e
    cases e
    exact ⟨p, by rw [List.getElem?_append_right (by rw [h.1]; omega), h.1, z]; rfl, q⟩
end
/-! ### what a machine checks -/
def NotInt (K : PySem.W.Frag) (H : Hp) (v : V) : Prop := (∃ b, v = .bl b) ∨ ∃ t, TyX K H v t ∧ PySem.W.kitOne K t (.type "int") = some false
theorem k_isi {K : PySem.W.Frag} {H : Hp} {Q : VK} {x c : V} {t u : Value} {b : Bool} (hc : ClsV c u) (ht : TyX K H x t) (hk : PySem.W.kitOne K t u = some b) (h : Q (.bl b) H) : rIsi K [x, c] H Q := ⟨x, c, t, u, b, rfl, hc, ht, hk, h⟩
theorem k_chain {r r' : R2} {ta tb tc : TE} {σ : L2.St} {H : Hp} {Q : VK} (h : ta σ H fun x H1 => tb σ H1 fun y H2 => r x y H2 fun z H3 => ∃ k, z = .bl k ∧
  (if k = true then tc σ H3 fun w' H4 => r' y w' H4 Q else Q (.bl false) H3)) : tChain r r' ta tb tc σ H Q := h
def sp_whole (K : PySem.W.Frag) : Sp := fun vs H Q _ => ∃ v : V, vs = [v] ∧ ((∃ i, v = .int i ∧ Q (.bl true) H) ∨ (NotInt K H v ∧ Q (.bl false) H))
def sp_between (K : PySem.W.Frag) : Sp := fun vs H Q _ => ∃ (v : V) (lo hi : Int), vs = [v, .int lo, .int hi] ∧ ((∃ i, v = .int i ∧ Q (.bl (decide (lo ≤ i ∧ i ≤ hi))) H) ∨ (NotInt K H v ∧ Q (.bl false) H))
def sp_is_stand (K : PySem.W.Frag) : Sp := fun vs H Q _ => ∃ (v : V) (n : Int), vs = [.int n, v] ∧ ((∃ i, v = .int i ∧ Q (.bl (decide (0 ≤ i ∧ i < n))) H) ∨ (NotInt K H v ∧ Q (.bl false) H))
def sp_check_stands (K : PySem.W.Frag) : Sp := fun vs H Q _ => ∃ n : Int, vs = [.int n] ∧ 1 ≤ n ∧ n ≤ 8 ∧ Q .non H
section
variable {P : Program} {w : World} {K : PySem.W.Frag} {mg : Str → Option Value} {base : Heap}
theorem ok_is_whole_number (T : Txt K mg) : FnOk P w K mg base (L2.CX P w) 1 T.a_is_whole_number T.fd_is_whole_number ["value"] (sp_whole K) := by
  refine T.F_is_whole_number.okX sc_is_whole_number (fun vs H Q E h => ?_) (fun cdv A outer s H vs Q E hr h => ?_)
  · obtain ⟨v, rfl, _⟩ := h
    rfl
  · obtain ⟨v, rfl, k⟩ := h
    refine ⟨_, (PSs.nox (pss_one (ps_ret (pe_and (pe_callB call_isi (by rfl) T.z_isinstance (by decide +kernel) (pa_cons (pv 0) (pa_cons (pe_bltn (v := .ty "int") (by rfl) T.z_int (by decide +kernel) rfl) pa_nil))) (pe_one (pe_not (pe_callB call_isi (by rfl) T.z_isinstance (by decide +kernel) (pa_cons (pv 0) (pa_cons (pe_bltn (v := .ty "bool") (by rfl) T.z_bool (by decide +kernel) rfl) pa_nil))))))))), ?_⟩
    walk_at "begin"
    walk_at "go"
    rcases k with ⟨i, rfl, k⟩ | ⟨⟨b, rfl⟩ | ⟨t, ht, hk⟩, k⟩
    · refine k_isi (.ty _) (.base (.int i)) (kit_ty (b := "int") (r := true) (by decide +kernel)) ?_
      walk_at "go"
      refine iteT ?_
      walk_at "go"
      refine k_isi (.ty _) (.base (.int i)) (kit_ty (b := "bool") (r := false) (by decide +kernel)) ?_
      walk_at "go"
      exact k
    · refine k_isi (.ty _) (.base (.bl b)) (kit_ty (b := "int") (r := true) (by decide +kernel)) ?_
      walk_at "go"
      refine iteT ?_
      walk_at "go"
      refine k_isi (.ty _) (.base (.bl b)) (kit_ty (b := "bool") (r := true) (by decide +kernel)) ?_
      walk_at "go"
      exact k
    · refine k_isi (.ty _) ht hk ?_
      walk_at "go"
      exact iteF k
theorem ok_is_integer_between (T : Txt K mg) : FnOk P w K mg base (L2.CX P w) 2 T.a_is_integer_between T.fd_is_integer_between ["value", "least", "most"] (sp_between K) := by
  refine T.F_is_integer_between.okX sc_is_integer_between (fun vs H Q E h => ?_) (fun cdv A outer s H vs Q E hr h => ?_)
  · obtain ⟨v, lo, hi, rfl, _⟩ := h
    rfl
  · obtain ⟨v, lo, hi, rfl, k⟩ := h
    refine ⟨_, (PSs.nox (pss_one (ps_ret (pe_and (pe_call (ok_is_whole_number T) (hr.mono (by decide)) (by rfl) T.m_is_whole_number T.k_is_whole_number T.b_is_whole_number .nil passL (pa_cons (pv 0) pa_nil)) (pe_one (pe_chain op_le op_le (pv 1) (pv 0) (pv 2))))))), ?_⟩
    walk_at "begin"
    walk_at "go"
    rcases k with ⟨i, rfl, k⟩ | ⟨ni, k⟩
    · refine ⟨_, rfl, .inl ⟨i, rfl, ?_⟩⟩
      walk_at "go"
      refine iteT (k_chain ?_)
      walk_at "go"
      refine k_ite (fun c => ?_) (fun c => ?_)
      · walk_at "go"
        rw [decide_eq_decide.mpr (show lo ≤ i ∧ i ≤ hi ↔ i ≤ hi from ⟨fun z => z.2, fun z => ⟨c, z⟩⟩)] at k
        exact k
      · walk_at "go"
        rw [decide_eq_false (show ¬ (lo ≤ i ∧ i ≤ hi) from fun z => c z.1)] at k
        exact k
    · refine ⟨_, rfl, .inr ⟨ni, ?_⟩⟩
      walk_at "go"
      exact iteF k
theorem ok_is_stand (T : Txt K mg) : FnOk P w K mg base (L2.CX P w) 3 T.a_is_stand T.fd_is_stand ["stands", "value"] (sp_is_stand K) := by
  refine T.F_is_stand.okX sc_is_stand (fun vs H Q E h => ?_) (fun cdv A outer s H vs Q E hr h => ?_)
  · obtain ⟨v, n, rfl, _⟩ := h
    rfl
  · obtain ⟨v, n, rfl, k⟩ := h
    refine ⟨_, (PSs.nox (pss_one (ps_ret (pe_call (ok_is_integer_between T) (hr.mono (by decide)) (by rfl) T.m_is_integer_between T.k_is_integer_between T.b_is_integer_between .nil passL (pa_cons (pv 1) (pa_cons pe_int (pa_cons (pe_op op_sub (pv 0) pe_int) pa_nil))))))), ?_⟩
    walk_at "begin"
    walk_at "go"
    refine ⟨v, 0, n - 1, rfl, ?_⟩
    rcases k with ⟨i, rfl, k⟩ | ⟨ht, k⟩
    · refine .inl ⟨i, rfl, ?_⟩
      rw [decide_eq_decide.mpr (show (0 ≤ i ∧ i < n) ↔ (0 ≤ i ∧ i ≤ n - 1) by omega)] at k
      exact k
    · exact .inr ⟨ht, k⟩
theorem ok_check_stands (T : Txt K mg) : FnOk P w K mg base (L2.CX P w) 3 T.a_check_stands T.fd_check_stands ["stands"] (sp_check_stands K) := by
  refine T.F_check_stands.okX sc_check_stands (fun vs H Q E h => ?_) (fun cdv A outer s H vs Q E hr h => ?_)
  · obtain ⟨n, rfl, _⟩ := h
    rfl
  · obtain ⟨n, rfl, n1, n8, k⟩ := h
    refine ⟨_, (PSs.nox (pss_one (ps_if (pt_not (pt_val (pe_call (ok_is_integer_between T) (hr.mono (by decide)) (by rfl) T.m_is_integer_between T.k_is_integer_between T.b_is_integer_between .nil passL (pa_cons (pv 0) (pa_cons pe_int (pa_cons (pe_glob (by rfl) T.m_MOST_STANDS T.r_MOST_STANDS) pa_nil))))))
  (pss_one ps_never)
  pss_nil))), ?_⟩
    walk_at "begin"
    walk_at "go"
    refine ⟨_, 1, 8, rfl, .inl ⟨n, rfl, ?_⟩⟩
    rw [decide_eq_true (show 1 ≤ n ∧ n ≤ 8 from ⟨n1, n8⟩)]
    walk_at "go"
    refine iteF ?_
    walk_at "go"
    exact k
end
/-! ### (int, text) <= (int, text) -/
def le2 (i : Int) (s : Str) (j : Int) (t : Str) : Bool := if i = j then (if s = t then true else !decide (t.cps.toList < s.cps.toList)) else decide (i ≤ j)
def rLe2 (K : PySem.W.Frag) : R2 := fun x y H Q => ∃ (a b : Addr) (i j : Int) (s t : Str), x = .ref a ∧ y = .ref b ∧ SqT K H a [.int i, .str s] ∧ SqT K H b [.int j, .str t] ∧ Q (.bl (le2 i s j t)) H
theorem op_le2 {X : Cx} (hu : X.A.units < cLine) : OpR X (compareOp .LtE) (rLe2 X.K) := by
  rintro pins st σ H x y v u Q I rx ry ⟨a, b, i, j, s, t, rfl, rfl, ha, hb, q⟩
  cases rx
  cases ry
  obtain ⟨us, r1, p1, _⟩ := I.tuple ha
  obtain ⟨ws, r2, p2, _⟩ := I.tuple hb
  obtain ⟨u1, u2, rfl, ⟨k1, rfl⟩, ⟨k2, rfl⟩⟩ := vals2 r1
  obtain ⟨w1, w2, rfl, ⟨l1, rfl⟩, ⟨l2, rfl⟩⟩ := vals2 r2
  have R := Ob.RcOp.tuples_le (A := X.A) (s := st) (e := fun n => if n = 0 then (i == j) else decide (s = t)) (r := fun n => if n = 0 then decide (i ≤ j) else !decide (t.cps.toList < s.cps.toList)) p1 p2 hu
    (fun n h1 h2 => by
      have n2 : n < 2 := h1
      match n, n2 with
      | 0, _ => exact SeqAt.EqAt.int_int _ _ _ _
      | 1, _ => exact SeqAt.EqAt.str_str _ _ _ _)
    (fun n h1 h2 _ => by
      have n2 : n < 2 := h1
      match n, n2 with
      | 0, _ => exact Ob.RcOp.le_int _ _ _ _
      | 1, _ => exact fun prog w E Q hQ => PySem.P.le_str hQ)
  have z : Ob.lexAt (fun n => if n = 0 then (i == j) else decide (s = t)) (fun n => if n = 0 then decide (i ≤ j) else !decide (t.cps.toList < s.cps.toList)) (decide ((2 : Nat) ≤ 2)) 0 (min 2 2) = le2 i s j t := by
    show Ob.lexAt _ _ _ 0 2 = _
    rw [Ob.lexAt_succ]
    unfold le2
    by_cases c : i = j
    · have c' : (i == j) = true := beq_iff_eq.mpr c
      simp only [if_pos, c', if_pos c]
      rw [Ob.lexAt_succ]
      by_cases d : s = t
      · simp [d, Ob.lexAt_zero]
      · simp [d]
    · have c' : (i == j) = false := beq_eq_false_iff_ne.mpr c
      simp [c']
      exact fun z => absurd z c
  have R' := R X.prog X.w X.xe (EP X pins σ Q) ⟨.bl _, H, I, rfl, (by rw [← z] at q; exact q)⟩
  exact R'
/-! ### steps, ends, machines -/
theorem ty_tup {K : PySem.W.Frag} {H : Hp} {p : Addr} {xs : List V} (h : SqT K H p xs) : TyX K H (.ref p) (.type "tuple") := by
  rcases h with (h | ⟨o, h⟩) | ⟨o, its, n, h, hc, _⟩
  · exact .base (.tup h)
  · exact .fTuple h
  · exact .kTuple h hc
theorem k_in {K : PySem.W.Frag} {neg : Bool} {H : Hp} {Q : VK} {p : Addr} {x : V} {xs : List V} (h : SqL K H p xs ∨ SqT K H p xs) (fx : flatV x = true) (fa : xs.all flatV = true) (q : Q (.bl (if neg then !inV x xs else inV x xs)) H) : rIn K neg x (.ref p) H Q := ⟨p, xs, rfl, h, fx, fa, q⟩
theorem letter_in {c : Nat} (h : 97 ≤ c) (h' : c ≤ 100) : inV (.str ⟨#[c]⟩) [V.str "a", V.str "b", V.str "c", V.str "d"] = true := by
  have z : c = 97 ∨ c = 98 ∨ c = 99 ∨ c = 100 := by omega
  rcases z with rfl | rfl | rfl | rfl <;> decide
theorem k_slA2 {K : PySem.W.Frag} {H : Hp} {Q : VK} {a : Addr} {x y z u : V} (h : SqT K H a [x, y, z, u]) (q : ∀ p, H p = none → Q (.ref p) (upd H p (.tup [x, y]))) : rSlA K (.ref a) none (some 2) H Q :=
  ⟨a, _, rfl, h, fun e => absurd e (by show ¬ ((0 : Nat) = 0 ∧ (2 : Nat) = 4); decide), fun _ p hp => q p hp⟩
theorem le2_no {s t : Stp} (h : s.lt t) : le2 (t.b : Nat) ⟨#[t.c]⟩ (s.b : Nat) ⟨#[s.c]⟩ = false := by
  unfold le2
  rcases h with h | ⟨h1, h2⟩
  · rw [if_neg (by omega), decide_eq_false (by omega)]
  · rw [if_pos (by omega), if_neg (by intro z; injection z with z; simp at z; omega)]
    simp
    exact List.Lex.rel h2
theorem few {n : Nat} (k : Nat) (h : k < 1000) (q : n ≤ k) : n < 1000 := Nat.lt_of_le_of_lt q h
def sp_is_step (K : PySem.W.Frag) : Sp := fun vs H Q _ => ∃ (n : Nat) (p : Addr) (s : Stp), vs = [.int (n : Nat), .ref p] ∧ SqT K H p (stpV s) ∧ s.Ok n ∧ Q (.bl true) H
def sp_check_steps (K : PySem.W.Frag) : Sp := fun vs H Q _ => ∃ (t : Addr) (us : List V) (m : MD), vs = [.int (m.n : Nat), .ref t] ∧ SqT K H t us ∧ StpsAt K H us m.ss ∧ m.Ok ∧ ∀ H', Same H H' → Q .non H'
def sp_check_ends (K : PySem.W.Frag) : Sp := fun vs H Q _ => ∃ (t : Addr) (m : MD), vs = [.int (m.n : Nat), .ref t] ∧ SqT K H t (nats m.es) ∧ m.Ok ∧ ∀ H', Same H H' → Q .non H'
/-- whether values are ascending integers from l to below n -/
def ascV (n : Int) : Int → List V → Bool
  | _, [] => true
  | l, .int j :: r => decide (l ≤ j ∧ j ≤ n - 1) && ascV n (j + 1) r
  | _, _ => false
theorem ascV_odd {n l : Int} {x : V} {r : List V} (h : ∀ j, x ≠ .int j) : ascV n l (x :: r) = false := by
  cases x with
  | int j => exact (h j rfl).elim
  | _ => rfl
theorem ascV_nats {n : Nat} : ∀ {es : List Nat} {l : Nat}, (∀ e ∈ es, e < n) → es.Pairwise (· < ·) → (∀ e ∈ es, l ≤ e) → ascV (n : Nat) (l : Nat) (nats es) = true
  | [], _, _, _, _ => rfl
  | e :: es, l, h1, h2, h3 => by
    show (decide (((l : Nat) : Int) ≤ (e : Nat) ∧ ((e : Nat) : Int) ≤ (n : Nat) - 1) && ascV (n : Nat) (((e + 1 : Nat)) : Int) (nats es)) = true
    have a := h1 e (List.mem_cons_self ..)
    have b := h3 e (List.mem_cons_self ..)
    have c := List.pairwise_cons.mp h2
    rw [decide_eq_true (by omega), ascV_nats (fun x hx => h1 x (List.mem_cons_of_mem _ hx)) c.2 (fun x hx => c.1 x hx)]
    rfl
def sp_asc (K : PySem.W.Frag) : Sp := fun vs H Q _ => ∃ (v : V) (n : Int), vs = [v, .int n] ∧ ((∃ ty, TyX K H v ty ∧ PySem.W.kitOne K ty (.type "tuple") = some false ∧ Q (.bl false) H) ∨
  ∃ t xs, v = .ref t ∧ SqT K H t xs ∧ (∀ x ∈ xs, (∃ j, x = .int j) ∨ (NotInt K H x ∧ ∀ j, x ≠ .int j)) ∧ Q (.bl (ascV n 0 xs)) H)
def sp_init (K : PySem.W.Frag) (C : Addr) : Sp := fun vs H Q _ => ∃ (x dx t u : Addr) (m : MD), vs = [.ref x, .int (m.n : Nat), .ref t, .ref u] ∧ H x = some (.ins C dx []) ∧ PartsAt K H t u m ∧ m.Ok ∧
  ∀ H', Keep x H H' → H' x = some (.ins C dx (mfs m.n t u)) → Q .non H'
def sp_machine (K : PySem.W.Frag) (C : Addr) : Sp := fun vs H Q _ => ∃ (d : Addr) (m : MD), vs = [.ref d] ∧ DAt K H d m ∧ m.Ok ∧ ∀ x H', Same H H' → H x = none → MAt K C H' x m → Q (.ref x) H'
section
variable {P : Program} {w : World} {K : PySem.W.Frag} {mg : Str → Option Value} {base : Heap}
theorem ok_is_step (T : Txt K mg) : FnOk P w K mg base (L2.CX P w) 4 T.a_is_step T.fd_is_step ["stands", "value"] (sp_is_step K) := by
  refine T.F_is_step.okX sc_is_step (fun vs H Q E h => ?_) (fun cdv A outer s H vs Q E hr h => ?_)
  · obtain ⟨n, p, s, rfl, _⟩ := h
    rfl
  · obtain ⟨n, p, t, rfl, hp, o, k⟩ := h
    refine ⟨_, (PSs.nox (pss_cons (ps_if (PW.pt (pw_or (pt_not (pt_val (pe_callB call_isi (by rfl) T.z_isinstance (by decide +kernel) (pa_cons (pv 1) (pa_cons (pe_bltn (v := .ty "tuple") (by rfl) T.z_tuple (by decide +kernel) rfl) pa_nil))))) (pw_or1 (pt_cmpR op_ne (pe_callB call_len_seq (by rfl) T.z_len PySem.boot_len (pa_cons (pv 1) pa_nil)) pe_int (nomark _)))))
  (pss_one (ps_ret pe_bl))
  pss_nil)
  (pss_cons (ps_asg (pv 1) (pg_tup rfl (pgs_cons (pg_name (i := 2) sc_is_step.nd rfl (Or.inl rfl)) (pgs_cons (pg_name (i := 3) sc_is_step.nd rfl (Or.inl rfl)) (pgs_cons (pg_name (i := 4) sc_is_step.nd rfl (Or.inl rfl)) (pgs_cons (pg_name (i := 5) sc_is_step.nd rfl (Or.inl rfl)) pgs_nil))))))
  (pss_one (ps_ret (pe_and (pe_call (ok_is_stand T) (hr.mono (by decide)) (by rfl) T.m_is_stand T.k_is_stand T.b_is_stand .nil passL (pa_cons (pv 0) (pa_cons (pv 2) pa_nil))) (pe_and (pe_cmpR op_in_seq (pv 3) (pe_glob (by rfl) T.m_LETTERS T.r_LETTERS) (by rfl)) (pe_and (pe_call (ok_is_stand T) (hr.mono (by decide)) (by rfl) T.m_is_stand T.k_is_stand T.b_is_stand .nil passL (pa_cons (pv 0) (pa_cons (pv 4) pa_nil))) (pe_one (pe_call (ok_is_integer_between T) (hr.mono (by decide)) (by rfl) T.m_is_integer_between T.k_is_integer_between T.b_is_integer_between .nil passL (pa_cons (pv 5) (pa_cons (pe_un un_neg (pe_glob (by rfl) T.m_MOST_GAIN T.r_MOST_GAIN)) (pa_cons (pe_glob (by rfl) T.m_MOST_GAIN T.r_MOST_GAIN) pa_nil))))))))))))), ?_⟩
    walk_at "begin"
    walk_at "go"
    refine k_isi (.ty _) (ty_tup hp) (kit_ty (b := "tuple") (r := true) (by decide +kernel)) ?_
    walk_at "go"
    refine iteF ?_
    walk_at "go"
    refine k_len (.inr hp) ?_
    walk_at "go"
    refine iteF ?_
    walk_at "go"
    refine k_gt hp rfl ?_
    unfold stpV
    walk_at "go"
    refine ⟨_, _, rfl, .inl ⟨_, rfl, ?_⟩⟩
    rw [decide_eq_true (show 0 ≤ ((t.b : Nat) : Int) ∧ ((t.b : Nat) : Int) < (n : Nat) from ⟨Int.natCast_nonneg _, by have := o.b; omega⟩)]
    walk_at "go"
    refine iteT ?_
    walk_at "go"
    refine k_in (.inr (T.s_LETTERS _)) rfl (by decide) ?_
    rw [letter_in o.c o.c']
    walk_at "go"
    refine iteT ?_
    walk_at "go"
    refine ⟨_, _, rfl, .inl ⟨_, rfl, ?_⟩⟩
    rw [decide_eq_true (show 0 ≤ ((t.e : Nat) : Int) ∧ ((t.e : Nat) : Int) < (n : Nat) from ⟨Int.natCast_nonneg _, by have := o.e; omega⟩)]
    walk_at "go"
    refine iteT ?_
    walk_at "go"
    refine ⟨_, _, _, rfl, .inl ⟨_, rfl, ?_⟩⟩
    rw [decide_eq_true (show -1000000000000000000000000000000 ≤ t.g ∧ t.g ≤ 1000000000000000000000000000000 from ⟨by have := o.g; omega, by have := o.g'; omega⟩)]
    exact k
theorem ok_check_steps (T : Txt K mg) : FnOk P w K mg base (L2.CX P w) 5 T.a_check_steps T.fd_check_steps ["stands", "steps"] (sp_check_steps K) := by
  refine T.F_check_steps.okX sc_check_steps (fun vs H Q E h => ?_) (fun cdv A outer s H vs Q E hr h => ?_)
  · obtain ⟨t, us, m, rfl, _⟩ := h
    rfl
  · obtain ⟨t, us, m, rfl, ht, hs, o, k⟩ := h
    refine ⟨_, (PSs.nox (pss_cons (ps_if (pt_not (pt_val (pe_callB call_isi (by rfl) T.z_isinstance (by decide +kernel) (pa_cons (pv 1) (pa_cons (pe_bltn (v := .ty "tuple") (by rfl) T.z_tuple (by decide +kernel) rfl) pa_nil)))))
  (pss_one ps_never)
  pss_nil)
  (pss_one (ps_for PassesOwn.never rfl (pi_enumT (by rfl) T.z_enumerate (pa_cons (pv 1) pa_nil)) (pg_tup rfl (pgs_cons (pg_name (i := 2) sc_check_steps.nd rfl (Or.inl rfl)) (pgs_cons (pg_name (i := 3) sc_check_steps.nd rfl (Or.inl rfl)) pgs_nil)))
  (pss_cons (ps_if (pt_not (pt_val (pe_call (ok_is_step T) (hr.mono (by decide)) (by rfl) T.m_is_step T.k_is_step T.b_is_step .nil passL (pa_cons (pv 0) (pa_cons (pv 3) pa_nil)))))
  (pss_one ps_never)
  pss_nil)
  (pss_one (ps_if (PW.pt (pw_and (pt_cmpR op_gt (pv 2) pe_int (nomark _)) (pw_and1 (pt_cmpR (op_le2 hr.units0) (pe_slice sl_tupA (pv 3) po_none (po_some pe_int)) (pe_slice sl_tupA (pe_ix ix_tup (pv 1) (pe_op op_sub (pv 2) pe_int) (fun _ _ => rfl)) po_none (po_some pe_int)) (nomark _)))))
  (pss_one ps_never)
  pss_nil))))))), ?_⟩
    walk_at "begin"
    walk_at "go"
    refine k_isi (.ty _) (ty_tup ht) (kit_ty (b := "tuple") (r := true) (by decide +kernel)) ?_
    walk_at "go"
    refine iteF ?_
    walk_at "go"
    refine ⟨_, rfl, t, us, rfl, ht, for_enumT (xs := us) (fun i σ H' => Same H H' ∧ ∃ a b, σ = [some (.int (m.n : Nat)), some (.ref t), a, b]) ⟨Same.refl _, _, _, rfl⟩ (fun i σ H' _ ⟨z, _⟩ => (same_tups z).sq ht) ?_ ?_⟩
    · rintro i x p σ H1 hx ⟨z, a, b, rfl⟩ hp
      have il : i < m.ss.length := by rw [← hs.1]; exact (List.getElem?_eq_some_iff.mp hx).1
      obtain ⟨q, eq, hq⟩ := hs.2 i _ (List.getElem?_eq_getElem il)
      rw [hx] at eq
      cases eq
      have z1 : Same H (upd H1 p (.tup [.int (i : Nat), .ref q])) := z.trans (Same.new hp)
      have hq1 := (same_tups z1).sq hq
      have ok1 := o.ok _ (List.getElem_mem il)
      refine k_gt (SqT.of upd_same) rfl ?_
      walk_at "go"
      refine ⟨m.n, q, _, rfl, hq1, ok1, ?_⟩
      walk_at "go"
      refine iteF ?_
      walk_at "go"
      refine k_ite (fun c => ?_) (fun c => iteF ?_)
      · walk_at "go"
        have jl : i - 1 < m.ss.length := by omega
        obtain ⟨q2, eq2, hq2⟩ := hs.2 (i - 1) _ (List.getElem?_eq_getElem jl)
        refine k_slA2 hq1 fun p1 n1 => ?_
        have z2 := z1.trans (Same.new (o := .tup [.int ((m.ss[i]'il).b : Nat), .str ⟨#[(m.ss[i]'il).c]⟩]) n1)
        walk_at "go"
        refine k_ixT ((same_tups z2).sq ht) (v := .ref q2) (at_of (j := i - 1) (by omega) eq2) ?_
        walk_at "go"
        refine k_slA2 ((same_tups z2).sq hq2) fun p2 n2 => ?_
        have z3 := z2.trans (Same.new (o := .tup [.int ((m.ss[i - 1]'jl).b : Nat), .str ⟨#[(m.ss[i - 1]'jl).c]⟩]) n2)
        refine ⟨p1, p2, _, _, _, _, rfl, rfl, SqT.of (Same.new n2 _ _ upd_same), SqT.of upd_same, ?_⟩
        · have up := List.pairwise_iff_getElem.mp o.up (i - 1) i jl il (by omega)
          rw [le2_no up]
          walk_at "go"
          refine iteF ?_
          walk_at "go"
          exact ⟨z3, _, _, rfl⟩
      · walk_at "go"
        exact ⟨z1, _, _, rfl⟩
    · rintro σ H1 ⟨z, _⟩
      exact k H1 z
theorem ok_is_ascending (T : Txt K mg) : FnOk P w K mg base (L2.CX P w) 3 T.a_is_ascending T.fd_is_ascending ["value", "many"] (sp_asc K) := by
  refine T.F_is_ascending.okX sc_is_ascending (fun vs H Q E h => ?_) (fun cdv A outer s H vs Q E hr h => ?_)
  · obtain ⟨v, n, rfl, _⟩ := h
    rfl
  · obtain ⟨v, n, rfl, h⟩ := h
    refine ⟨_, (PSs.nox (pss_cons (ps_if (pt_not (pt_val (pe_callB call_isi (by rfl) T.z_isinstance (by decide +kernel) (pa_cons (pv 0) (pa_cons (pe_bltn (v := .ty "tuple") (by rfl) T.z_tuple (by decide +kernel) rfl) pa_nil)))))
  (pss_one (ps_ret pe_bl))
  pss_nil)
  (pss_cons (ps_set (i := 2) sc_is_ascending.nd rfl (Or.inl rfl) pe_int)
  (pss_cons (ps_for PassesOwn.never rfl (pi_tup (pv 0)) (pg_name (i := 3) sc_is_ascending.nd rfl (Or.inl rfl))
  (pss_cons (ps_if (pt_not (pt_val (pe_call (ok_is_integer_between T) (hr.mono (by decide)) (by rfl) T.m_is_integer_between T.k_is_integer_between T.b_is_integer_between .nil passL (pa_cons (pv 3) (pa_cons (pv 2) (pa_cons (pe_op op_sub (pv 1) pe_int) pa_nil))))))
  (pss_one (ps_ret pe_bl))
  pss_nil)
  (pss_one (ps_set (i := 2) sc_is_ascending.nd rfl (Or.inl rfl) (pe_op op_add (pv 3) pe_int)))))
  (pss_one (ps_ret pe_bl)))))), ?_⟩
    walk_at "begin"
    walk_at "go"
    rcases h with ⟨ty, h1, h2, k⟩ | ⟨t, xs, rfl, ht, hx, k⟩
    · refine k_isi (.ty _) h1 h2 ?_
      walk_at "go"
      refine iteT ?_
      walk_at "go"
      exact k
    · refine k_isi (.ty _) (ty_tup ht) (kit_ty (b := "tuple") (r := true) (by decide +kernel)) ?_
      walk_at "go"
      refine iteF ?_
      walk_at "go"
      refine ⟨t, rfl, ⟨_, ht⟩, ?_⟩
      refine for_tup (xs := xs) (fun i σ H' => H' = H ∧ ∃ (l : Int) (a : Option V), σ = [some (.ref t), some (.int n), some (.int l), a] ∧ ascV n 0 xs = ascV n l (xs.drop i)) ⟨rfl, 0, _, rfl, rfl⟩ (fun i σ H' _ ⟨e, _⟩ => by rw [e]; exact ht) ?_ ?_
      · rintro i x σ H1 hx1 ⟨rfl, l, a, rfl, eq⟩
        have il : i < xs.length := (List.getElem?_eq_some_iff.mp hx1).1
        have dr : xs.drop i = x :: xs.drop (i + 1) := by rw [List.drop_eq_getElem_cons il, (List.getElem?_eq_some_iff.mp hx1).2]
        rw [dr] at eq
        walk_at "go"
        rcases hx x (List.mem_of_getElem? hx1) with ⟨j, rfl⟩ | ⟨ni, nj⟩
        · refine ⟨_, _, _, rfl, .inl ⟨j, rfl, ?_⟩⟩
          by_cases c : l ≤ j ∧ j ≤ n - 1
          · rw [decide_eq_true c]
            walk_at "go"
            refine iteF ?_
            walk_at "go"
            refine ⟨rfl, _, _, rfl, ?_⟩
            rw [eq]
            show (decide (l ≤ j ∧ j ≤ n - 1) && ascV n (j + 1) (xs.drop (i + 1))) = _
            rw [decide_eq_true c]
            rfl
          · rw [decide_eq_false c]
            walk_at "go"
            refine iteT ?_
            walk_at "go"
            have e2 : ascV n 0 xs = false := by
              rw [eq]
              show (decide (l ≤ j ∧ j ≤ n - 1) && ascV n (j + 1) (xs.drop (i + 1))) = _
              rw [decide_eq_false c]
              rfl
            rw [e2] at k
            exact k
        · refine ⟨_, _, _, rfl, .inr ⟨ni, ?_⟩⟩
          walk_at "go"
          refine iteT ?_
          walk_at "go"
          have e2 : ascV n 0 xs = false := by
            rw [eq]
            exact ascV_odd nj
          rw [e2] at k
          exact k
      · rintro σ H1 ⟨rfl, l, a, rfl, eq⟩
        rw [List.drop_length] at eq
        rw [eq] at k
        walk_at "go"
        exact k
theorem ok_check_ends (T : Txt K mg) : FnOk P w K mg base (L2.CX P w) 4 T.a_check_ends T.fd_check_ends ["stands", "ends"] (sp_check_ends K) := by
  refine T.F_check_ends.okX sc_check_ends (fun vs H Q E h => ?_) (fun cdv A outer s H vs Q E hr h => ?_)
  · obtain ⟨t, m, rfl, _⟩ := h
    rfl
  · obtain ⟨t, m, rfl, ht, o, k⟩ := h
    refine ⟨_, (PSs.nox (pss_one (ps_if (pt_not (pt_val (pe_call (ok_is_ascending T) (hr.mono (by decide)) (by rfl) T.m_is_ascending T.k_is_ascending T.b_is_ascending .nil passL (pa_cons (pv 1) (pa_cons (pv 0) pa_nil)))))
  (pss_one ps_never)
  pss_nil))), ?_⟩
    walk_at "begin"
    walk_at "go"
    refine ⟨_, _, rfl, .inr ⟨t, _, rfl, ht, fun x h => ?_, ?_⟩⟩
    · obtain ⟨e, _, rfl⟩ := List.mem_map.mp h
      exact .inl ⟨_, rfl⟩
    rw [show ascV (m.n : Nat) 0 (nats m.es) = true from ascV_nats (l := 0) (fun e h => o.eb e h) o.eu (fun _ _ => Nat.zero_le _)]
    walk_at "go"
    refine iteF ?_
    walk_at "go"
    exact k H (Same.refl _)
theorem ok_Machine_init (T : Txt K mg) : FnOk P w K mg base (L2.CX P w) 6 T.a_Machine_init T.fd_Machine_init ["self", "stands", "steps", "ends"] (sp_init K T.c_Machine) := by
  refine T.F_Machine_init.okX sc_Machine_init (fun vs H Q E h => ?_) (fun cdv A outer s H vs Q E hr h => ?_)
  · obtain ⟨x, dx, t, u, m, rfl, _⟩ := h
    rfl
  · obtain ⟨x, dx, t, u, m, rfl, hx, ⟨⟨us, ht, hs⟩, hu⟩, o, k⟩ := h
    refine ⟨_, (PSs.nox (pss_cons (ps_expr (pe_call (ok_check_stands T) (hr.mono (by decide)) (by rfl) T.m_check_stands T.k_check_stands T.b_check_stands .nil passL (pa_cons (pv 1) pa_nil)))
  (pss_cons (ps_expr (pe_call (ok_check_steps T) (hr.mono (by decide)) (by rfl) T.m_check_steps T.k_check_steps T.b_check_steps .nil passL (pa_cons (pv 1) (pa_cons (pv 2) pa_nil))))
  (pss_cons (ps_expr (pe_call (ok_check_ends T) (hr.mono (by decide)) (by rfl) T.m_check_ends T.k_check_ends T.b_check_ends .nil passL (pa_cons (pv 1) (pa_cons (pv 3) pa_nil))))
  (pss_cons (ps_fld (pv 0) (pv 1) rfl)
  (pss_cons (ps_fld (pv 0) (pv 2) rfl)
  (pss_one (ps_fld (pv 0) (pv 3) rfl)))))))), ?_⟩
    walk_at "begin"
    walk_at "go"
    refine ⟨_, rfl, by have := o.n1; omega, by have := o.n8; omega, ?_⟩
    walk_at "go"
    refine ⟨t, us, m, rfl, ht, hs, o, fun H1 z1 => ?_⟩
    walk_at "go"
    refine ⟨u, m, rfl, (same_tups z1).sq hu, o, fun H2 z2 => ?_⟩
    walk_at "go"
    have e2 : H2 x = some (.ins T.c_Machine dx []) := z2 _ _ (z1 _ _ hx)
    refine ⟨_, rfl, _, rfl, x, _, dx, _, rfl, e2, T.cl_Machine, T.n__stands, (by decide : 0 < 1000), ?_⟩
    refine ⟨_, rfl, _, rfl, x, _, dx, _, rfl, upd_same, T.cl_Machine, T.n__steps, few 1 (by decide) (length_putF _ _ _), ?_⟩
    refine ⟨_, rfl, _, rfl, x, _, dx, _, rfl, upd_same, T.cl_Machine, T.n__ends, few 2 (by decide) (Nat.le_trans (length_putF _ _ _) (Nat.succ_le_succ (length_putF _ _ _))), ?_⟩
    refine k _ (((Keep.of_same (z1.trans z2)).trans Keep.at_).trans (Keep.at_.trans Keep.at_)) ?_
    rw [upd_same]
    rfl
end
/-! ### steps in a tuple or in a list -/
def SqS (K : PySem.W.Frag) (H : Hp) (a : Addr) (xs : List V) : Prop := SqT K H a xs ∨ SqL K H a xs
theorem SqS.same {K : PySem.W.Frag} {H H' : Hp} {a : Addr} {xs : List V} (h : SqS K H a xs) (z : Same H H') : SqS K H' a xs := h.imp (fun h => (same_tups z).sq h) fun h => z.seq h
def StSq (K : PySem.W.Frag) (H : Hp) (t : Addr) (ss : List Stp) : Prop := ∃ us, SqS K H t us ∧ StpsAt K H us ss
theorem StSq.of {K : PySem.W.Frag} {H : Hp} {t : Addr} {ss : List Stp} (h : StAt K H t ss) : StSq K H t ss := let ⟨us, a, b⟩ := h; ⟨us, .inl a, b⟩
theorem StSq.same {K : PySem.W.Frag} {H H' : Hp} {t : Addr} {ss : List Stp} (h : StSq K H t ss) (z : Same H H') : StSq K H' t ss := let ⟨us, a, b⟩ := h; ⟨us, a.same z, (same_tups z).steps b⟩
def iSq (K : PySem.W.Frag) (tl : TE) : TI := fun σ H R => iTup K tl σ H R ∨ iList K tl σ H R
theorem pi_sq {X : L2.Cx} {tg l : Expr} {tl : TE} (hl : PE X l tl) : PI X tg l (iSq X.K tl) := ⟨fun pins s σ H R I h => h.elim ((pi_tup hl).run pins s σ H R I) ((pi_list hl).run pins s σ H R I)⟩
theorem for_sq {K : PySem.W.Frag} {t : Addr} {xs : List V} {j : Nat} {g : TG} {tb : TS} {D : Ends} {σ : L2.St} {H Hb : Hp} (e : σ[j]? = some (some (.ref t))) (hx : SqS K Hb t xs) (Pv : Nat → L2.St → Hp → Prop) (h0 : Pv 0 σ H) (hl : ∀ i σ H, Pv i σ H → Same Hb H)
    (hs : ∀ i x σ H, xs[i]? = some x → Pv i σ H → g x σ H fun σ2 H2 => tb { D with nx := Pv (i + 1), ct := Pv (i + 1), bk := D.nx } σ2 H2) (hd : ∀ σ H, Pv xs.length σ H → D.nx σ H) :
    iSq K (tVar j) σ H fun J H1 => ∃ W : Nat → Nat → L2.St → Hp → Prop, (∃ m, W 0 m σ H1) ∧ ∀ i m σ H, W i m σ H →
      (J.stop i H ∧ D.nx σ H) ∨ (J.go i H ∧ ∃ N : L2.St → Hp → Prop, (∀ σ' H', N σ' H' → ∃ m', m' < m ∧ W (i + 1) m' σ' H') ∧ ∀ x H', J.yld i H x H' → g x σ H' fun σ2 H2 => tb { D with nx := N, ct := N, bk := D.nx } σ2 H2) := by
  have z0 := hl _ _ _ h0
  rcases hx with hx | hx
  · exact .inl (k_var e ⟨t, rfl, ⟨xs, (same_tups z0).sq hx⟩, for_tup Pv h0 (fun i σ H _ p => (same_tups (hl _ _ _ p)).sq hx) hs hd⟩)
  · exact .inr (k_var e ⟨t, rfl, ⟨xs, z0.seq hx⟩, for_list Pv h0 (fun i σ H _ p => (hl _ _ _ p).seq hx) hs hd⟩)
/-! ### what is never reached needs no reading -/
theorem ps_any {X : Cx} {st : Stmt} : PS X st (fun _ _ _ => False) := ⟨fun _ _ _ _ _ _ h => h.elim⟩
theorem pss_any {X : Cx} {l : List Stmt} : PSs X l (fun _ _ _ => False) := ⟨fun _ _ _ _ _ _ h => h.elim⟩
theorem pe_any {X : Cx} {e : Expr} : PE X e (fun _ _ _ => False) := ⟨fun _ _ _ _ _ _ h => h.elim⟩
/-! ### an own object whose __init__ may be left by an error -/
def tMakeS (C : Addr) (sp : Sp) (E : L2.St → XK) (t : TA) : TE := fun σ H Q => t σ H fun vs H1 => ∀ x dx, H1 x = none → H1 dx = none → dx ≠ x → sp (.ref x :: vs) (upd (upd H1 dx (.own x)) x (.ins C dx [])) (fun v H2 => v = .non ∧ Q (.ref x) H2) (E σ)
theorem k_makeS {C : Addr} {sp : Sp} {E : L2.St → XK} {t : TA} {σ : L2.St} {H : Hp} {Q : VK} (h : t σ H fun vs H1 => ∀ x dx, H1 x = none → H1 dx = none → dx ≠ x → sp (.ref x :: vs) (upd (upd H1 dx (.own x)) x (.ins C dx [])) (fun v H2 => v = .non ∧ Q (.ref x) H2) (E σ)) : tMakeS C sp E t σ H Q := h
section
variable {X : Cx} {k : Nat} {f C : Addr} {fd : FuncData} {ps : List Str} {sp : Sp} {E : L2.St → XK} {x : Str} {p pos : Pos} {e : Expr} {es : List Expr} {t : TA}
theorem run_makeS {pins : List (Addr × Obj)} {σ : L2.St} {H : Hp} {s : Shared} {Q : VK} {us : List Value} {vs : List V} (M : Mk X.K C f) (F : FnOk X.prog X.w X.K X.mg X.base (L2.CX X.prog X.w) k f fd ps sp) (hr : Room (k + 1) X.A) (hb : Binds X.K fd ps [])
    (hx : PassesAt (L2.CX X.prog X.w) X σ (E σ)) (I : Inv X pins σ H s) (r : Vals vs us)
    (h : ∀ x dx, H x = none → H dx = none → dx ≠ x → sp (.ref x :: vs) (upd (upd H dx (.own x)) x (.ins C dx [])) (fun v H2 => v = .non ∧ Q (.ref x) H2) (E σ)) :
    wpAny (model X.prog X.w) X.A (call (.ref C) us) (EP X pins σ Q) X.xe s := by
  have hq := h (s.heap.objs.size + 1) s.heap.objs.size (I.hok.fresh (Nat.le_succ _)) (I.hok.fresh (Nat.le_refl _)) (Nat.ne_of_lt (Nat.lt_succ_self _))
  have I2 := Inv.made (C := C) I
  have r2 : Vals (V.ref (s.heap.objs.size + 1) :: vs) (Value.ref (s.heap.objs.size + 1) :: us) := .cons rfl r
  have hl : (Value.ref (s.heap.objs.size + 1) :: us ++ []).length = ps.length := by
    have e := r2.length
    rw [F.len _ _ _ _ hq] at e
    rw [List.append_nil]
    exact e.symm
  have b := hb _ (Value.ref (s.heap.objs.size + 1) :: us) I2.kIn hl
  rw [List.append_nil] at b
  refine wpAny_call (make_map (f := f) I.kIn M.makes M.init (beq_iff_eq.mp M.fn) (codeAny_mono (F.run _ X.stack _ _ ⟨Value.ref (s.heap.objs.size + 1) :: us, []⟩ (Value.ref (s.heap.objs.size + 1) :: us) _ _ (E σ) (hr.make C us [])
    (I2.env0.make C us []) b r2 hq) fun r s' hq' => ?_))
  cases r with
  | error e => exact hx pins _ _ e s' I2 hq'
  | ok fl =>
    cases fl with
    | ret u =>
      obtain ⟨v, H', I3, rv, ev, q3⟩ := I2.after hq'
      subst ev
      exact ⟨rv, ⟨V.ref (s.heap.objs.size + 1), H', I3, rfl, q3⟩⟩
    | next => exact False.elim hq'
    | brk => exact False.elim hq'
    | cont => exact False.elim hq'
theorem pe_makeS (M : Mk X.K C f) (F : FnOk X.prog X.w X.K X.mg X.base (L2.CX X.prog X.w) k f fd ps sp) (hr : Room (k + 1) X.A) (hg : Gl X x) (hm : X.mg x = some (.ref C)) (hb : Binds X.K fd ps []) (hx : ∀ σ, PassesAt (L2.CX X.prog X.w) X σ (E σ))
    (ha : PA X (e :: es) t) (hdb : (x == ("__debug__" : Str)) = false := by decide) (he : starEach (e :: es) X.env = (false, eval e X.env) :: starEach es X.env := by rfl) (hpl : (backTo pos (starEach es X.env)).any (·.1) = false := by rfl) :
    PE X (.Call (.Name x p) (e :: es) [] pos) (tMakeS C sp E t) := by
  refine ⟨fun pins s σ H Q I h => ?_⟩
  refine wpAny_Call_Name_kw (ld_glob I hg hm ?_ hdb)
  refine PySem.W.callWith_K (h₀ := X.base) I.ok.mod.kin M.kp (thn (ha.run pos pins s σ H _ I h) fun us s1 ⟨vs, H1, I1, r, q⟩ => ⟨I1.kIn, ?_⟩) he hpl
  exact run_makeS M F hr hb (hx σ) I1 r q
end
theorem exc_rel {K : PySem.W.Frag} {S C : Addr} {b : Bool} (hb : PySem.W.subIn K (.ref C) (.type "BaseException") = some true) (hc : PySem.W.isClsIn K C = true) (ht : PySem.W.typeIn K (.ref C) = some (.type "type")) (hs : PySem.W.subIn K (.ref S) (.ref C) = some b) : PySem.W.exmOne K (.ref S) (.ref C) = some b := by
  have hc' : (PySem.W.clsIn K C).isSome = true := hc
  unfold PySem.W.exmOne PySem.W.kitCls
  simp only [hb, ht, hc', hs, beq_self_eq_true, Bool.and_self, if_true]
theorem FnOk.or {P : Program} {w : World} {K : PySem.W.Frag} {mg : Str → Option Value} {base : Heap} {CX : CXT} {k : Nat} {f : Addr} {fd : FuncData} {ps : List Str} {sp sp' : Sp} (F : FnOk P w K mg base CX k f fd ps sp) (G : FnOk P w K mg base CX k f fd ps sp') :
    FnOk P w K mg base CX k f fd ps (fun vs H Q E => sp vs H Q E ∨ sp' vs H Q E) :=
  ⟨fun vs H Q E q => q.elim (F.len vs H Q E) (G.len vs H Q E), fun A outer s H args us vs Q E hr he hb hv hs => hs.elim (F.run A outer s H args us vs Q E hr he hb hv) (G.run A outer s H args us vs Q E hr he hb hv)⟩
/-! ### several except clauses, some of them with a name -/
/-- what the clauses wish of an exception of the body, one after the other; some i: the slot of the clause's name -/
def wManyA (K : PySem.W.Frag) (Wout : WX) (D : Ends) : List (Value × Option Nat × (Addr → Value → Option Addr → TS)) → WX
  | [] => Wout
  | (c, none, ts) :: r => fun cls d σ H => ∃ b, PySem.W.exmOne K cls c = some b ∧ (b = true → ∀ a, H a = none → ts a cls d D σ H) ∧ (b = false → wManyA K Wout D r cls d σ H)
  | (c, some i, ts) :: r => fun cls d σ H => ∃ b, PySem.W.exmOne K cls c = some b ∧ (b = true → ∀ a, H a = none → ts a cls d { nx := fun σ' H' => D.nx (σ'.set i none) H', rt := D.rt, bk := fun σ' H' => D.bk (σ'.set i none) H', ct := fun σ' H' => D.ct (σ'.set i none) H' } (σ.set i (some (.ref a))) H) ∧
      (b = false → wManyA K Wout D r cls d σ H)
inductive HdsOkA (X : Cx) : List ExceptHandler → List (Value × Option Nat × (Addr → Value → Option Addr → TS)) → Prop
  | nil : HdsOkA X [] []
  | cons {x : Str} {c : Value} {ts : Addr → Value → Option Addr → TS} {b₀ : Stmt} {suite : List Stmt} {np pos' : Pos} {hds : List ExceptHandler} {l : List (Value × Option Nat × (Addr → Value → Option Addr → TS))} (hc : Names X x c)
      (hsu : ∀ (a : Addr) (oe : Obj) (cls : Value) (d : Option Addr) (pn : List (Addr × Obj)), Zc cls d oe → (∃ vs, oe.data = .fields vs) → PSs (X.suite a ((a, oe) :: pn)) (b₀ :: suite) (ts a cls d)) (r : HdsOkA X hds l) :
      HdsOkA X (.ExceptHandler (some (.Name x np)) none (b₀ :: suite) pos' :: hds) ((c, none, ts) :: l)
  | consA {x n : Str} {i : Nat} {c : Value} {ts : Addr → Value → Option Addr → TS} {b₀ : Stmt} {suite : List Stmt} {np pos' : Pos} {hds : List ExceptHandler} {l : List (Value × Option Nat × (Addr → Value → Option Addr → TS))} (hN : X.N.Nodup) (hi : X.N[i]? = some n) (hln : X.env.kindOf n = some .local) (hc : Names X x c)
      (hsu : ∀ (a : Addr) (oe : Obj) (cls : Value) (d : Option Addr) (pn : List (Addr × Obj)), Zc cls d oe → (∃ vs, oe.data = .fields vs) → PSs (X.suite a ((a, oe) :: pn)) (b₀ :: suite) (ts a cls d)) (r : HdsOkA X hds l) :
      HdsOkA X (.ExceptHandler (some (.Name x np)) (some n) (b₀ :: suite) pos' :: hds) ((c, some i, ts) :: l)
section
variable {X : Cx} {body : List Stmt} {h₀ : ExceptHandler} {hds : List ExceptHandler} {l : List (Value × Option Nat × (Addr → Value → Option Addr → TS))} {pos : Pos} {tb : WX → TS} {Wout : WX}
theorem ps_try_manyA (hs : X.stack = X.env :: X.outer) (hf : X.env.frame = some X.env.locals) (tk : Takes X Wout)
    (hb : ∀ (W : WX) (pn : List (Addr × Obj)) (xe : Value → Shared → Prop), Takes (X.tr pn xe) W → PassesOwn (model X.prog X.w) X.A X.env xe → PSs (X.tr pn xe) body (tb W))
    (hh : HdsOkA X (h₀ :: hds) l) : PS X (.Try body (h₀ :: hds) [] [] pos) (fun D σ H => tb (wManyA X.K Wout D l) D σ H) := by
  refine ⟨fun pins s σ H D I h => ?_⟩
  have ok := I.ok
  have hfr : X.A.frames = some (X.env :: X.outer) := by rw [ok.frames, hs]
  refine PySem.wpAny_Try_except ?_
  refine wpAny_mono ((hb (wManyA X.K Wout D l) (X.pn ++ pins) (fun e s₁ => wpAny (model X.prog X.w) X.A (noteFrame e X.env) (fun _ s₂ => wpAny (model X.prog X.w) X.A (setFlight e none) (fun _ s₃ =>
    wpAny (model X.prog X.w) X.A (handleBy e X.env (h₀ :: hds)) (SP X pins D) X.xe s₃) X.xe s₂) X.xe s₁) (fun u s' xx => ?_) PassesOwn.looking).run [] s σ H D (I.toTry _) h) (fun f s1 hsp => ?_) (fun e s1 he => he)
  · -- the catch
    obtain ⟨a, B, sI, pins', σ', H', cls, d, rfl, J', nb, up, sky, na, os, ag, w⟩ := xx
    have J : Inv X pins σ' H' sI := J'.ofTry ok
    have sky' : Sky B (X.env :: X.outer) a (Zc cls d) X.env.locals s'.heap := by rw [← hs]; exact sky
    show wpAny (model X.prog X.w) X.A (noteFrame (.ref a) X.env) _ _ _
    refine Sky.land Zc.steady hfr hf sky' fun h3 fl3 up3 => ?_
    have J3 : Inv X pins σ' H' { s' with heap := h3 } := J.landed nb fl3.1 (up.trans up3) os ag
    obtain ⟨oe3, vs3, he3, hz3, hd3⟩ := fl3.there
    have notFr : ∀ {h : Heap} {o : Obj} {vs : Array Value}, h.FunFrames B (X.env :: X.outer) → h.get? a = some o → o.data = .fields vs → a ∉ frs (X.env :: X.outer) := fun {h o vs} ff e dd hm => by
      obtain ⟨_, o', e', hnf⟩ := ff.mem hm
      rw [e] at e'; cases e'
      exact hnf _ dd
    have nfr := notFr fl3.2.2.1 he3 hd3
    have nL : a ≠ X.env.locals := fun z => nfr (List.mem_filterMap.mpr ⟨X.env, List.mem_cons_self, by rw [hf, z]⟩)
    have nF : a ∉ X.fs := fun hm => by
      obtain ⟨e, he, q⟩ := List.mem_filterMap.mp hm
      exact nfr (List.mem_filterMap.mpr ⟨e, List.mem_cons_of_mem _ he, q⟩)
    have S3 := J3.suite he3 hd3 na nL nF
    have go : ∀ {hds' : List ExceptHandler} {l' : List (Value × Option Nat × (Addr → Value → Option Addr → TS))}, HdsOkA X hds' l' → wManyA X.K Wout D l' cls d σ' H' →
        wpAny (model X.prog X.w) X.A (handleBy (.ref a) X.env hds') (SP X pins D) X.xe { s' with heap := h3 } := by
      intro hds' l' hk
      induction hk with
      | nil =>
        intro w
        refine PySem.wpAny_handleBy_nil ?_
        obtain ⟨k1, k2, k3, oe, vs, T, oT, ts', he, hz, hd, h1, hr⟩ := id fl3
        unfold PySem.passOn
        refine wpAny_bind (wpAny_field he hd h1 ?_)
        rw [if_neg (show ¬ ((Value.ref T == Value.none) = true) from by simp)]
        have fin : wpAny (model X.prog X.w) X.A (setFlight (.ref a) X.env.frame) (fun _ s4 => wpAny (model X.prog X.w) X.A (throw (.ref a) : Sem Flow) (SP X pins D) X.xe s4) X.xe { s' with heap := h3 } := by
          rw [hf]
          refine HandSPX.setFlight_upZ fl3 fun h4 hh4 up4 => wpAny_throw (tk _ _ ?_)
          exact ⟨a, B, sI, pins, σ', H', cls, d, rfl, J, nb, (up.trans up3).trans up4, .inr (.inr (by rw [hs]; exact hh4)), na, os, ag, w⟩
        first
          | exact wpAny_bind (wpAny_pure (wpAny_bind fin))
          | exact wpAny_bind fin
      | @cons x c ts b₀ suite np pos' hds2 l2 hc hsu r ih =>
        intro w
        obtain ⟨b, hb1, hyes, hno⟩ := w
        refine wpAny_handleBy_cons (codeAny_handlers_test ?_) (by intro q; cases q)
        have LT : PySem.W.Looks (model X.prog X.w) h3 (typeOf (.ref a)) cls := fun A Q E s k q => wpAny_typeOf_ref (k _ _ he3) (by rw [hz3.1]; exact q)
        have LM := PySem.W.exm_one (M := model X.prog X.w) (J3.kIn) LT hb1
        have test : ∀ {Q : Value → Shared → Prop} {E : Value → Shared → Prop}, Q c { s' with heap := h3 } → wpAny (model X.prog X.w) (X.A.mark (some (.ref a))) (eval (.Name x np) X.env) Q E { s' with heap := h3 } := fun {Q E} q => by
          obtain ⟨hg, hdbg, hm | ⟨hm, hv, hnn⟩⟩ := hc
          · exact ld_glob (X := X.suite a ((a, oe3) :: (X.pn ++ pins))) S3 hg hm q hdbg
          · exact ld_blt (X := X.suite a ((a, oe3) :: (X.pn ++ pins))) S3 hg hm hv q hnn hdbg
        refine test (LM.here ?_)
        cases b with
        | true =>
          refine codeAny_handlers_suite ?_
          refine HandSPX.lands_againZ fl3 fun h4 fl4 up4 => ?_
          have J4 : Inv X pins σ' H' { s' with heap := h4 } := J.landed nb fl4.1 ((up.trans up3).trans up4) os ag
          obtain ⟨oe4, vs4, he4, hz4, hd4⟩ := fl4.there
          have S4 := J4.suite he4 hd4 na nL nF
          refine wpAny_mono ((hsu a oe4 cls d (X.pn ++ pins) hz4 ⟨_, hd4⟩).run [] _ _ H' _ S4 (hyes rfl a na)) (fun f s6 hsp => ?_) (fun _ _ z => False.elim z)
          cases f with
          | next =>
            obtain ⟨σ6, H6, S6, q6⟩ := hsp
            exact ⟨_, _, S6.unsuite ok, q6⟩
          | brk =>
            obtain ⟨σ6, H6, S6, q6⟩ := hsp
            exact ⟨_, _, S6.unsuite ok, q6⟩
          | cont =>
            obtain ⟨σ6, H6, S6, q6⟩ := hsp
            exact ⟨_, _, S6.unsuite ok, q6⟩
          | ret u =>
            obtain ⟨v6, σ6, H6, S6, r6, q6⟩ := hsp
            exact ⟨_, _, _, S6.unsuite ok, r6, q6⟩
        | false =>
          show wpAny _ X.A (handleBy (.ref a) X.env hds2) _ _ _
          exact ih (hno rfl)
      | @consA x n i c ts b₀ suite np pos' hds2 l2 hN hi hln hc hsu r ih =>
        intro w
        obtain ⟨b, hb1, hyes, hno⟩ := w
        have hloc : Loc X.env.scope n := .inl hln
        refine wpAny_handleBy_cons (codeAny_handlers_test ?_) (by intro q; cases q)
        have LT : PySem.W.Looks (model X.prog X.w) h3 (typeOf (.ref a)) cls := fun A Q E s k q => wpAny_typeOf_ref (k _ _ he3) (by rw [hz3.1]; exact q)
        have LM := PySem.W.exm_one (M := model X.prog X.w) (J3.kIn) LT hb1
        have test : ∀ {Q : Value → Shared → Prop} {E : Value → Shared → Prop}, Q c { s' with heap := h3 } → wpAny (model X.prog X.w) (X.A.mark (some (.ref a))) (eval (.Name x np) X.env) Q E { s' with heap := h3 } := fun {Q E} q => by
          obtain ⟨hg, hdbg, hm | ⟨hm, hv, hnn⟩⟩ := hc
          · exact ld_glob (X := X.suite a ((a, oe3) :: (X.pn ++ pins))) S3 hg hm q hdbg
          · exact ld_blt (X := X.suite a ((a, oe3) :: (X.pn ++ pins))) S3 hg hm hv q hnn hdbg
        refine test (LM.here ?_)
        cases b with
        | true =>
          refine codeAny_handlers_suite_as ?_
          refine HandSPX.lands_againZ fl3 fun h4 fl4 up4 => ?_
          have J4 : Inv X pins σ' H' { s' with heap := h4 } := J.landed nb fl4.1 ((up.trans up3).trans up4) os ag
          obtain ⟨oe4, vs4, he4, hz4, hd4⟩ := fl4.there
          have S4 := J4.suite he4 hd4 na nL nF
          refine store_ok (X := X.suite a ((a, oe4) :: (X.pn ++ pins))) (v := .ref a) S4 hN hi hloc rfl (fun s5 S5 => ?_) (.inr hln)
          refine wpAny_mono ((hsu a oe4 cls d (X.pn ++ pins) hz4 ⟨_, hd4⟩).run [] s5 _ H' _ S5 (hyes rfl a na)) (fun f s6 hsp => ?_) (fun _ _ z => False.elim z)
          have end_ : ∀ {σ6 : L2.St} {H6 : Hp} {Q : Shared → Prop}, Inv (X.suite a ((a, oe4) :: (X.pn ++ pins))) [] σ6 H6 s6 → (∀ s7, Inv X pins (σ6.set i none) H6 s7 → Q s7) →
              wpAny (model X.prog X.w) X.A (do bindName X.env n .none; unbindBehindTheSuite X.env n pos') (fun _ s7 => Q s7) X.xe s6 := fun {σ6 H6 Q} S6 hq => gone_ok (S6.unsuite ok) hN hi hln hq
          cases f with
          | next =>
            obtain ⟨σ6, H6, S6, q6⟩ := hsp
            exact end_ S6 fun s7 J7 => ⟨_, _, J7, q6⟩
          | brk =>
            obtain ⟨σ6, H6, S6, q6⟩ := hsp
            exact end_ S6 fun s7 J7 => ⟨_, _, J7, q6⟩
          | cont =>
            obtain ⟨σ6, H6, S6, q6⟩ := hsp
            exact end_ S6 fun s7 J7 => ⟨_, _, J7, q6⟩
          | ret u =>
            obtain ⟨v6, σ6, H6, S6, r6, q6⟩ := hsp
            exact end_ S6 fun s7 J7 => ⟨_, _, _, J7, r6, q6⟩
        | false =>
          show wpAny _ X.A (handleBy (.ref a) X.env hds2) _ _ _
          exact ih (hno rfl)
    exact go hh w
  · cases f with
    | next =>
      obtain ⟨σ', H', J', q⟩ := hsp
      exact PySem.wpAny_execs_nil ⟨σ', H', J'.ofTry ok, q⟩
    | brk =>
      obtain ⟨σ', H', J', q⟩ := hsp
      exact ⟨σ', H', J'.ofTry ok, q⟩
    | cont =>
      obtain ⟨σ', H', J', q⟩ := hsp
      exact ⟨σ', H', J'.ofTry ok, q⟩
    | ret u =>
      obtain ⟨v, σ', H', J', r, q⟩ := hsp
      exact ⟨v, σ', H', J'.ofTry ok, r, q⟩
end
/-! ### an own error whose __init__ calls its base's, and that is told by a field -/
theorem pe_tveinit {X : Cx} {e : Expr} {es : List Expr} {ta : TA} {p1 p2 pos : Pos} {x : Str} {CB : Addr} {pl : Sem Bool} (hg : Gl X x) (hm : X.mg x = some (.ref CB)) (hr : PySem.W.readsIn X.K CB (.type "type") = true)
    (vV : PySem.W.findCls X.K (.ref CB) (.type "type") "__init__" = some (.val (.builtin "ValueError.__init__"))) (sg : PySem.W.specialIn X.K (.ref CB) "__getattribute__" = some (some (.builtin "type.__getattribute__"))) (ha : PA X (e :: es) ta)
    (hdb : (x == ("__debug__" : Str)) = false := by decide)
    (hc : eval (.Call (.Attribute (.Name x p1) "__init__" p2) (e :: es) [] pos) X.env = (do
      let ov ← eval (.Name x p1) X.env
      standAt p2.atName
      let (f, first) ← holding [ov] (getMethod ov "__init__" pl)
      callWith pos f first (backTo pos (starEach (e :: es) X.env)) (backToKw pos (keywordEach [] X.env))) := by rfl)
    (he : starEach (e :: es) X.env = (false, eval e X.env) :: starEach es X.env := by rfl) (hpl : (backTo pos (starEach es X.env)).any (·.1) = false := by rfl) :
    PE X (.Call (.Attribute (.Name x p1) "__init__" p2) (e :: es) [] pos) (tVeI X.K ta) := by
  refine ⟨fun pins s σ H Q I h => ?_⟩
  refine PySem.W.methodCall_KW (ld_glob I hg hm ?_ hdb) hc
  refine PySem.W.method_cls I.kIn sg (PySem.W.cls_value I.kIn hr vV rfl ?_)
  show wpAny _ _ (callWith pos (Value.builtin "ValueError.__init__") [] (backTo pos (starEach (e :: es) X.env)) []) _ _ _
  refine PyProof.Rows.callWith_method1 (thn (ha.run pos pins _ σ H _ (I.tok _) h) fun us s1 ⟨vs, H1, I1, r1, a, C, ws, ev, hl, T, ea, q⟩ => ?_) he hpl
  subst ev
  cases r1 with
  | @cons _ u0 _ ur ra rw' =>
    obtain rfl : u0 = Value.ref a := ra
    have hlen : ur.length ≤ sizeLine := by
      rw [← Paired.length rw', sizeLine_eq]
      omega
    exact oinit_ok T I1 ea hlen fun s' J => ⟨.non, H1, J, rfl, q⟩
/-- what __init__ of such an error is called with, and leaves -/
def sp_einit (K : PySem.W.Frag) (C : Addr) (f : Str) : Sp := fun vs H Q _ => ∃ (a : Addr) (v : V), vs = [.ref a, v] ∧ H a = some (exo a C none) ∧ ∀ dx, H dx = none → dx ≠ a → Q .non (upd (upd H dx (exd dx [(f, v)])) a (exo a C (some dx)))
theorem k_vei {K : PySem.W.Frag} {ta : TA} {σ : L2.St} {H : Hp} {Q : VK} (h : ta σ H fun vs H1 => ∃ (a C : Addr) (ws : List V), vs = .ref a :: ws ∧ ws.length ≤ 1000 ∧ OexC K C ∧ H1 a = some (exo a C none) ∧ Q .non H1) : tVeI K ta σ H Q := h
theorem k_ost {K : PySem.W.Frag} {f : Str} {to te : TE} {D : Ends} {σ : L2.St} {H : Hp} (h : te σ H fun y H1 => to σ H1 fun x H2 => ∃ a C : Addr, x = .ref a ∧ OexC K C ∧ PySem.W.findIn K (.ref C) f = some none ∧
  ((H2 a = some (exo a C none) ∧ ∀ dx, H2 dx = none → dx ≠ a → D.nx σ (upd (upd H2 dx (exd dx [(f, y)])) a (exo a C (some dx)))) ∨
    ∃ (dx : Addr) (fs : List (Str × V)), H2 a = some (exo a C (some dx)) ∧ H2 dx = some (exd dx fs) ∧ fs.length ≤ 900 ∧ D.nx σ (upd H2 dx (exd dx ((f, y) :: fs))))) : tOst K f to te D σ H := h
theorem k_mkO {C : Addr} {sp : Sp} {dvs : List V} {ta : TA} {σ : L2.St} {H : Hp} {Q : XK} (h : ta σ H fun vs H1 => vs.length ≤ 1000 ∧ ∀ a, H1 a = none → sp (.ref a :: (vs ++ dvs)) (upd H1 a (exo a C none))
  (fun v H2 => v = .non ∧ ∃ (d : Addr) (fs : List (Str × V)), H2 a = some (exo a C (some d)) ∧ H2 d = some (exd d fs) ∧ H1 d = none ∧ Q (.ref C) (some d) (upd (del H2 a) d (.xd fs))) (fun _ _ _ => False)) : tMkO C sp dvs ta σ H Q := h
theorem k_xf {a : Addr} {cls : Value} {d : Option Addr} {C : Addr} {f : Str} {te : TE} {σ : L2.St} {H : Hp} {Q : VK} (h : te σ H fun x H1 => x = .ref a ∧ cls = .ref C ∧ ∃ (dd : Addr) (fs : List (Str × V)) (v : V), d = some dd ∧ H1 dd = some (.xd fs) ∧ fs.lookup f = some v ∧ Q v H1) : tXf a cls d C f te σ H Q := h
theorem exc_same {H : Hp} {a d C : Addr} {fs : List (Str × V)} {o : HO} (ha : H a = none) (hd : H d = none) : Same H (upd (del (upd (upd (upd H a (exo a C none)) d o) a (exo a C (some d))) a) d (.xd fs)) := fun b ob e => by
  rw [upd_ne (ne_of_none e hd), del_ne (ne_of_none e ha), upd_ne (ne_of_none e ha), upd_ne (ne_of_none e hd), upd_ne (ne_of_none e ha)]
  exact e
/-! ### f'..{x}..' of an int or None -/
def tFmtN (te : TE) : TE := fun σ H Q => te σ H fun x H1 => (x = .non ∧ Q (.str "None") H1) ∨ ∃ i : Int, x = .int i ∧ i.natAbs.log2 < 1920 ∧ Q (.str (toString i)) H1
theorem pe_fmtN {X : Cx} {e : Expr} {te : TE} {pos : Pos} (he : PE X e te) : PE X (.FormattedValue e (-1) none pos) (tFmtN te) := by
  refine ⟨fun pins s σ H Q I h => ?_⟩
  refine PySem.wpAny_FormattedValue_plain (thn (he.run pins s σ H _ I h) fun v s1 hv => ?_)
  obtain ⟨x, H1, I1, r1, q⟩ := hv
  rcases q with ⟨rfl, q⟩ | ⟨i, rfl, hz, q⟩
  · cases (show v = Value.none from r1)
    exact PySem.wpAny_formatField_none ⟨.str "None", H1, I1.tok _, ⟨_, rfl⟩, q⟩
  · obtain ⟨t, rfl⟩ := r1
    exact PySem.wpAny_formatField_int hz ⟨.str (toString i), H1, I1.tok _, ⟨_, rfl⟩, q⟩
theorem k_fmtN {te : TE} {σ : L2.St} {H : Hp} {Q : VK} (h : te σ H fun x H1 => (x = .non ∧ Q (.str "None") H1) ∨ ∃ i : Int, x = .int i ∧ i.natAbs.log2 < 1920 ∧ Q (.str (toString i)) H1) : tFmtN te σ H Q := h
/-! ### a call that an error may leave -/
section
variable {K : PySem.W.Frag} {σ : L2.St} {H : Hp} {Q : VK}
theorem k_callS {sp : Sp} {E : L2.St → XK} {t : TA} (h : t σ H fun vs H1 => sp vs H1 Q (E σ)) : tCallS sp E t σ H Q := h
end
/-! ### what is no machine's part -/
def BadNum (K : PySem.W.Frag) (H : Hp) (lo hi : Int) (v : V) : Prop := (∃ i : Int, v = .int i ∧ ¬ (lo ≤ i ∧ i ≤ hi)) ∨ NotInt K H v
def NotTup (K : PySem.W.Frag) (H : Hp) (v : V) : Prop := ∃ ty, TyX K H v ty ∧ PySem.W.kitOne K ty (.type "tuple") = some false
/-- a value that can be read where an integer is asked for -/
def Num (K : PySem.W.Frag) (H : Hp) (x : V) : Prop := (∃ j, x = .int j) ∨ (NotInt K H x ∧ ∀ j, x ≠ .int j)
def btw (lo hi : Int) : V → Bool
  | .int j => decide (lo ≤ j ∧ j ≤ hi)
  | _ => false
def stepB (n : Int) (b l e g : V) : Bool := btw 0 (n - 1) b && inV l [V.str "a", V.str "b", V.str "c", V.str "d"] && btw 0 (n - 1) e && btw (-(10 ^ 30)) (10 ^ 30) g
theorem btw_odd {lo hi : Int} {x : V} (h : ∀ j, x ≠ .int j) : btw lo hi x = false := by
  cases x with
  | int j => exact (h j rfl).elim
  | _ => rfl
def NotStep (K : PySem.W.Frag) (H : Hp) (n : Int) (v : V) : Prop := NotTup K H v ∨ ∃ q xs, v = .ref q ∧ SqT K H q xs ∧ (xs.length ≠ 4 ∨ ∃ b l e g, xs = [b, l, e, g] ∧ Num K H b ∧ Num K H e ∧ Num K H g ∧ flatV l = true ∧ stepB n b l e g = false)
def sp_is_stepG (K : PySem.W.Frag) : Sp := fun vs H Q _ => ∃ (n : Int) (v : V), vs = [.int n, v] ∧ ((NotStep K H n v ∧ Q (.bl false) H) ∨ ∃ (m : Nat) (p : Addr) (s : Stp), n = (m : Nat) ∧ v = .ref p ∧ SqT K H p (stpV s) ∧ s.Ok m ∧ Q (.bl true) H)
theorem le2_yes {s t : Stp} (h : ¬ s.lt t) : le2 (t.b : Nat) ⟨#[t.c]⟩ (s.b : Nat) ⟨#[s.c]⟩ = true := by
  unfold le2
  by_cases hb : t.b = s.b
  · rw [if_pos (by rw [hb])]
    by_cases hc : t.c = s.c
    · rw [if_pos (by rw [hc])]
    · have hn : ¬ s.c < t.c := fun z => h (.inr ⟨hb.symm, z⟩)
      have hl : ¬ ([s.c] : List Nat) < [t.c] := fun z => by
        rw [List.cons_lt_cons_iff] at z
        rcases z with z | ⟨_, z⟩
        · exact hn z
        · cases z
      rw [if_neg (by intro z; injection z with z; simp at z; exact hc z)]
      show (!decide (([s.c] : List Nat) < [t.c])) = true
      rw [decide_eq_false hl]
      rfl
  · rw [if_neg (by omega)]
    have : t.b < s.b := by
      rcases Nat.lt_or_ge t.b s.b with z | z
      · exact z
      · exact absurd (.inl (by omega)) h
    exact decide_eq_true (by omega)
/-- where steps are wrong first, and what is told -/
def BadStp (K : PySem.W.Frag) (H : Hp) (n : Nat) (v w : V) : Prop := (NotTup K H v ∧ w = .non) ∨ ∃ (p : Addr) (us : List V) (ss : List Stp) (y : V), v = .ref p ∧ SqT K H p us ∧ w = .int (ss.length : Nat) ∧ us.length < 1000 ∧ us[ss.length]? = some y ∧
  (∀ (i : Nat) (s : Stp), ss[i]? = some s → ∃ q, us[i]? = some (V.ref q) ∧ SqT K H q (stpV s)) ∧ (∀ s ∈ ss, s.Ok n) ∧ ss.Pairwise Stp.lt ∧
  ((∀ H', Same H H' → NotStep K H' (n : Nat) y) ∨ ∃ (q : Addr) (s l : Stp), y = .ref q ∧ SqT K H q (stpV s) ∧ s.Ok n ∧ ss.getLast? = some l ∧ ¬ l.lt s)
def sp_stands_bad (K : PySem.W.Frag) (B : Addr) : Sp := fun vs H _ E => ∃ v, vs = [v] ∧ BadNum K H 1 8 v ∧ E (.ref B) none H
def sp_steps_bad (K : PySem.W.Frag) (B : Addr) : Sp := fun vs H _ E => ∃ (n : Nat) (v w : V), vs = [.int (n : Nat), v] ∧ BadStp K H n v w ∧ ∀ d H', Same H H' → H' d = some (.xd [("index", w)]) → E (.ref B) (some d) H'
def BadEnd (K : PySem.W.Frag) (H : Hp) (n : Int) (v : V) : Prop := NotTup K H v ∨ ∃ t xs, v = .ref t ∧ SqT K H t xs ∧ (∀ x ∈ xs, Num K H x) ∧ ascV n 0 xs = false
def sp_ends_bad (K : PySem.W.Frag) (B : Addr) : Sp := fun vs H _ E => ∃ (n : Int) (v : V), vs = [.int n, v] ∧ BadEnd K H n v ∧ E (.ref B) none H
section
variable {P : Program} {w : World} {K : PySem.W.Frag} {mg : Str → Option Value} {base : Heap}
theorem ok_BadSteps_init (T : Txt K mg) : FnOk P w K mg base (L2.CX P w) 1 T.a_BadSteps_init T.fd_BadSteps_init ["self", "index"] (fun vs H Q E => (∃ a, vs = [.ref a, .non] ∨ ∃ i : Int, vs = [.ref a, .int i] ∧ 0 ≤ i ∧ i < 10 ^ 10) ∧ sp_einit K T.c_BadSteps "index" vs H Q E) := by
  refine T.F_BadSteps_init.okX sc_BadSteps_init (fun vs H Q E h => ?_) (fun cdv A outer s H vs Q E hr h => ?_)
  · obtain ⟨_, a, v, rfl, _⟩ := h
    rfl
  · obtain ⟨hv, a, v, rfl, ea, k⟩ := h
    refine ⟨_, (PSs.nox (pss_cons (ps_expr (pe_tveinit (by rfl) T.m_TallyError T.rd_TallyError T.fv_TallyError T.sg_TallyError (pa_cons (pv 0) (pa_cons (pe_joined (.cons pe_str (.cons (pe_fmtN (pv 1)) .nil))) pa_nil))))
  (pss_one (ps_ost (pv 0) (pv 1))))), ?_⟩
    walk_at "begin"
    walk_at "go"
    refine k_vei ?_
    walk_at "go"
    have fin : ∀ m : Str, (V.ref a :: [V.str m]).length ≤ 1000 → tOst K (Str.ofString "index") (tVar 0) (tVar 1) { nx := fun x H' => Q V.non H', rt := Q } [some (V.ref a), some v] H := fun _ _ => by
      refine k_ost ?_
      walk_at "go"
      refine ⟨a, T.c_BadSteps, rfl, T.o_BadSteps, T.no_BadSteps_index, .inl ⟨ea, fun dx hd ne => ?_⟩⟩
      walk_at "go"
      exact k dx hd ne
    have l0 : (Str.empty ++ (Str.ofString "not the steps of a machine, index ")).length = 34 := by decide +kernel
    refine ⟨_, rfl, by rw [l0]; decide, ?_⟩
    show tFmtN _ _ _ _
    refine k_fmtN ?_
    walk_at "go"
    obtain ⟨a', hv | ⟨i, hv, i0, i1⟩⟩ := hv
    · cases hv
      refine .inl ⟨rfl, _, rfl, by rw [strLen_append, l0]; decide +kernel, ?_⟩
      simp only [tJs]
      walk_at "go"
      exact ⟨a, T.c_BadSteps, _, rfl, by show 1 ≤ 1000; decide, T.o_BadSteps, ea, fin Str.empty (by show 2 ≤ 1000; decide)⟩
    · cases hv
      have hz : i.natAbs.log2 < 1920 := by
        have h1 : i.natAbs < 2 ^ 34 := by omega
        have h2 := Nat.log2_lt (n := i.natAbs) (k := 34)
        by_cases c : i.natAbs = 0
        · rw [c]; decide
        · exact Nat.lt_trans ((h2 c).mpr h1) (by decide)
      refine .inr ⟨i, rfl, hz, _, rfl, ?_, ?_⟩
      · rw [strLen_append, l0]
        have := PyProof.Rows.toString_length_le (k := 10) i0 (by decide) i1
        exact Nat.le_trans (Nat.add_le_add_left this 34) (by decide)
      simp only [tJs]
      walk_at "go"
      exact ⟨a, T.c_BadSteps, _, rfl, by show 1 ≤ 1000; decide, T.o_BadSteps, ea, fin Str.empty (by show 2 ≤ 1000; decide)⟩
theorem ok_check_stands_no (T : Txt K mg) : FnOk P w K mg base (L2.CX P w) 3 T.a_check_stands T.fd_check_stands ["stands"] (sp_stands_bad K T.c_BadStands) := by
  refine T.F_check_stands.okX sc_check_stands (fun vs H Q E h => ?_) (fun cdv A outer s H vs Q E hr h => ?_)
  · obtain ⟨v, rfl, _⟩ := h
    rfl
  · obtain ⟨v, rfl, bad, k⟩ := h
    refine ⟨_, (pss_one (ps_if (pt_not (pt_val (pe_call (ok_is_integer_between T) (hr.mono (by decide)) (by rfl) T.m_is_integer_between T.k_is_integer_between T.b_is_integer_between .nil passL (pa_cons (pv 0) (pa_cons pe_int (pa_cons (pe_glob (by rfl) T.m_MOST_STANDS T.r_MOST_STANDS) pa_nil))))))
  (pss_one (ps_raise rfl (takes_of rfl rfl rfl rfl) (pmk_own PySem.F.excBase_ValueError T.x_BadStands T.m_BadStands T.k_BadStands (raises_own T.b_BadStands T.t_BadStands) (by exact rfl))))
  pss_nil)), ?_⟩
    walk_at "begin"
    walk_at "go"
    refine ⟨_, 1, 8, rfl, ?_⟩
    rcases bad with ⟨i, rfl, hi⟩ | ni
    · refine .inl ⟨i, rfl, ?_⟩
      rw [decide_eq_false hi]
      walk_at "go"
      refine iteT ?_
      walk_at "go"
      exact k
    · refine .inr ⟨ni, ?_⟩
      walk_at "go"
      refine iteT ?_
      walk_at "go"
      exact k
theorem ok_check_ends_no (T : Txt K mg) : FnOk P w K mg base (L2.CX P w) 4 T.a_check_ends T.fd_check_ends ["stands", "ends"] (sp_ends_bad K T.c_BadEnds) := by
  refine T.F_check_ends.okX sc_check_ends (fun vs H Q E h => ?_) (fun cdv A outer s H vs Q E hr h => ?_)
  · obtain ⟨n, v, rfl, _⟩ := h
    rfl
  · obtain ⟨n, v, rfl, bad, k⟩ := h
    refine ⟨_, (pss_one (ps_if (pt_not (pt_val (pe_call (ok_is_ascending T) (hr.mono (by decide)) (by rfl) T.m_is_ascending T.k_is_ascending T.b_is_ascending .nil passL (pa_cons (pv 1) (pa_cons (pv 0) pa_nil)))))
  (pss_one (ps_raise rfl (takes_of rfl rfl rfl rfl) (pmk_own PySem.F.excBase_ValueError T.x_BadEnds T.m_BadEnds T.k_BadEnds (raises_own T.b_BadEnds T.t_BadEnds) (by exact rfl))))
  pss_nil)), ?_⟩
    walk_at "begin"
    walk_at "go"
    refine ⟨_, _, rfl, ?_⟩
    rcases bad with ⟨ty, h1, h2⟩ | ⟨t, xs, rfl, ht, hx, e⟩
    · refine .inl ⟨ty, h1, h2, ?_⟩
      walk_at "go"
      refine iteT ?_
      walk_at "go"
      exact k
    · refine .inr ⟨t, xs, rfl, ht, hx, ?_⟩
      rw [e]
      walk_at "go"
      refine iteT ?_
      walk_at "go"
      exact k

theorem stand_read {n : Int} {b : V} {H : Hp} {Q : VK} {E : XK} (h : Num K H b) (k : Q (.bl (btw 0 (n - 1) b)) H) : sp_is_stand K [.int n, b] H Q E := by
  rcases h with ⟨i, rfl⟩ | ⟨ni, nj⟩
  · refine ⟨_, n, rfl, .inl ⟨i, rfl, ?_⟩⟩
    rw [decide_eq_decide.mpr (show (0 ≤ i ∧ i < n) ↔ (0 ≤ i ∧ i ≤ n - 1) by omega)]
    exact k
  · rw [btw_odd nj] at k
    exact ⟨_, n, rfl, .inr ⟨ni, k⟩⟩
theorem ok_is_step_bad (T : Txt K mg) : FnOk P w K mg base (L2.CX P w) 4 T.a_is_step T.fd_is_step ["stands", "value"] (sp_is_stepG K) := by
  refine T.F_is_step.okX sc_is_step (fun vs H Q E h => ?_) (fun cdv A outer s H vs Q E hr h => ?_)
  · obtain ⟨n, v, rfl, _⟩ := h
    rfl
  · obtain ⟨n, v, rfl, h⟩ := h
    have h' : (NotTup K H v ∧ Q (.bl false) H) ∨ (∃ p xs, v = .ref p ∧ SqT K H p xs ∧ xs.length ≠ 4 ∧ Q (.bl false) H) ∨ ∃ p b l e g, v = .ref p ∧ SqT K H p [b, l, e, g] ∧ Num K H b ∧ Num K H e ∧ Num K H g ∧ flatV l = true ∧ Q (.bl (stepB n b l e g)) H := by
      rcases h with ⟨h | ⟨p, xs, e, hp, c | ⟨b, l, e', g, rfl, nb, ne, ng, fl, eq⟩⟩, k⟩ | ⟨m, p, t, rfl, e, hp, o, k⟩
      · exact .inl ⟨h, k⟩
      · exact .inr (.inl ⟨p, xs, e, hp, c, k⟩)
      · rw [← eq] at k
        exact .inr (.inr ⟨p, b, l, e', g, e, hp, nb, ne, ng, fl, k⟩)
      · refine .inr (.inr ⟨p, _, _, _, _, e, hp, .inl ⟨_, rfl⟩, .inl ⟨_, rfl⟩, .inl ⟨_, rfl⟩, rfl, ?_⟩)
        have z : stepB (m : Nat) (.int (t.b : Nat)) (.str ⟨#[t.c]⟩) (.int (t.e : Nat)) (.int t.g) = true := by
          have := o.b; have := o.e; have := o.g; have := o.g'
          unfold stepB btw
          rw [letter_in o.c o.c']
          dsimp only
          rw [decide_eq_true (by omega), decide_eq_true (by omega), decide_eq_true (by omega)]
          rfl
        rw [z]
        exact k
    refine ⟨_, (PSs.nox (pss_cons (ps_if (PW.pt (pw_or (pt_not (pt_val (pe_callB call_isi (by rfl) T.z_isinstance (by decide +kernel) (pa_cons (pv 1) (pa_cons (pe_bltn (v := .ty "tuple") (by rfl) T.z_tuple (by decide +kernel) rfl) pa_nil))))) (pw_or1 (pt_cmpR op_ne (pe_callB call_len_seq (by rfl) T.z_len PySem.boot_len (pa_cons (pv 1) pa_nil)) pe_int (nomark _)))))
  (pss_one (ps_ret pe_bl))
  pss_nil)
  (pss_cons (ps_asg (pv 1) (pg_tup rfl (pgs_cons (pg_name (i := 2) sc_is_step.nd rfl (Or.inl rfl)) (pgs_cons (pg_name (i := 3) sc_is_step.nd rfl (Or.inl rfl)) (pgs_cons (pg_name (i := 4) sc_is_step.nd rfl (Or.inl rfl)) (pgs_cons (pg_name (i := 5) sc_is_step.nd rfl (Or.inl rfl)) pgs_nil))))))
  (pss_one (ps_ret (pe_and (pe_call (ok_is_stand T) (hr.mono (by decide)) (by rfl) T.m_is_stand T.k_is_stand T.b_is_stand .nil passL (pa_cons (pv 0) (pa_cons (pv 2) pa_nil))) (pe_and (pe_cmpR op_in_seq (pv 3) (pe_glob (by rfl) T.m_LETTERS T.r_LETTERS) (by rfl)) (pe_and (pe_call (ok_is_stand T) (hr.mono (by decide)) (by rfl) T.m_is_stand T.k_is_stand T.b_is_stand .nil passL (pa_cons (pv 0) (pa_cons (pv 4) pa_nil))) (pe_one (pe_call (ok_is_integer_between T) (hr.mono (by decide)) (by rfl) T.m_is_integer_between T.k_is_integer_between T.b_is_integer_between .nil passL (pa_cons (pv 5) (pa_cons (pe_un un_neg (pe_glob (by rfl) T.m_MOST_GAIN T.r_MOST_GAIN)) (pa_cons (pe_glob (by rfl) T.m_MOST_GAIN T.r_MOST_GAIN) pa_nil))))))))))))), ?_⟩
    walk_at "begin"
    walk_at "go"
    rcases h' with ⟨⟨ty, h1, h2⟩, k⟩ | ⟨p, xs, rfl, hp, c, k⟩ | ⟨p, b, l, e, g, rfl, hp, nb, ne, ng, fl, k⟩
    · refine k_isi (.ty _) h1 h2 ?_
      walk_at "go"
      refine iteT ?_
      walk_at "go"
      exact k
    · refine k_isi (.ty _) (ty_tup hp) (kit_ty (b := "tuple") (r := true) (by decide +kernel)) ?_
      walk_at "go"
      refine iteF ?_
      walk_at "go"
      refine k_len (.inr hp) ?_
      walk_at "go"
      rw [decide_eq_false (show ¬ V.int (xs.length : Nat) = V.int 4 from fun z => by injection z with z; exact c (by omega))]
      refine iteT ?_
      walk_at "go"
      exact k
    · refine k_isi (.ty _) (ty_tup hp) (kit_ty (b := "tuple") (r := true) (by decide +kernel)) ?_
      walk_at "go"
      refine iteF ?_
      walk_at "go"
      refine k_len (.inr hp) ?_
      walk_at "go"
      refine iteF ?_
      walk_at "go"
      refine k_gt hp rfl ?_
      unfold stepB at k
      walk_at "go"
      refine stand_read nb ?_
      generalize btw 0 (n - 1) b = b1 at k ⊢
      cases b1 with
      | false => exact ⟨_, rfl, iteF k⟩
      | true =>
        refine ⟨_, rfl, iteT ?_⟩
        walk_at "go"
        refine k_in (.inr (T.s_LETTERS _)) fl (by decide) ?_
        rw [Bool.true_and] at k
        show ∃ c, V.bl (inV l [V.str "a", V.str "b", V.str "c", V.str "d"]) = V.bl c ∧ _
        generalize inV l [V.str "a", V.str "b", V.str "c", V.str "d"] = b2 at k ⊢
        cases b2 with
        | false => exact ⟨_, rfl, iteF k⟩
        | true =>
          refine ⟨_, rfl, iteT ?_⟩
          walk_at "go"
          rw [Bool.true_and] at k
          refine stand_read ne ?_
          generalize btw 0 (n - 1) e = b3 at k ⊢
          cases b3 with
          | false => exact ⟨_, rfl, iteF k⟩
          | true =>
            refine ⟨_, rfl, iteT ?_⟩
            walk_at "go"
            rw [Bool.true_and] at k
            rcases ng with ⟨i, rfl⟩ | ⟨ni, nj⟩
            · exact ⟨_, _, _, rfl, .inl ⟨i, rfl, k⟩⟩
            · rw [btw_odd nj] at k
              exact ⟨_, _, _, rfl, .inr ⟨ni, k⟩⟩
theorem ok_check_steps_no (T : Txt K mg) : FnOk P w K mg base (L2.CX P w) 5 T.a_check_steps T.fd_check_steps ["stands", "steps"] (sp_steps_bad K T.c_BadSteps) := by
  refine T.F_check_steps.okX sc_check_steps (fun vs H Q E h => ?_) (fun cdv A outer s H vs Q E hr h => ?_)
  · obtain ⟨n, v, w, rfl, _⟩ := h
    rfl
  · obtain ⟨n, v, w, rfl, bad, k⟩ := h
    refine ⟨_, (pss_cons (ps_if (pt_not (pt_val (pe_callB call_isi (by rfl) T.z_isinstance (by decide +kernel) (pa_cons (pv 1) (pa_cons (pe_bltn (v := .ty "tuple") (by rfl) T.z_tuple (by decide +kernel) rfl) pa_nil)))))
  (pss_one (ps_raise rfl (takes_of rfl rfl rfl rfl) (pmk_oex T.o_BadSteps T.ie_BadSteps T.ti_BadSteps (ok_BadSteps_init T) (hr.mono (by decide)) T.b_BadSteps_init .nil passL (by rfl) T.m_BadSteps (pa_cons pe_non pa_nil))))
  pss_nil)
  (pss_one (ps_for (passes_of rfl) rfl (pi_enumT (by rfl) T.z_enumerate (pa_cons (pv 1) pa_nil)) (pg_tup rfl (pgs_cons (pg_name (i := 2) sc_check_steps.nd rfl (Or.inl rfl)) (pgs_cons (pg_name (i := 3) sc_check_steps.nd rfl (Or.inl rfl)) pgs_nil)))
  (pss_cons (ps_if (pt_not (pt_val (pe_callS (ok_is_step_bad T) (hr.mono (by decide)) (by rfl) T.m_is_step T.k_is_step T.b_is_step (fun σ => passAt (takes_of rfl rfl rfl rfl) σ) (pa_cons (pv 0) (pa_cons (pv 3) pa_nil)))))
  (pss_one (ps_raise rfl (takes_of rfl rfl rfl rfl) (pmk_oex T.o_BadSteps T.ie_BadSteps T.ti_BadSteps (ok_BadSteps_init T) (hr.mono (by decide)) T.b_BadSteps_init .nil passL (by rfl) T.m_BadSteps (pa_cons (pv 2) pa_nil))))
  pss_nil)
  (pss_one (ps_if (PW.pt (pw_and (pt_cmpR op_gt (pv 2) pe_int (nomark _)) (pw_and1 (pt_cmpR (op_le2 hr.units0) (pe_slice sl_tupA (pv 3) po_none (po_some pe_int)) (pe_slice sl_tupA (pe_ix ix_tup (pv 1) (pe_op op_sub (pv 2) pe_int) (fun _ _ => rfl)) po_none (po_some pe_int)) (nomark _)))))
  (pss_one (ps_raise rfl (takes_of rfl rfl rfl rfl) (pmk_oex T.o_BadSteps T.ie_BadSteps T.ti_BadSteps (ok_BadSteps_init T) (hr.mono (by decide)) T.b_BadSteps_init .nil passL (by rfl) T.m_BadSteps (pa_cons (pv 2) pa_nil))))
  pss_nil)))))), ?_⟩
    walk_at "begin"
    walk_at "go"
    rcases bad with ⟨⟨ty, h1, h2⟩, rfl⟩ | ⟨p, us, ss, y, rfl, hp, rfl, l1000, hy, hpre, hok, hup, hbad⟩
    · refine k_isi (.ty _) h1 h2 ?_
      walk_at "go"
      refine iteT ?_
      walk_at "go"
      refine k_mkO ?_
      walk_at "go"
      refine ⟨(by show 1 ≤ 1000; decide), fun a ha => ⟨⟨a, .inl rfl⟩, a, _, rfl, upd_same, fun dx hd ne => ?_⟩⟩
      have hd' : H dx = none := by rw [upd_ne ne] at hd; exact hd
      exact ⟨rfl, dx, _, upd_same, by rw [upd_ne ne]; exact upd_same, hd', k _ _ (exc_same ha hd') upd_same⟩
    · refine k_isi (.ty _) (ty_tup hp) (kit_ty (b := "tuple") (r := true) (by decide +kernel)) ?_
      walk_at "go"
      refine iteF ?_
      walk_at "go"
      have kl : ss.length < us.length := (List.getElem?_eq_some_iff.mp hy).1
      refine ⟨_, rfl, p, us, rfl, hp, for_enumT (xs := us) (fun i σ H' => Same H H' ∧ i ≤ ss.length ∧ ∃ a b, σ = [some (.int (n : Nat)), some (.ref p), a, b]) ⟨Same.refl _, Nat.zero_le _, _, _, rfl⟩ (fun i σ H' _ ⟨z, _⟩ => (same_tups z).sq hp) ?_ ?_⟩
      · rintro i x q σ H1 hx ⟨z, hle, a, b, rfl⟩ hq
        have z1 : Same H (upd H1 q (.tup [.int (i : Nat), x])) := z.trans (Same.new hq)
        refine k_gt (SqT.of upd_same) rfl ?_
        generalize upd H1 q (.tup [.int (i : Nat), x]) = H2 at z1 ⊢
        walk_at "go"
        refine k_callS ?_
        walk_at "go"
        have fin : ∀ H3, Same H H3 → ∀ (a' : Addr), H3 a' = none → (∃ a, [V.ref a', V.int (ss.length : Nat)] = [V.ref a, .non] ∨ ∃ i : Int, [V.ref a', V.int (ss.length : Nat)] = [V.ref a, .int i] ∧ 0 ≤ i ∧ i < 10 ^ 10) := fun _ _ a' _ => ⟨a', .inr ⟨_, rfl, by omega, by omega⟩⟩
        rcases Nat.lt_or_ge i ss.length with il | ige
        · obtain ⟨q1, eq, hq1⟩ := hpre i _ (List.getElem?_eq_getElem il)
          rw [hx] at eq
          cases eq
          have hq2 := (same_tups z1).sq hq1
          refine ⟨_, _, rfl, .inr ⟨n, q1, _, rfl, rfl, hq2, hok _ (List.getElem_mem il), ?_⟩⟩
          walk_at "go"
          refine iteF ?_
          walk_at "go"
          refine k_ite (fun c => ?_) (fun c => iteF ?_)
          · walk_at "go"
            have jl : i - 1 < ss.length := by omega
            obtain ⟨q2, eq2, hq3⟩ := hpre (i - 1) _ (List.getElem?_eq_getElem jl)
            refine k_slA2 hq2 fun p1 n1 => ?_
            have z2 := z1.trans (Same.new (o := .tup [.int ((ss[i]'il).b : Nat), .str ⟨#[(ss[i]'il).c]⟩]) n1)
            walk_at "go"
            refine k_ixT ((same_tups z2).sq hp) (v := .ref q2) (at_of (j := i - 1) (by omega) eq2) ?_
            walk_at "go"
            refine k_slA2 ((same_tups z2).sq hq3) fun p2 n2 => ?_
            have z3 := z2.trans (Same.new (o := .tup [.int ((ss[i - 1]'jl).b : Nat), .str ⟨#[(ss[i - 1]'jl).c]⟩]) n2)
            refine ⟨p1, p2, _, _, _, _, rfl, rfl, SqT.of (Same.new n2 _ _ upd_same), SqT.of upd_same, ?_⟩
            have up := List.pairwise_iff_getElem.mp hup (i - 1) i jl il (by omega)
            rw [le2_no up]
            walk_at "go"
            refine iteF ?_
            walk_at "go"
            exact ⟨z3, il, _, _, rfl⟩
          · walk_at "go"
            exact ⟨z1, il, _, _, rfl⟩
        · obtain rfl : i = ss.length := by omega
          rw [hy] at hx
          cases hx
          rcases hbad with nb | ⟨q1, s1, l, rfl, hq1, ok1, hl, nl⟩
          · refine ⟨_, _, rfl, .inl ⟨nb _ z1, ?_⟩⟩
            walk_at "go"
            refine iteT ?_
            walk_at "go"
            refine k_mkO ?_
            walk_at "go"
            refine ⟨(by show 1 ≤ 1000; decide), fun a' ha => ⟨⟨a', .inr ⟨_, rfl, by omega, by omega⟩⟩, a', _, rfl, upd_same, fun dx hd ne => ?_⟩⟩
            have hd' : H2 dx = none := by rw [upd_ne ne] at hd; exact hd
            exact ⟨rfl, dx, _, upd_same, by rw [upd_ne ne]; exact upd_same, hd', k _ _ (z1.trans (exc_same ha hd')) upd_same⟩
          · have hq2 := (same_tups z1).sq hq1
            refine ⟨_, _, rfl, .inr ⟨n, q1, _, rfl, rfl, hq2, ok1, ?_⟩⟩
            walk_at "go"
            refine iteF ?_
            walk_at "go"
            have s0 : 0 < ss.length := by
              cases ss with
              | nil => cases hl
              | cons _ _ => exact Nat.succ_pos _
            rw [decide_eq_true (by omega)]
            refine iteT ?_
            walk_at "go"
            have jl : ss.length - 1 < ss.length := by omega
            obtain ⟨q2, eq2, hq3⟩ := hpre (ss.length - 1) _ (List.getElem?_eq_getElem jl)
            have el : ss[ss.length - 1]'jl = l := by
              rw [List.getLast?_eq_getElem?, List.getElem?_eq_getElem jl] at hl
              exact Option.some.inj hl
            rw [el] at hq3
            refine k_slA2 hq2 fun p1 n1 => ?_
            have z2 := z1.trans (Same.new (o := .tup [.int (s1.b : Nat), .str ⟨#[s1.c]⟩]) n1)
            walk_at "go"
            refine k_ixT ((same_tups z2).sq hp) (v := .ref q2) (at_of (j := ss.length - 1) (by omega) eq2) ?_
            walk_at "go"
            refine k_slA2 ((same_tups z2).sq hq3) fun p2 n2 => ?_
            have z3 := z2.trans (Same.new (o := .tup [.int (l.b : Nat), .str ⟨#[l.c]⟩]) n2)
            refine ⟨p1, p2, _, _, _, _, rfl, rfl, SqT.of (Same.new n2 _ _ upd_same), SqT.of upd_same, ?_⟩
            rw [le2_yes nl]
            generalize upd (upd H2 p1 (.tup [.int (s1.b : Nat), .str ⟨#[s1.c]⟩])) p2 (.tup [.int (l.b : Nat), .str ⟨#[l.c]⟩]) = H5 at z3 ⊢
            walk_at "go"
            refine iteT ?_
            walk_at "go"
            refine k_mkO ?_
            walk_at "go"
            refine ⟨(by show 1 ≤ 1000; decide), fun a' ha => ⟨⟨a', .inr ⟨_, rfl, by omega, by omega⟩⟩, a', _, rfl, upd_same, fun dx hd ne => ?_⟩⟩
            have hd' : H5 dx = none := by rw [upd_ne ne] at hd; exact hd
            exact ⟨rfl, dx, _, upd_same, by rw [upd_ne ne]; exact upd_same, hd', k _ _ (z3.trans (exc_same ha hd')) upd_same⟩
      · rintro σ H1 ⟨z, hle, _⟩
        omega
theorem ok_check_stands_bad (T : Txt K mg) : FnOk P w K mg base (L2.CX P w) 3 T.a_check_stands T.fd_check_stands ["stands"] (fun vs H Q E => sp_check_stands K vs H Q E ∨ sp_stands_bad K T.c_BadStands vs H Q E) := FnOk.or (ok_check_stands T) (ok_check_stands_no T)
theorem ok_check_steps_bad (T : Txt K mg) : FnOk P w K mg base (L2.CX P w) 5 T.a_check_steps T.fd_check_steps ["stands", "steps"] (fun vs H Q E => sp_check_steps K vs H Q E ∨ sp_steps_bad K T.c_BadSteps vs H Q E) := FnOk.or (ok_check_steps T) (ok_check_steps_no T)
theorem ok_check_ends_bad (T : Txt K mg) : FnOk P w K mg base (L2.CX P w) 4 T.a_check_ends T.fd_check_ends ["stands", "ends"] (fun vs H Q E => sp_check_ends K vs H Q E ∨ sp_ends_bad K T.c_BadEnds vs H Q E) := FnOk.or (ok_check_ends T) (ok_check_ends_no T)
/-- a machine refused -/
def sp_init_bad (K : PySem.W.Frag) (C BS BT BE : Addr) : Sp := fun vs H _ E => ∃ (x : Addr) (s t u : V), vs = [.ref x, s, t, u] ∧
  ((BadNum K H 1 8 s ∧ E (.ref BS) none H) ∨
   (∃ (n : Nat) (v : V), s = .int (n : Nat) ∧ 1 ≤ n ∧ n ≤ 8 ∧ BadStp K H n t v ∧ ∀ d H', Same H H' → H' d = some (.xd [("index", v)]) → E (.ref BT) (some d) H') ∨
   (∃ (m : MD) (p : Addr) (us : List V), s = .int (m.n : Nat) ∧ t = .ref p ∧ m.Ok ∧ SqT K H p us ∧ StpsAt K H us m.ss ∧ (∀ H', Same H H' → BadEnd K H' (m.n : Nat) u) ∧ ∀ H', Same H H' → E (.ref BE) none H'))
theorem ok_Machine_init_bad (T : Txt K mg) : FnOk P w K mg base (L2.CX P w) 6 T.a_Machine_init T.fd_Machine_init ["self", "stands", "steps", "ends"] (sp_init_bad K T.c_Machine T.c_BadStands T.c_BadSteps T.c_BadEnds) := by
  refine T.F_Machine_init.okX sc_Machine_init (fun vs H Q E h => ?_) (fun cdv A outer s H vs Q E hr h => ?_)
  · obtain ⟨x, s, t, u, rfl, _⟩ := h
    rfl
  · obtain ⟨x, s', t, u, rfl, h⟩ := h
    refine ⟨_, (pss_cons (ps_expr (pe_callS (ok_check_stands_bad T) (hr.mono (by decide)) (by rfl) T.m_check_stands T.k_check_stands T.b_check_stands (fun σ => passAt (takes_of rfl rfl rfl rfl) σ) (pa_cons (pv 1) pa_nil)))
  (pss_cons (ps_expr (pe_callS (ok_check_steps_bad T) (hr.mono (by decide)) (by rfl) T.m_check_steps T.k_check_steps T.b_check_steps (fun σ => passAt (takes_of rfl rfl rfl rfl) σ) (pa_cons (pv 1) (pa_cons (pv 2) pa_nil))))
  (pss_cons (ps_expr (pe_callS (ok_check_ends_bad T) (hr.mono (by decide)) (by rfl) T.m_check_ends T.k_check_ends T.b_check_ends (fun σ => passAt (takes_of rfl rfl rfl rfl) σ) (pa_cons (pv 1) (pa_cons (pv 3) pa_nil))))
  (pss_cons (ps_fld (pv 0) (pv 1) rfl)
  (pss_cons (ps_fld (pv 0) (pv 2) rfl)
  (pss_one (ps_fld (pv 0) (pv 3) rfl))))))), ?_⟩
    walk_at "begin"
    walk_at "go"
    refine k_callS ?_
    walk_at "go"
    rcases h with ⟨bad, k⟩ | ⟨n, v, rfl, n1, n8, bad, k⟩ | ⟨m, p, us, rfl, rfl, o, hp, hs, bad, k⟩
    · exact .inr ⟨_, rfl, bad, k⟩
    · refine .inl ⟨_, rfl, by omega, by omega, ?_⟩
      walk_at "go"
      refine k_callS ?_
      walk_at "go"
      exact .inr ⟨n, _, _, rfl, bad, k⟩
    · refine .inl ⟨_, rfl, by have := o.n1; omega, by have := o.n8; omega, ?_⟩
      walk_at "go"
      refine k_callS ?_
      walk_at "go"
      refine .inl ⟨p, us, m, rfl, hp, hs, o, fun H1 z1 => ?_⟩
      walk_at "go"
      refine k_callS ?_
      walk_at "go"
      exact .inr ⟨_, _, rfl, bad _ z1, k _ z1⟩
end
/-! ### name = {k: v for ..} -/
theorem sw_trueD {kx vx : Expr} {gs : List Comprehension} {scope : Scope} {pos py : Pos} {y : Str} {n : Nat} {env : Env} (hk : env.scope.kind = .function) (hy : env.scope.names.lookup y = some .local) (hl : (py.line == pos.line) = true)
    (ha : (scope.names.any fun (m, c) => m == y && (c == .local || c == .cell)) = false) : swapsWith (.DictComp kx vx gs scope pos) (some (.Name y py)) n env = pure true := by
  have k1 : env.kindOf y = some .local := hy
  have k2 : env.blockKind = .function := by
    unfold Env.blockKind
    rw [hk]
    rfl
  unfold swapsWith
  simp only [k1, k2, ha, Expr.pos, hl]
  rfl
section
variable {X : Cx}
theorem ps_setDc {i : Nat} {y : Str} {py : Pos} {kx vx tg it : Expr} {ifs : List Expr} {scope : Scope} {own : List (Str × Nat)} {pos sp : Pos} {wi : TI} {g : TG} {tt : TT} {tk tv : TE} (hc : X.calm = true) (hN : X.N.Nodup)
    (hy : X.N[i]? = some y) (hyl : X.env.scope.names.lookup y = some .local) (hsw : swapsWith (.DictComp kx vx [⟨tg, it, ifs, 0⟩] scope pos) (some (.Name y py)) sp.line X.env = pure true)
    (hi : PI X tg it wi) (ok : BlkOk X.N X.env.scope scope own)
    (hg : ∀ (s : Shared) (H : Hp) (C : Addr) (cl : List (Str × Addr)) (fp : List Addr), PG (X.blk s H scope (compEnvC scope cl C X.env) fp) tg g)
    (ht : ∀ (s : Shared) (H : Hp) (C : Addr) (cl : List (Str × Addr)) (fp : List Addr), PTs (X.blk s H scope (compEnvC scope cl C X.env) fp) ifs tt)
    (hk : ∀ (s : Shared) (H : Hp) (C : Addr) (cl : List (Str × Addr)) (fp : List Addr), PE (X.blk s H scope (compEnvC scope cl C X.env) fp) kx tk)
    (hv : ∀ (s : Shared) (H : Hp) (C : Addr) (cl : List (Str × Addr)) (fp : List Addr), PE (X.blk s H scope (compEnvC scope cl C X.env) fp) vx tv)
    (hs : ∀ x, foldedSetIterable it X.env x = pure x := by intro _; rfl) :
    PS X (.Assign [.Name y py] (.DictComp kx vx [⟨tg, it, ifs, 0⟩] scope pos) sp) (tAsg (tDc wi g tt tk tv (own.map (·.2))) (gName i)) := by
  constructor
  intro pins s σ H D I h
  rw [exec_Assign_Name_used _ _ _ _ hsw]
  refine wpAny_bind (wpAny_standAt (wpAny_bind ?_))
  show wpAny _ X.A (do let _ ← comprehension (.DictComp kx vx [⟨tg, it, ifs, 0⟩] scope pos) scope X.env (firstIterPos [⟨tg, it, ifs, 0⟩] pos) newDict false (eval it X.env) (some (assign (.Name y py) X.env))) _ _ s
  have h' : tDc wi g tt tk tv (own.map (·.2)) σ H (fun x H1 => gName i x σ H1 D.nx) := h
  refine wpAny_bind (thn (dc_core (Qf := fun _ s' => SP X pins D .next s') hc hN I hi ok hg ht hk hv hs h' ?_) fun _ s' hq => wpAny_pure (wpAny_pure hq))
  intro L C s' m H' I' q hn f
  show wpAny _ _ (assign (.Name y py) X.env (.ref L)) _ _ _
  refine wpAny_assign_Name (store_ok2 (v := V.ref L) I' hN hy (.inl hyl) rfl ?_ (.inr hyl))
  rintro s2 I2 ⟨a, sb, ha⟩
  obtain ⟨f0, f1, f2, f3, f4, f5⟩ := f
  have ne : C ≠ a := by
    rcases ha with z | z
    · rw [z]; exact f1
    · exact fun e => f4 y a z e.symm
  exact ⟨m, hn.sameBut sb ne, fun h3 sb3 => ⟨_, H', I2.turned (t' := s2.toks) (fun b o hb e => (sb3.2 b hb).trans e) f0 f1 f3 f4 f5, q⟩⟩
/-- over a list that stays -/
theorem dc_lst {K : PySem.W.Frag} {a : Addr} {xs : List V} {g : TG} {tt : TT} {tk tv : TE} {vs : List Nat} {σ : L2.St} {H1 : Hp} {D : Addr} {Qd : Hp → Prop} (Pv : Nat → Hp → Prop) (h0 : Pv 0 (upd H1 D (.dK [])))
    (hl : ∀ i H, i ≤ xs.length → Pv i H → SqL K H a xs)
    (hs : ∀ i x H, xs[i]? = some x → Pv i H → g x (wipe σ vs) H fun σ2 H2 => wipe σ2 vs = wipe σ vs ∧ tt σ2 H2 fun b H3 =>
      if b = true then tk σ2 H3 fun y H4 => tv σ2 H4 fun z H5 => ∃ kvs k, y = kV k ∧ H5 D = some (.dK kvs) ∧ kvs.length < sizeLine ∧ Pv (i + 1) (upd H5 D (.dK (putK kvs k z))) else Pv (i + 1) H3) (hd : ∀ H, Pv xs.length H → Qd H) :
    ∃ W : Nat → Nat → Hp → Prop, (∃ m, W 0 m (upd H1 D (.dK []))) ∧ ∀ i m H, W i m H → ((Itl K a).stop i H ∧ Qd H) ∨
      ((Itl K a).go i H ∧ ∃ Nx : Hp → Prop, (∀ H', Nx H' → ∃ m', m' < m ∧ W (i + 1) m' H') ∧ ∀ x H', (Itl K a).yld i H x H' → g x (wipe σ vs) H' fun σ2 H2 => wipe σ2 vs = wipe σ vs ∧ tt σ2 H2 fun b H3 =>
        if b = true then tk σ2 H3 fun y H4 => tv σ2 H4 fun z H5 => ∃ kvs k, y = kV k ∧ H5 D = some (.dK kvs) ∧ kvs.length < sizeLine ∧ Nx (upd H5 D (.dK (putK kvs k z))) else Nx H3) := by
  refine ⟨fun i m H => m + i = xs.length ∧ Pv i H, ⟨xs.length, by simp, h0⟩, fun i m H ⟨em, hP⟩ => ?_⟩
  have sq := hl i H (by omega) hP
  by_cases c : i < xs.length
  · refine .inr ⟨⟨xs, xs[i], sq, List.getElem?_eq_getElem c⟩, Pv (i + 1), fun H' z => ⟨m - 1, by omega, by omega, z⟩, ?_⟩
    rintro x H' ⟨rfl, hx⟩
    exact hs i x _ (hx xs sq) hP
  · have e : i = xs.length := by omega
    exact .inl ⟨⟨xs, sq, by omega⟩, hd H (e ▸ hP)⟩
end
/-! ### rows by their codes; what is best so far, by stand -/
abbrev Wd := List Nat
def sOf (w : Wd) : Str := ⟨w.toArray⟩
theorem sOf_snoc (w : Wd) (c : Nat) : sOf w ++ ⟨#[c]⟩ = sOf (w ++ [c]) := by
  show Str.mk (w.toArray ++ #[c]) = _
  rw [List.append_toArray]
  rfl
theorem sOf_len (w : Wd) : (sOf w).length = w.length := by
  show w.toArray.size = _
  simp
theorem sOf_cps (w : Wd) : (sOf w).cps.toList = w := rfl
theorem sOf_inj {v w : Wd} (h : sOf v = sOf w) : v = w := by
  have := congrArg (fun s => s.cps.toList) h
  exact this
abbrev RF := Nat → Option (Int × Wd)
def better (x : Int × Wd) : Option (Int × Wd) → Bool
  | none => true
  | some y => decide (y.1 < x.1) || (decide (x.1 = y.1) && decide (x.2 < y.2))
def RF.put (f : RF) (k : Nat) (x : Int × Wd) : RF := fun j => if j = k then some x else f j
def turnL (sg : Int) (f acc : RF) (s : Stp) : RF := match f s.b with
  | none => acc
  | some y => if better (y.1 + sg * s.g, y.2 ++ [s.c]) (acc s.e) = true then acc.put s.e (y.1 + sg * s.g, y.2 ++ [s.c]) else acc
def longer (sg : Int) (f : RF) (ss : List Stp) : RF := ss.foldl (turnL sg f) fun _ => none
/-! ### dicts from stands to tuples -/
def ent2 (x : Int × Wd) : List V := [.int x.1, .str (sOf x.2)]
def E2 (f : RF) : Nat → Option (List V) := fun n => (f n).map ent2
def KvOk (K : PySem.W.Frag) (H : Hp) (kvs : List (Key × V)) (e : Nat → Option (List V)) : Prop :=
  (∀ p ∈ kvs, ∃ n : Nat, p.1 = .inl (n : Int)) ∧ ∀ n : Nat, (e n = none → valV kvs (.inl (n : Int)) = none) ∧ ∀ l, e n = some l → ∃ p, valV kvs (.inl (n : Int)) = some (.ref p) ∧ SqT K H p l
section
variable {K : PySem.W.Frag} {H H' : Hp} {kvs : List (Key × V)} {e : Nat → Option (List V)}
theorem KvOk.tups (h : KvOk K H kvs e) (t : Tups H H') : KvOk K H' kvs e := ⟨h.1, fun n => ⟨(h.2 n).1, fun l el => let ⟨p, q, z⟩ := (h.2 n).2 l el; ⟨p, q, t.sq z⟩⟩⟩
theorem KvOk.nil : KvOk K H [] fun _ => none := ⟨fun _ h => absurd h (by simp), fun n => ⟨fun _ => rfl, fun l h => by cases h⟩⟩
theorem KvOk.put {n : Nat} {p : Addr} {l : List V} (h : KvOk K H kvs e) (hp : SqT K H p l) : KvOk K H (putK kvs (.inl (n : Int)) (.ref p)) fun j => if j = n then some l else e j := by
  refine ⟨fun q hq => ?_, fun j => ?_⟩
  · unfold putK at hq
    split at hq
    · obtain ⟨r, hr, rfl⟩ := List.mem_map.mp hq
      split
      · rename_i z; exact ⟨n, z⟩
      · exact h.1 r hr
    · rcases List.mem_append.mp hq with hq | hq
      · exact h.1 q hq
      · have : q = (.inl (n : Int), .ref p) := by simpa using hq
        exact ⟨n, by rw [this]⟩
  · rw [valV_put]
    by_cases c : j = n
    · have c' : (Sum.inl (j : Int) : Key) = .inl (n : Int) := by rw [c]
      simp only [if_pos c, if_pos c']
      refine ⟨fun z => (by cases z), fun l' el => ?_⟩
      cases el
      exact ⟨p, rfl, hp⟩
    · have c' : ¬ (Sum.inl (j : Int) : Key) = .inl (n : Int) := fun z => c (by injection z with z; omega)
      simp only [if_neg c, if_neg c']
      exact h.2 j
theorem KvOk.congr {e' : Nat → Option (List V)} (h : KvOk K H kvs e) (q : ∀ n, e n = e' n) : KvOk K H kvs e' := (funext q : e = e') ▸ h
end
theorem E2_put (f : RF) (k : Nat) (x : Int × Wd) (n : Nat) : (if n = k then some (ent2 x) else E2 f n) = E2 (f.put k x) n := by
  unfold E2 RF.put
  by_cases c : n = k
  · rw [if_pos c, if_pos c]; rfl
  · rw [if_neg c, if_neg c]
theorem Same.mut {p : Addr} {H H' : Hp} {o : HO} (x : Same H H') (hp : H p = none) : Same H (upd H' p o) := fun b u h => by rw [upd_ne (ne_of_none h hp)]; exact x b u h
theorem Tups.dk {p : Addr} {H : Hp} {kvs : List (Key × V)} {o : HO} (h : H p = some (.dK kvs)) : Tups H (upd H p o) :=
  ⟨fun b xs e => by rw [upd_ne (fun z => by rw [z, h] at e; cases e)]; exact e, fun b _ xs e => by rw [upd_ne (fun z => by rw [z, h] at e; cases e)]; exact e⟩
theorem Tups.dT {p : Addr} {H : Hp} {kvs : List (List Key × V)} {o : HO} (h : H p = some (.dT kvs)) : Tups H (upd H p o) :=
  ⟨fun b xs e => by rw [upd_ne (fun z => by rw [z, h] at e; cases e)]; exact e, fun b _ xs e => by rw [upd_ne (fun z => by rw [z, h] at e; cases e)]; exact e⟩
theorem take_fold {α β : Type} (f : β → α → β) (z : β) {l : List α} {i : Nat} {x : α} (h : l[i]? = some x) : (l.take (i + 1)).foldl f z = f ((l.take i).foldl f z) x := by
  rw [List.take_add_one, h, List.foldl_append]
  rfl
/-! ### the parts read off a machine -/
section
variable {P : Program} {w : World} {K : PySem.W.Frag} {mg : Str → Option Value} {base : Heap}
theorem ok_Machine_stands (T : Txt K mg) : FnOk P w K mg base (L2.CX P w) 1 T.a_Machine_stands T.fd_Machine_stands ["self"] (getSp T.c_Machine "_stands") := by
  refine T.F_Machine_stands.okX sc_Machine_stands (fun vs H Q E h => ?_) (fun cdv A outer s H vs Q E hr h => ?_)
  · obtain ⟨a, dx, fs, v, rfl, _⟩ := h
    rfl
  · obtain ⟨a, dx, fs, v, rfl, ha, hl, k⟩ := h
    refine ⟨_, (PSs.nox (pss_one (ps_ret (pe_fld (pv 0) rfl)))), ?_⟩
    exact ⟨_, rfl, a, _, dx, fs, v, rfl, ha, T.cl_Machine, T.n__stands, hl, k⟩
theorem ok_Machine_steps (T : Txt K mg) : FnOk P w K mg base (L2.CX P w) 1 T.a_Machine_steps T.fd_Machine_steps ["self"] (getSp T.c_Machine "_steps") := by
  refine T.F_Machine_steps.okX sc_Machine_steps (fun vs H Q E h => ?_) (fun cdv A outer s H vs Q E hr h => ?_)
  · obtain ⟨a, dx, fs, v, rfl, _⟩ := h
    rfl
  · obtain ⟨a, dx, fs, v, rfl, ha, hl, k⟩ := h
    refine ⟨_, (PSs.nox (pss_one (ps_ret (pe_fld (pv 0) rfl)))), ?_⟩
    exact ⟨_, rfl, a, _, dx, fs, v, rfl, ha, T.cl_Machine, T.n__steps, hl, k⟩
end
/-! ### a machine is one -/
def sp_check_machine (C : Addr) : Sp := fun vs H Q _ => ∃ x dx fs, vs = [.ref x] ∧ H x = some (.ins C dx fs) ∧ Q .non H
section
variable {P : Program} {w : World} {K : PySem.W.Frag} {mg : Str → Option Value} {base : Heap}
theorem ty_Machine (T : Txt K mg) {H : Hp} {x dx : Addr} {fs : List (Str × V)} (h : H x = some (.ins T.c_Machine dx fs)) : TyX K H (.ref x) (.ref T.c_Machine) := .base (.ins h T.cl_Machine T.i1_Machine T.i2_Machine T.i3_Machine T.i4_Machine)
theorem kit_self {C : Addr} : PySem.W.kitOne K (.ref C) (.ref C) = some true := by
  unfold PySem.W.kitOne
  rw [if_pos (by simp)]
theorem ok_check_machine (T : Txt K mg) : FnOk P w K mg base (L2.CX P w) 1 T.a_check_machine T.fd_check_machine ["value"] (sp_check_machine T.c_Machine) := by
  refine T.F_check_machine.okX sc_check_machine (fun vs H Q E h => ?_) (fun cdv A outer s H vs Q E hr h => ?_)
  · obtain ⟨x, dx, fs, rfl, _⟩ := h
    rfl
  · obtain ⟨x, dx, fs, rfl, hx, k⟩ := h
    refine ⟨_, (PSs.nox (pss_one (ps_if (pt_not (pt_val (pe_callB call_isi (by rfl) T.z_isinstance (by decide +kernel) (pa_cons (pv 0) (pa_cons (pe_glob (v := .ref T.c_Machine) (by rfl) T.m_Machine rfl) pa_nil)))))
  (pss_one ps_never)
  pss_nil))), ?_⟩
    walk_at "begin"
    walk_at "go"
    refine k_isi (.own _) (ty_Machine T hx) kit_self ?_
    walk_at "go"
    refine iteF ?_
    walk_at "go"
    exact k
end
/-! ### a number that is refused -/
def sp_num (K : PySem.W.Frag) (B : Addr) : Sp := fun vs H Q E => ∃ (v : V) (lo hi : Int), vs = [v, .int lo, .int hi] ∧ ((∃ i : Int, v = .int i ∧ lo ≤ i ∧ i ≤ hi ∧ Q .non H) ∨ (BadNum K H lo hi v ∧ ∀ d H', Same H H' → H' d = some (.xd [("n", v)]) → E (.ref B) (some d) H'))
section
variable {P : Program} {w : World} {K : PySem.W.Frag} {mg : Str → Option Value} {base : Heap}
theorem ok_BadNumber_init (T : Txt K mg) : FnOk P w K mg base (L2.CX P w) 1 T.a_BadNumber_init T.fd_BadNumber_init ["self", "n"] (sp_einit K T.c_BadNumber "n") := by
  refine T.F_BadNumber_init.okX sc_BadNumber_init (fun vs H Q E h => ?_) (fun cdv A outer s H vs Q E hr h => ?_)
  · obtain ⟨a, v, rfl, _⟩ := h
    rfl
  · obtain ⟨a, v, rfl, ea, k⟩ := h
    refine ⟨_, (PSs.nox (pss_cons (ps_expr (pe_tveinit (by rfl) T.m_TallyError T.rd_TallyError T.fv_TallyError T.sg_TallyError (pa_cons (pv 0) (pa_cons pe_str pa_nil))))
  (pss_one (ps_ost (pv 0) (pv 1))))), ?_⟩
    walk_at "begin"
    walk_at "go"
    refine k_vei ?_
    walk_at "go"
    refine ⟨a, T.c_BadNumber, _, rfl, by decide, T.o_BadNumber, ea, ?_⟩
    dsimp only
    refine k_ost ?_
    walk_at "go"
    refine ⟨a, T.c_BadNumber, rfl, T.o_BadNumber, T.no_BadNumber_n, .inl ⟨ea, fun dx hd ne => ?_⟩⟩
    walk_at "go"
    exact k dx hd ne
theorem ok_check_number_bad (T : Txt K mg) : FnOk P w K mg base (L2.CX P w) 4 T.a_check_number T.fd_check_number ["value", "least", "most"] (sp_num K T.c_BadNumber) := by
  refine T.F_check_number.okX sc_check_number (fun vs H Q E h => ?_) (fun cdv A outer s H vs Q E hr h => ?_)
  · obtain ⟨v, lo, hi, rfl, _⟩ := h
    rfl
  · obtain ⟨v, lo, hi, rfl, h⟩ := h
    refine ⟨_, (pss_one (ps_if (pt_not (pt_val (pe_call (ok_is_integer_between T) (hr.mono (by decide)) (by rfl) T.m_is_integer_between T.k_is_integer_between T.b_is_integer_between .nil passL (pa_cons (pv 0) (pa_cons (pv 1) (pa_cons (pv 2) pa_nil))))))
  (pss_one (ps_raise rfl (takes_of rfl rfl rfl rfl) (pmk_oex T.o_BadNumber T.ie_BadNumber T.ti_BadNumber (ok_BadNumber_init T) (hr.mono (by decide)) T.b_BadNumber_init .nil passL (by rfl) T.m_BadNumber (pa_cons (pv 0) pa_nil))))
  pss_nil)), ?_⟩
    walk_at "begin"
    walk_at "go"
    refine ⟨_, _, _, rfl, ?_⟩
    rcases h with ⟨i, rfl, h1, h2, k⟩ | ⟨⟨i, rfl, hi⟩ | ni, k⟩
    · refine .inl ⟨i, rfl, ?_⟩
      rw [decide_eq_true ⟨h1, h2⟩]
      walk_at "go"
      refine iteF ?_
      walk_at "go"
      exact k
    · refine .inl ⟨i, rfl, ?_⟩
      rw [decide_eq_false hi]
      walk_at "go"
      refine iteT ?_
      walk_at "go"
      refine k_mkO ?_
      walk_at "go"
      refine ⟨(by decide : 1 ≤ 1000), fun a ha => ⟨a, _, rfl, upd_same, fun dx hd ne => ?_⟩⟩
      have hd' : H dx = none := by rw [upd_ne ne] at hd; exact hd
      exact ⟨rfl, dx, _, upd_same, by rw [upd_ne ne]; exact upd_same, hd', k _ _ (exc_same ha hd') upd_same⟩
    · refine .inr ⟨ni, ?_⟩
      walk_at "go"
      refine iteT ?_
      walk_at "go"
      refine k_mkO ?_
      walk_at "go"
      refine ⟨(by decide : 1 ≤ 1000), fun a ha => ⟨a, _, rfl, upd_same, fun dx hd ne => ?_⟩⟩
      have hd' : H dx = none := by rw [upd_ne ne] at hd; exact hd
      exact ⟨rfl, dx, _, upd_same, by rw [upd_ne ne]; exact upd_same, hd', k _ _ (exc_same ha hd') upd_same⟩
end
/-! ### bounds that are refused -/
def BadBnd (K : PySem.W.Frag) (H : Hp) (M : Int) (lo hi : V) : Prop := BadNum K H (-M) M lo ∨ ∃ i : Int, lo = .int i ∧ -M ≤ i ∧ i ≤ M ∧ BadNum K H i M hi
def sp_bnd (K : PySem.W.Frag) (B : Addr) : Sp := fun vs H Q E => ∃ (lo hi : V) (M : Int), vs = [lo, hi, .int M] ∧ ((∃ i j : Int, lo = .int i ∧ hi = .int j ∧ -M ≤ i ∧ i ≤ j ∧ j ≤ M ∧ Q .non H) ∨ (BadBnd K H M lo hi ∧ E (.ref B) none H))
section
variable {P : Program} {w : World} {K : PySem.W.Frag} {mg : Str → Option Value} {base : Heap}
theorem ok_check_bounds_bad (T : Txt K mg) : FnOk P w K mg base (L2.CX P w) 4 T.a_check_bounds T.fd_check_bounds ["low", "high", "most"] (sp_bnd K T.c_BadBounds) := by
  refine T.F_check_bounds.okX sc_check_bounds (fun vs H Q E h => ?_) (fun cdv A outer s H vs Q E hr h => ?_)
  · obtain ⟨lo, hi, M, rfl, _⟩ := h
    rfl
  · obtain ⟨lo, hi, M, rfl, h⟩ := h
    refine ⟨_, (pss_one (ps_if (PW.pt (pw_or (pt_not (pt_val (pe_call (ok_is_integer_between T) (hr.mono (by decide)) (by rfl) T.m_is_integer_between T.k_is_integer_between T.b_is_integer_between .nil passL (pa_cons (pv 0) (pa_cons (pe_un un_neg (pv 2)) (pa_cons (pv 2) pa_nil)))))) (pw_or1 (pt_not (pt_val (pe_call (ok_is_integer_between T) (hr.mono (by decide)) (by rfl) T.m_is_integer_between T.k_is_integer_between T.b_is_integer_between .nil passL (pa_cons (pv 1) (pa_cons (pv 0) (pa_cons (pv 2) pa_nil)))))))))
  (pss_one (ps_raise rfl (takes_of rfl rfl rfl rfl) (pmk_own PySem.F.excBase_ValueError T.x_BadBounds T.m_BadBounds T.k_BadBounds (raises_own T.b_BadBounds T.t_BadBounds) (by exact rfl))))
  pss_nil)), ?_⟩
    walk_at "begin"
    walk_at "go"
    refine ⟨_, _, _, rfl, ?_⟩
    rcases h with ⟨i, j, rfl, rfl, h1, h2, h3, k⟩ | ⟨(⟨i, rfl, hi⟩ | ni) | ⟨i, rfl, h1, h2, ⟨j, rfl, hj⟩ | nj⟩, k⟩
    · refine .inl ⟨i, rfl, ?_⟩
      rw [decide_eq_true ⟨h1, Int.le_trans h2 h3⟩]
      walk_at "go"
      refine iteF ?_
      walk_at "go"
      refine ⟨_, _, _, rfl, .inl ⟨j, rfl, ?_⟩⟩
      rw [decide_eq_true ⟨h2, h3⟩]
      walk_at "go"
      refine iteF ?_
      walk_at "go"
      exact k
    · refine .inl ⟨i, rfl, ?_⟩
      rw [decide_eq_false hi]
      walk_at "go"
      refine iteT ?_
      walk_at "go"
      exact k
    · refine .inr ⟨ni, ?_⟩
      walk_at "go"
      refine iteT ?_
      walk_at "go"
      exact k
    · refine .inl ⟨i, rfl, ?_⟩
      rw [decide_eq_true ⟨h1, h2⟩]
      walk_at "go"
      refine iteF ?_
      walk_at "go"
      refine ⟨_, _, _, rfl, .inl ⟨j, rfl, ?_⟩⟩
      rw [decide_eq_false hj]
      walk_at "go"
      refine iteT ?_
      walk_at "go"
      exact k
    · refine .inl ⟨i, rfl, ?_⟩
      rw [decide_eq_true ⟨h1, h2⟩]
      walk_at "go"
      refine iteF ?_
      walk_at "go"
      refine ⟨_, _, _, rfl, .inr ⟨nj, ?_⟩⟩
      walk_at "go"
      refine iteT ?_
      walk_at "go"
      exact k
end
/-! ### more than twelve steps; the rest begun (see NOTES) -/
def sp_steps_mends (K : PySem.W.Frag) (C B : Addr) : Sp := fun vs H Q E => ∃ (x : Addr) (m : MD), vs = [.ref x] ∧ MAt K C H x m ∧ m.Ok ∧
  ((m.ss.length ≤ 12 ∧ Q .non H) ∨ (12 < m.ss.length ∧ ∀ d H', Same H H' → H' d = some (.xd [("most", .int 12)]) → E (.ref B) (some d) H'))
section
variable {P : Program} {w : World} {K : PySem.W.Frag} {mg : Str → Option Value} {base : Heap}
theorem ok_TooMany_init (T : Txt K mg) : FnOk P w K mg base (L2.CX P w) 1 T.a_TooMany_init T.fd_TooMany_init ["self", "most"] (fun vs H Q E => (∃ a, vs = [.ref a, .int 12]) ∧ sp_einit K T.c_TooMany "most" vs H Q E) := by
  refine T.F_TooMany_init.okX sc_TooMany_init (fun vs H Q E h => ?_) (fun cdv A outer s H vs Q E hr h => ?_)
  · obtain ⟨_, a, v, rfl, _⟩ := h
    rfl
  · obtain ⟨hv, a, v, rfl, ea, k⟩ := h
    obtain ⟨a', hv⟩ := hv
    cases hv
    refine ⟨_, (PSs.nox (pss_cons (ps_expr (pe_tveinit (by rfl) T.m_TallyError T.rd_TallyError T.fv_TallyError T.sg_TallyError (pa_cons (pv 0) (pa_cons (pe_joined (.cons pe_str (.cons (pe_fmtN (pv 1)) .nil))) pa_nil))))
  (pss_one (ps_ost (pv 0) (pv 1))))), ?_⟩
    walk_at "begin"
    walk_at "go"
    refine k_vei ?_
    walk_at "go"
    have fin : ∀ m : Str, (V.ref a :: [V.str m]).length ≤ 1000 → tOst K (Str.ofString "most") (tVar 0) (tVar 1) { nx := fun x H' => Q V.non H', rt := Q } [some (V.ref a), some (V.int 12)] H := fun _ _ => by
      refine k_ost ?_
      walk_at "go"
      refine ⟨a, T.c_TooMany, rfl, T.o_TooMany, T.no_TooMany_most, .inl ⟨ea, fun dx hd ne => ?_⟩⟩
      walk_at "go"
      exact k dx hd ne
    have l0 : (Str.empty ++ (Str.ofString "more steps than ")).length = 16 := by decide +kernel
    refine ⟨_, rfl, by rw [l0]; decide, ?_⟩
    show tFmtN _ _ _ _
    refine k_fmtN ?_
    walk_at "go"
    refine .inr ⟨12, rfl, by decide, _, rfl, ?_, ?_⟩
    · rw [strLen_append, l0]
      have := PyProof.Rows.toString_length_le (v := 12) (k := 10) (by decide) (by decide) (by decide)
      exact Nat.le_trans (Nat.add_le_add_left this 16) (by decide)
    simp only [tJs]
    walk_at "go"
    exact ⟨a, T.c_TooMany, _, rfl, by show 1 ≤ 1000; decide, T.o_TooMany, ea, fin Str.empty (by show 2 ≤ 1000; decide)⟩
theorem ok_check_steps_mends_bad (T : Txt K mg) : FnOk P w K mg base (L2.CX P w) 4 T.a_check_steps_mends T.fd_check_steps_mends ["machine"] (sp_steps_mends K T.c_Machine T.c_TooMany) := by
  refine T.F_check_steps_mends.okX sc_check_steps_mends (fun vs H Q E h => ?_) (fun cdv A outer s H vs Q E hr h => ?_)
  · obtain ⟨x, m, rfl, _⟩ := h
    rfl
  · obtain ⟨x, m, rfl, hm, o, k⟩ := h
    obtain ⟨dx, t, u, hx, hp0⟩ := id hm
    refine ⟨_, (pss_one (ps_if (pt_cmpR op_gt (pe_callB call_len_seq (by rfl) T.z_len PySem.boot_len (pa_cons (pe_prop (pv 0) T.cl_Machine T.p_steps (ok_Machine_steps T) (hr.mono (by decide)) T.b_Machine_steps .nil passL rfl) pa_nil)) (pe_glob (by rfl) T.m_MOST_STEPS T.r_MOST_STEPS) (nomark _))
  (pss_one (ps_raise rfl (takes_of rfl rfl rfl rfl) (pmk_oex T.o_TooMany T.ie_TooMany T.ti_TooMany (ok_TooMany_init T) (hr.mono (by decide)) T.b_TooMany_init .nil passL (by rfl) T.m_TooMany (pa_cons (pe_glob (by rfl) T.m_MOST_STEPS T.r_MOST_STEPS) pa_nil))))
  pss_nil)), ?_⟩
    walk_at "begin"
    walk_at "go"
    refine ⟨x, dx, _, rfl, hx, x, dx, _, .ref t, rfl, hx, rfl, ?_⟩
    walk_at "go"
    obtain ⟨us, hs, hu⟩ := id hp0.1
    have e : us.length = m.ss.length := hu.1
    refine ⟨t, us, rfl, .inr hs, ?_⟩
    walk_at "go"
    rcases k with ⟨hl, k⟩ | ⟨hl, k⟩
    · rw [decide_eq_false (show ¬ ((12 : Int) < (us.length : Int)) by omega)]
      refine iteF ?_
      walk_at "go"
      exact k
    · rw [decide_eq_true (show (12 : Int) < (us.length : Int) by omega)]
      refine iteT ?_
      walk_at "go"
      refine k_mkO ?_
      walk_at "go"
      refine ⟨(by decide : 1 ≤ 1000), fun a ha => ⟨⟨a, rfl⟩, a, _, rfl, upd_same, fun dx hd ne => ?_⟩⟩
      have hd' : H dx = none := by rw [upd_ne ne] at hd; exact hd
      exact ⟨rfl, dx, _, upd_same, by rw [upd_ne ne]; exact upd_same, hd', k _ _ (exc_same ha hd') upd_same⟩
end
/-! ### which stands have a better row; which stands letters lead to -/
inductive Reach (ss : List Stp) (l : List Nat) : Nat → Prop
  | base {n : Nat} : n ∈ l → Reach ss l n
  | step {s : Stp} : s ∈ ss → Reach ss l s.b → Reach ss l s.e
def fkv (F : List Nat) : List (Key × V) := F.map fun (n : Nat) => ((.inl (n : Int) : Key), V.bl true)
theorem key_eq (a b : Nat) : ((Sum.inl (a : Int) : Key) = .inl (b : Int)) ↔ a = b := ⟨fun z => by injection z with z; omega, fun z => by rw [z]⟩
theorem valV_fkv (n : Nat) : ∀ F : List Nat, valV (fkv F) (.inl (n : Int)) = if n ∈ F then some (.bl true) else none
  | [] => rfl
  | a :: F => by
    have ih := valV_fkv n F
    by_cases c : a = n
    · rw [if_pos (by rw [c]; exact List.mem_cons_self)]
      exact valV_pos (p := ((.inl (a : Int) : Key), V.bl true)) ((key_eq a n).mpr c)
    · have e : valV (fkv (a :: F)) (.inl (n : Int)) = valV (fkv F) (.inl (n : Int)) := valV_neg (p := ((.inl (a : Int) : Key), V.bl true)) fun z => c ((key_eq a n).mp z)
      rw [e, ih]
      by_cases d : n ∈ F
      · rw [if_pos d, if_pos (List.mem_cons_of_mem _ d)]
      · rw [if_neg d, if_neg (fun z => by rcases List.mem_cons.mp z with z | z; exact c z.symm; exact d z)]
def addN (F : List Nat) (n : Nat) : List Nat := if n ∈ F then F else F ++ [n]
theorem addN_mem {F : List Nat} {n k : Nat} : k ∈ addN F n ↔ k ∈ F ∨ k = n := by
  unfold addN
  by_cases c : n ∈ F
  · rw [if_pos c]
    exact ⟨.inl, fun z => by rcases z with z | rfl <;> assumption⟩
  · rw [if_neg c, List.mem_append, List.mem_singleton]
theorem addN_nodup {F : List Nat} {n : Nat} (h : F.Nodup) : (addN F n).Nodup := by
  unfold addN
  by_cases c : n ∈ F
  · rw [if_pos c]; exact h
  · rw [if_neg c]
    exact List.nodup_append.mpr ⟨h, by simp, fun a ha b hb e => by rw [List.mem_singleton] at hb; rw [e, hb] at ha; exact c ha⟩
theorem putK_fkv (F : List Nat) (n : Nat) : putK (fkv F) (.inl (n : Int)) (.bl true) = fkv (addN F n) := by
  by_cases c : n ∈ F
  · unfold addN putK
    have h := valV_any (.inl (n : Int) : Key) (fkv F)
    rw [valV_fkv, if_pos c] at h
    rw [h, if_pos c, if_pos (show (some (V.bl true)).isSome = true from rfl)]
    unfold fkv
    rw [List.map_map]
    refine List.map_congr_left fun a _ => ?_
    show (if (Sum.inl (a : Int) : Key) = .inl (n : Int) then ((Sum.inl (a : Int) : Key), V.bl true) else ((Sum.inl (a : Int) : Key), V.bl true)) = _
    split <;> rfl
  · rw [putK_new _ (by rw [valV_fkv, if_neg c])]
    unfold addN fkv
    rw [if_neg c, List.map_append]
    rfl
theorem nats_snoc (l : List Nat) (n : Nat) : nats (l ++ [n]) = nats l ++ [.int (n : Nat)] := by unfold nats; rw [List.map_append]; rfl
theorem nats_at {l : List Nat} {i : Nat} {x : V} (h : (nats l)[i]? = some x) : ∃ n, l[i]? = some n ∧ x = .int (n : Nat) := by
  unfold nats at h
  rw [List.getElem?_map] at h
  cases e : l[i]? with
  | none => rw [e] at h; cases h
  | some n => rw [e] at h; exact ⟨n, rfl, (Option.some.inj h).symm⟩
theorem nodup_small {F : List Nat} {n : Nat} (h : F.Nodup) (b : ∀ k ∈ F, k < n) : F.length ≤ n := by
  induction n generalizing F with
  | zero =>
    cases F with
    | nil => exact Nat.le_refl _
    | cons a F => exact absurd (b a List.mem_cons_self) (Nat.not_lt_zero _)
  | succ n ih =>
    by_cases c : n ∈ F
    · have e1 := ih (F := F.erase n) (h.erase n) fun k hk => by
        have hk' := (List.Nodup.mem_erase_iff h).mp hk
        have := b k hk'.2
        have := hk'.1
        omega
      rw [List.length_erase_of_mem c] at e1
      omega
    · have := ih h fun k hk => by
        have := b k hk
        have : k ≠ n := fun z => c (z ▸ hk)
        omega
      omega
def sp_led (K : PySem.W.Frag) : Sp := fun vs H Q _ => ∃ (t p : Addr) (N : Nat) (ss : List Stp) (l : List Nat), vs = [.ref t, .ref p] ∧ StSq K H t ss ∧ SsOk N ss ∧ H p = some (.lst (nats l)) ∧ (∀ n ∈ l, n < N) ∧ l.length ≤ 300 ∧
  ∀ q (l' : List Nat) H', Same H H' → H q = none → H' q = some (.lst (nats l')) → (∀ n, n ∈ l' ↔ Reach ss l n) → l'.Pairwise (· < ·) → Q (.ref q) H'
theorem nodup_sub {α : Type} [DecidableEq α] : ∀ {l T : List α}, l.Nodup → (∀ x ∈ l, x ∈ T) → l.length ≤ T.length
  | [], _, _, _ => Nat.zero_le _
  | a :: l, T, h, s => by
    have q := List.nodup_cons.mp h
    have i := nodup_sub (T := T.erase a) q.2 fun x hx => (List.mem_erase_of_ne (fun e => q.1 (by rw [← e]; exact hx))).mpr (s x (List.mem_cons_of_mem _ hx))
    have m := s a List.mem_cons_self
    have := List.length_erase_of_mem m
    have := List.length_pos_of_mem m
    rw [List.length_cons]
    omega
theorem inV_nats (n : Nat) : ∀ l : List Nat, inV (.int (n : Nat)) (nats l) = decide (n ∈ l)
  | [] => rfl
  | a :: l => by
    have ih := inV_nats n l
    unfold inV nats at ih ⊢
    rw [List.map_cons, List.any_cons, ih]
    have e : eqV (.int (a : Nat)) (.int (n : Nat)) = decide (n = a) := by
      show ((((a : Nat) : Int)) == ((n : Nat) : Int)) = decide (n = a)
      rw [Bool.eq_iff_iff, beq_iff_eq, decide_eq_true_iff]
      omega
    rw [e]
    by_cases c : n = a
    · subst c
      simp
    · simp [c]
theorem flat_nats : ∀ l : List Nat, (nats l).all flatV = true
  | [] => rfl
  | a :: l => by
    show (flatV (.int (a : Nat)) && (nats l).all flatV) = true
    rw [flat_nats l]
    rfl
theorem dec_int (a b : Int) : decide (V.int a = V.int b) = decide (a = b) := decide_eq_decide.mpr ⟨fun h => by injection h, fun h => by rw [h]⟩
/-! ### the steps from a stand -/
def nxV (s : Stp) : List V := [.str ⟨#[s.c]⟩, .int (s.e : Nat), .int s.g]
def NxAt (K : PySem.W.Frag) (H : Hp) (vs : List V) (ns : List Stp) : Prop := vs.length = ns.length ∧ ∀ (i : Nat) (s : Stp), ns[i]? = some s → ∃ p, vs[i]? = some (V.ref p) ∧ SqT K H p (nxV s)
theorem NxAt.tups {K : PySem.W.Frag} {H H' : Hp} {vs : List V} {ns : List Stp} (h : NxAt K H vs ns) (t : Tups H H') : NxAt K H' vs ns := ⟨h.1, fun i s e => let ⟨p, q, z⟩ := h.2 i s e; ⟨p, q, t.sq z⟩⟩
theorem NxAt.snoc {K : PySem.W.Frag} {H : Hp} {vs : List V} {ns : List Stp} {p : Addr} {s : Stp} (h : NxAt K H vs ns) (q : SqT K H p (nxV s)) : NxAt K H (vs ++ [V.ref p]) (ns ++ [s]) := by
  refine ⟨by rw [List.length_append, List.length_append, h.1]; rfl, fun i t e => ?_⟩
  by_cases c : i < ns.length
  · rw [List.getElem?_append_left c] at e
    obtain ⟨r, e1, q1⟩ := h.2 i t e
    exact ⟨r, by rw [List.getElem?_append_left (by rw [h.1]; exact c)]; exact e1, q1⟩
  · rw [List.getElem?_append_right (by omega)] at e
    have z : i - ns.length = 0 := by
      have := (List.getElem?_eq_some_iff.mp e).1
      simp at this
      omega
    rw [z] at e
    cases e
    exact ⟨p, by rw [List.getElem?_append_right (by rw [h.1]; omega), h.1, z]; rfl, q⟩
def fromS (m : MD) (n : Nat) : List Stp := m.ss.filter fun s => s.b == n
def sp_next (K : PySem.W.Frag) : Sp := fun vs H Q _ => ∃ (d : Addr) (n : Nat) (m : MD), vs = [.ref d, .int (n : Nat)] ∧ DAt K H d m ∧ m.Ok ∧
  ∀ p us H', Same H H' → H p = none → H' p = some (.lst us) → NxAt K H' us (fromS m n) → Q (.ref p) H'
/-! ### {(a, b): v for ..}: keys that are tuples -/
def tDcT (wi : TI) (g : TG) (tt : TT) (tk tv : TE) (vs : List Nat) : TE := fun σ H Q => wi σ H fun J H1 => ∀ D, H1 D = none → ∃ W : Nat → Nat → Hp → Prop, (∃ m, W 0 m (upd H1 D (.dT []))) ∧ ∀ i m H, W i m H →
  (J.stop i H ∧ Q (.ref D) H) ∨ (J.go i H ∧ ∃ Nx : Hp → Prop, (∀ H', Nx H' → ∃ m', m' < m ∧ W (i + 1) m' H') ∧ ∀ x H', J.yld i H x H' → g x (wipe σ vs) H' fun σ2 H2 => wipe σ2 vs = wipe σ vs ∧ tt σ2 H2 fun b H3 =>
    if b = true then tk σ2 H3 fun y H4 => tv σ2 H4 fun z H5 => ∃ kvs k b, y = .ref b ∧ H5 b = some (.tup (k.map kV)) ∧ H5 D = some (.dT kvs) ∧ kvs.length < sizeLine ∧ Nx (upd H5 D (.dT (putK kvs k z))) else Nx H3)
theorem dictSetT {X : Cx} {pins : List (Addr × Obj)} {σ : L2.St} {H : Hp} {s : Shared} {E : Value → Shared → Prop} {D b : Addr} {kvs : List (List Key × V)} {k : List Key} {v : V} {r : Value} {Q : Unit → Shared → Prop} (hu : X.A.units + 1 < cLine)
    (I : L2.Inv X pins σ H s) (eD : H D = some (.dT kvs)) (eb : H b = some (.tup (k.map kV))) (lz : kvs.length < sizeLine) (rv : RelV v r) (h : ∀ s', L2.Inv X pins σ (upd H D (.dT (putK kvs k v))) s' → Q () s') :
    wpAny (model X.prog X.w) X.A (dictSet D (.ref b) r) Q E s := by
  obtain ⟨z, nsm, xs, rel, dd⟩ := dt_of I.hok eD
  have lx : xs.length ≤ sizeLine := by rw [← Paired.length rel]; exact z
  have ll : (putK kvs k v).length ≤ sizeLine := Nat.le_trans (length_putK kvs k v) lz
  refine wpAny_dictSet_heap (hsz := lx) (Nat.lt_of_succ_lt hu) (key_of I.hok eb) dd fun h' dd' sb => h _ ?_
  obtain ⟨q, es, ep, eq, x2, x3, x4, _, x5⟩ := dd'
  refine d_write I (by rw [eD]; exact True.intro) sb ⟨q, eq⟩ ⟨ll, nsm, _, (rel.put k eb rv).keeps fun c ys ec => ?_, q, es, ep, eq, x2, x3, x4, x5⟩
  rw [upd_ne (ne_of ec eD (fun w => nomatch w))]
  exact ec
section
variable {X : Cx}
theorem dcT_core {pins : List (Addr × Obj)} {s : Shared} {σ : L2.St} {H : Hp} {Q : VK} {kx vx tg it : Expr} {ifs : List Expr} {sc : Scope} {own : List (Str × Nat)} {pos pos' : Pos} {wi : TI} {g : TG} {tt : TT} {tk tv : TE}
    {use : Option (Value → Sem Unit)} {Qf : Value → Shared → Prop} (hu : X.A.units + 1 < cLine) (hc : X.calm = true) (hN : X.N.Nodup) (I : L2.Inv X pins σ H s) (hi : PI X tg it wi) (ok : BlkOk X.N X.env.scope sc own)
    (hg : ∀ (s : Shared) (H : Hp) (C : Addr) (cl : List (Str × Addr)) (fp : List Addr), PG (X.blk s H sc (compEnvC sc cl C X.env) fp) tg g)
    (ht : ∀ (s : Shared) (H : Hp) (C : Addr) (cl : List (Str × Addr)) (fp : List Addr), PTs (X.blk s H sc (compEnvC sc cl C X.env) fp) ifs tt)
    (hk : ∀ (s : Shared) (H : Hp) (C : Addr) (cl : List (Str × Addr)) (fp : List Addr), PE (X.blk s H sc (compEnvC sc cl C X.env) fp) kx tk)
    (hv : ∀ (s : Shared) (H : Hp) (C : Addr) (cl : List (Str × Addr)) (fp : List Addr), PE (X.blk s H sc (compEnvC sc cl C X.env) fp) vx tv)
    (hs : ∀ x, foldedSetIterable it X.env x = pure x) (h : tDcT wi g tt tk tv (own.map (·.2)) σ H Q)
    (post : ∀ D C s' m H', L2.Inv X pins σ H' s' → Q (.ref D) H' → s'.heap.Ns C m → FpOk X pins H' C → compPost (model X.prog X.w) X.A X.xe use Qf (.ref D) C (.ok .next) s') :
    wpAny (model X.prog X.w) X.A (comprehension (.DictComp kx vx [⟨tg, it, ifs, 0⟩] sc pos) sc X.env pos' newDict false (eval it X.env) use) Qf X.xe s := by
  have fr : ∀ y ∈ sc.names, y.2 = .free → ∃ c, X.env.cells.lookup y.1 = some c := by
    intro y hy e
    exact (ok.free y hy e).elim (fun k => I.ok.has _ (.inl k)) (fun k => I.ok.has _ (.inr k))
  refine wpAny_comprehension_free (use := use) rfl hs (closure_ok fr) ok.kind (fun y hy e => by rw [ok.uniq y hy, e]) (thn (hi.run pins s σ H _ I h) ?_)
  intro xv p1 hx
  refine thn hx ?_
  rintro itv p2 ⟨ia, fp, tn, J, G2, rfl, J2, T, st2, f2, q⟩
  refine wpAny_newObj_type (newEnv_comp ?_)
  generalize eD : p2.heap.objs.size = D
  have nD : G2 D = none := J2.hok.fresh (Nat.le_of_eq eD)
  obtain ⟨W, ⟨m0, w0⟩, turn⟩ := q D nD
  generalize ep3 : ({ p2 with heap := p2.heap.push { cls := .type "dict", data := .dict #[] } } : Shared) = p3
  have J3 : L2.Inv X pins σ (upd G2 D (.dT [])) p3 := by
    rw [← ep3]
    refine J2.laid (t' := p2.toks) (fun b o e => Heap.get?_push_of_some _ e) (Nat.le_of_eq eD) ?_
    rw [← eD]
    exact dt_empty p2.heap J2.big
  have hp3 : p3.heap = p2.heap.push { cls := .type "dict", data := .dict #[] } := by rw [← ep3]
  have small : ∀ b ∈ fp, b < p2.heap.objs.size := by
    intro b hb
    obtain ⟨o, e, _⟩ := T.obj _ _ st2 b hb
    exact Heap.lt_size e
  have f3 : ∀ b ∈ fp, FpOk X pins (upd G2 D (.dT [])) b ∧ b < p3.heap.objs.size := by
    intro b hb
    have lt := small b hb
    have up : (upd G2 D (.dT [])) b = none := by
      rw [upd_ne (by rw [← eD]; exact Nat.ne_of_lt lt)]
      exact (f2 b hb).1
    exact ⟨⟨up, (f2 b hb).2⟩, by rw [hp3, Heap.size_push]; exact Nat.lt_succ_of_lt lt⟩
  have st3 : tn 0 p3.heap := T.keep _ _ _ st2 fun b _ o e => by rw [hp3]; exact Heap.get?_push_of_some _ e
  have J4 := block_start J3 ok hN f3
  have pG := hg p3 (upd G2 D (.dT [])) p3.heap.objs.size (cellsFrom (p3.heap.objs.size + 1) sc.names (cloFrom X.env.cells sc.names [])) fp
  have pT := ht p3 (upd G2 D (.dT [])) p3.heap.objs.size (cellsFrom (p3.heap.objs.size + 1) sc.names (cloFrom X.env.cells sc.names [])) fp
  have pK := hk p3 (upd G2 D (.dT [])) p3.heap.objs.size (cellsFrom (p3.heap.objs.size + 1) sc.names (cloFrom X.env.cells sc.names [])) fp
  have pV := hv p3 (upd G2 D (.dT [])) p3.heap.objs.size (cellsFrom (p3.heap.objs.size + 1) sc.names (cloFrom X.env.cells sc.names [])) fp
  show codeAny _ _ (.compStart (.DictComp kx vx [⟨tg, it, ifs, 0⟩] sc pos) 0 (.ref ia) (.ref D) (compEnvC sc (cellsFrom (p3.heap.objs.size + 1) sc.names (cloFrom X.env.cells sc.names [])) p3.heap.objs.size X.env))
    (compPost (model X.prog X.w) X.A X.xe use Qf (.ref D) p3.heap.objs.size) { p3 with heap := pushCells (p3.heap.push { cls := .type "dict", data := .dict #[] }) sc.names }
  have none3 : ∀ b ∈ fp, (upd G2 D (.dT [])) b = none := fun b hb => (f3 b hb).1.1
  generalize ece : compEnvC sc (cellsFrom (p3.heap.objs.size + 1) sc.names (cloFrom X.env.cells sc.names [])) p3.heap.objs.size X.env = ce at J4 pG pT pK pV ⊢
  have locs : ce.locals = p3.heap.objs.size := by subst ece; rfl
  generalize eG3 : upd G2 D (.dT []) = G3 at J3 J4 pG pT pK pV w0 none3 f3
  generalize ep4 : ({ p3 with heap := pushCells (p3.heap.push { cls := .type "dict", data := .dict #[] }) sc.names } : Shared) = p4 at J4 ⊢
  have st4 : tn 0 p4.heap := T.keep _ _ _ st3 fun b _ o e => by rw [← ep4]; exact pushCells_keeps _ _ _ _ (Heap.get?_push_of_some _ e)
  have here : ∀ {σ' : L2.St} {H' : Hp} {s' : Shared}, L2.Inv (X.blk p3 G3 sc ce fp) [] σ' H' s' → (∀ b ∈ fp, H' b = none) → ∀ b ∈ fp, FpOk (X.blk p3 G3 sc ce fp) [] H' b := by
    intro σ' H' s' Z hn b hb
    exact ⟨hn b hb, (Z.ok.exf b hb).1, Z.ok.exfs b hb, .inl hb, fun x c e => (Z.ok.exf b hb).2 x c e, fun p hp => absurd (show p ∈ ([] : List (Addr × Obj)) ++ [] from hp) (by simp)⟩
  have loop : codeAny (model X.prog X.w) X.A (.compLoop (.DictComp kx vx [⟨tg, it, ifs, 0⟩] sc pos) 0 (.ref ia) (.ref D) ce) (compPost (model X.prog X.w) X.A X.xe use Qf (.ref D) p3.heap.objs.size) p4 := by
    refine compLoop_anyD (fun n s' => ∃ i H', L2.Inv (X.blk p3 G3 sc ce fp) [] (wipe σ (own.map (·.2))) H' s' ∧ tn i s'.heap ∧ (∀ b ∈ fp, H' b = none) ∧ W i n H') ?_ m0 ⟨0, G3, J4, st4, none3, w0⟩
    rintro n p5 ⟨i, G5, J5, st5, n5, w5⟩
    rcases turn i n G5 w5 with ⟨stop, qq⟩ | ⟨go, Nx, hNx, step⟩
    · refine thnF (T.done (X.blk p3 G3 sc ce fp) rfl rfl rfl hc i [] p5 _ G5 (fun _ _ => False) J5 (here J5 n5) st5 stop) ?_
      rintro r p6 ⟨rfl, J6⟩
      have J7 : L2.Inv X pins σ G5 p6 := J3.call' (ch := fp) J6.os J6.base J6.hok J6.bare fun b hb => ⟨(f3 b hb).1.2.2.2.1, (f3 b hb).1.2.1, (f3 b hb).1.2.2.2.2.1, (f3 b hb).1.2.2.2.2.2⟩
      have nC : G5 p3.heap.objs.size = none := by
        have z : G5 ce.locals = none := J6.free
        rwa [locs] at z
      obtain ⟨m, hn, _⟩ := J6.loc
      have hn' : p6.heap.Ns ce.locals m := hn
      rw [locs] at hn'
      exact post D p3.heap.objs.size p6 m G5 J7 qq hn' (J3.fpOk (Nat.le_refl _) nC)
    · refine thnF (T.item (X.blk p3 G3 sc ce fp) rfl rfl rfl hc i [] p5 _ G5 (fun _ _ => False) J5 (here J5 n5) st5 go) ?_
      rintro r p6 ⟨u, rfl, h6⟩
      refine thnF h6 ?_
      rintro _ p7 ⟨x, G7, J7, r7, y7, st7, n7⟩
      have K7 := J7.pinned (here J7 n7) (T.obj _ _ st7)
      refine thnF (pG.run _ p7 _ G7 x u _ K7 r7 (step x G7 y7)) ?_
      rintro _ p8 ⟨σ8, G8, J8, hw8, q8⟩
      refine thnF (pT.run _ p8 σ8 G8 _ J8 q8) ?_
      rintro b p9 ⟨G9, J9, q9⟩
      have fin : ∀ {s' : Shared} {H' : Hp}, L2.Inv (X.blk p3 G3 sc ce fp) ([] ++ pinsAt fp p7.heap) σ8 H' s' → Nx H' →
          ∃ m, m < n ∧ ∃ i H', L2.Inv (X.blk p3 G3 sc ce fp) [] (wipe σ (own.map (·.2))) H' s' ∧ tn i s'.heap ∧ (∀ b ∈ fp, H' b = none) ∧ W i m H' := by
        intro s' H' Z nx
        obtain ⟨m', hm, w'⟩ := hNx H' nx
        have pin : ∀ b ∈ fp, ∀ o, p7.heap.get? b = some o → s'.heap.get? b = some o ∧ H' b = none := fun b hb o e =>
          let z := Z.pin (b, o) (List.mem_append_right _ (List.mem_append_right _ (mem_pinsAt hb e)))
          ⟨z.1, z.2.1⟩
        have len : (wipe σ (own.map (·.2))).length = σ8.length := by rw [← hw8, wipe_length]
        have back : L2.Inv (X.blk p3 G3 sc ce fp) [] (wipe σ (own.map (·.2))) H' s' := (Z.unpinned (pins := [])).weak len fun j v e => by
          rw [← hw8] at e
          exact (wipe_some e).1
        exact ⟨m', hm, i + 1, H', back, T.keep _ _ _ st7 fun b hb o e => (pin b hb o e).1, fun b hb => let ⟨o, e, _⟩ := T.obj _ _ st7 b hb; (pin b hb o e).2, w'⟩
      cases b with
      | false =>
        simp only [Bool.false_eq_true, if_false] at q9 ⊢
        exact fin J9 q9
      | true =>
        simp only [if_true] at q9 ⊢
        refine thnF (pK.run _ p9 σ8 G9 _ J9 q9) ?_
        rintro z p10 ⟨yk, G10, J10, r10, q10⟩
        refine thnF (pV.run _ p10 σ8 G10 _ J10 q10) ?_
        rintro z2 p11 ⟨yv, G11, J11, r11, kvs, k, kb, rfl, eb, eD11, lz, nx⟩
        cases (show z = Value.ref kb from r10)
        exact dictSetT (X := X.blk p3 G3 sc ce fp) hu J11 eD11 eb lz r11 fun p12 J12 => fin J12 nx
  exact codeAny_compStart_dict loop (T.self X.A 0 _ _ _ st4 loop)
theorem ps_setDcT {i : Nat} {y : Str} {py : Pos} {kx vx tg it : Expr} {ifs : List Expr} {scope : Scope} {own : List (Str × Nat)} {pos sp : Pos} {wi : TI} {g : TG} {tt : TT} {tk tv : TE} (hu : X.A.units + 1 < cLine) (hc : X.calm = true) (hN : X.N.Nodup)
    (hy : X.N[i]? = some y) (hyl : X.env.scope.names.lookup y = some .local) (hsw : swapsWith (.DictComp kx vx [⟨tg, it, ifs, 0⟩] scope pos) (some (.Name y py)) sp.line X.env = pure true)
    (hi : PI X tg it wi) (ok : BlkOk X.N X.env.scope scope own)
    (hg : ∀ (s : Shared) (H : Hp) (C : Addr) (cl : List (Str × Addr)) (fp : List Addr), PG (X.blk s H scope (compEnvC scope cl C X.env) fp) tg g)
    (ht : ∀ (s : Shared) (H : Hp) (C : Addr) (cl : List (Str × Addr)) (fp : List Addr), PTs (X.blk s H scope (compEnvC scope cl C X.env) fp) ifs tt)
    (hk : ∀ (s : Shared) (H : Hp) (C : Addr) (cl : List (Str × Addr)) (fp : List Addr), PE (X.blk s H scope (compEnvC scope cl C X.env) fp) kx tk)
    (hv : ∀ (s : Shared) (H : Hp) (C : Addr) (cl : List (Str × Addr)) (fp : List Addr), PE (X.blk s H scope (compEnvC scope cl C X.env) fp) vx tv)
    (hs : ∀ x, foldedSetIterable it X.env x = pure x := by intro _; rfl) :
    PS X (.Assign [.Name y py] (.DictComp kx vx [⟨tg, it, ifs, 0⟩] scope pos) sp) (tAsg (tDcT wi g tt tk tv (own.map (·.2))) (gName i)) := by
  constructor
  intro pins s σ H D I h
  rw [exec_Assign_Name_used _ _ _ _ hsw]
  refine wpAny_bind (wpAny_standAt (wpAny_bind ?_))
  show wpAny _ X.A (do let _ ← comprehension (.DictComp kx vx [⟨tg, it, ifs, 0⟩] scope pos) scope X.env (firstIterPos [⟨tg, it, ifs, 0⟩] pos) newDict false (eval it X.env) (some (assign (.Name y py) X.env))) _ _ s
  have h' : tDcT wi g tt tk tv (own.map (·.2)) σ H (fun x H1 => gName i x σ H1 D.nx) := h
  refine wpAny_bind (thn (dcT_core (Qf := fun _ s' => SP X pins D .next s') hu hc hN I hi ok hg ht hk hv hs h' ?_) fun _ s' hq => wpAny_pure (wpAny_pure hq))
  intro L C s' m H' I' q hn f
  show wpAny _ _ (assign (.Name y py) X.env (.ref L)) _ _ _
  refine wpAny_assign_Name (store_ok2 (v := V.ref L) I' hN hy (.inl hyl) rfl ?_ (.inr hyl))
  rintro s2 I2 ⟨a, sb, ha⟩
  obtain ⟨f0, f1, f2, f3, f4, f5⟩ := f
  have ne : C ≠ a := by
    rcases ha with z | z
    · rw [z]; exact f1
    · exact fun e => f4 y a z e.symm
  exact ⟨m, hn.sameBut sb ne, fun h3 sb3 => ⟨_, H', I2.turned (t' := s2.toks) (fun b o hb e => (sb3.2 b hb).trans e) f0 f1 f3 f4 f5, q⟩⟩
theorem pe_dcT {kx vx tg it : Expr} {ifs : List Expr} {scope : Scope} {own : List (Str × Nat)} {pos : Pos} {wi : TI} {g : TG} {tt : TT} {tk tv : TE} (hu : X.A.units + 1 < cLine) (hc : X.calm = true) (hN : X.N.Nodup) (hi : PI X tg it wi) (ok : BlkOk X.N X.env.scope scope own) (hg : ∀ (s : Shared) (H : Hp) (C : Addr) (cl : List (Str × Addr)) (fp : List Addr), PG (X.blk s H scope (compEnvC scope cl C X.env) fp) tg g) (ht : ∀ (s : Shared) (H : Hp) (C : Addr) (cl : List (Str × Addr)) (fp : List Addr), PTs (X.blk s H scope (compEnvC scope cl C X.env) fp) ifs tt) (hk : ∀ (s : Shared) (H : Hp) (C : Addr) (cl : List (Str × Addr)) (fp : List Addr), PE (X.blk s H scope (compEnvC scope cl C X.env) fp) kx tk) (hv : ∀ (s : Shared) (H : Hp) (C : Addr) (cl : List (Str × Addr)) (fp : List Addr), PE (X.blk s H scope (compEnvC scope cl C X.env) fp) vx tv) (hs : ∀ x, foldedSetIterable it X.env x = pure x := by intro _; rfl) :
    PE X (.DictComp kx vx [⟨tg, it, ifs, 0⟩] scope pos) (tDcT wi g tt tk tv (own.map (·.2))) := by
  constructor
  intro pins s σ H Q I h
  rw [arm_eval_DictComp]
  refine dcT_core hu hc hN I hi ok hg ht hk hv hs h ?_
  intro D C s' m H' I' q hn f
  refine ⟨m, hn, fun h3 sb => ?_⟩
  obtain ⟨f0, f1, f2, f3, f4, f5⟩ := f
  exact ⟨.ref D, H', I'.turned (t' := s'.toks) (fun b o hb e => (sb.2 b hb).trans e) f0 f1 f3 f4 f5, rfl, q⟩
/-- over a tuple that stays -/
theorem dcT_tup {K : PySem.W.Frag} {a : Addr} {xs : List V} {g : TG} {tt : TT} {tk tv : TE} {vs : List Nat} {σ : L2.St} {H1 : Hp} {D : Addr} {Qd : Hp → Prop} (Pv : Nat → Hp → Prop) (h0 : Pv 0 (upd H1 D (.dT [])))
    (hl : ∀ i H, i ≤ xs.length → Pv i H → SqT K H a xs)
    (hs : ∀ i x H, xs[i]? = some x → Pv i H → g x (wipe σ vs) H fun σ2 H2 => wipe σ2 vs = wipe σ vs ∧ tt σ2 H2 fun b H3 =>
      if b = true then tk σ2 H3 fun y H4 => tv σ2 H4 fun z H5 => ∃ kvs k b, y = .ref b ∧ H5 b = some (.tup (k.map kV)) ∧ H5 D = some (.dT kvs) ∧ kvs.length < sizeLine ∧ Pv (i + 1) (upd H5 D (.dT (putK kvs k z))) else Pv (i + 1) H3)
    (hd : ∀ H, Pv xs.length H → Qd H) :
    ∃ W : Nat → Nat → Hp → Prop, (∃ m, W 0 m (upd H1 D (.dT []))) ∧ ∀ i m H, W i m H → ((Itt K a).stop i H ∧ Qd H) ∨
      ((Itt K a).go i H ∧ ∃ Nx : Hp → Prop, (∀ H', Nx H' → ∃ m', m' < m ∧ W (i + 1) m' H') ∧ ∀ x H', (Itt K a).yld i H x H' → g x (wipe σ vs) H' fun σ2 H2 => wipe σ2 vs = wipe σ vs ∧ tt σ2 H2 fun b H3 =>
        if b = true then tk σ2 H3 fun y H4 => tv σ2 H4 fun z H5 => ∃ kvs k b, y = .ref b ∧ H5 b = some (.tup (k.map kV)) ∧ H5 D = some (.dT kvs) ∧ kvs.length < sizeLine ∧ Nx (upd H5 D (.dT (putK kvs k z))) else Nx H3) := by
  refine ⟨fun i m H => m + i = xs.length ∧ Pv i H, ⟨xs.length, by simp, h0⟩, fun i m H ⟨em, hP⟩ => ?_⟩
  have sq := hl i H (by omega) hP
  by_cases c : i < xs.length
  · refine .inr ⟨⟨xs, xs[i], sq, List.getElem?_eq_getElem c⟩, Pv (i + 1), fun H' z => ⟨m - 1, by omega, by omega, z⟩, ?_⟩
    rintro x H' ⟨rfl, hx⟩
    exact hs i x _ (hx xs sq) hP
  · have e : i = xs.length := by omega
    exact .inl ⟨⟨xs, sq, by omega⟩, hd H (e ▸ hP)⟩
theorem k_dcT {wi : TI} {g : TG} {tt : TT} {tk tv : TE} {vs : List Nat} {σ : L2.St} {H : Hp} {Q : VK} (h : wi σ H fun J H1 => ∀ D, H1 D = none → ∃ W : Nat → Nat → Hp → Prop, (∃ m, W 0 m (upd H1 D (.dT []))) ∧ ∀ i m H, W i m H →
  (J.stop i H ∧ Q (.ref D) H) ∨ (J.go i H ∧ ∃ Nx : Hp → Prop, (∀ H', Nx H' → ∃ m', m' < m ∧ W (i + 1) m' H') ∧ ∀ x H', J.yld i H x H' → g x (wipe σ vs) H' fun σ2 H2 => wipe σ2 vs = wipe σ vs ∧ tt σ2 H2 fun b H3 =>
    if b = true then tk σ2 H3 fun y H4 => tv σ2 H4 fun z H5 => ∃ kvs k b, y = .ref b ∧ H5 b = some (.tup (k.map kV)) ∧ H5 D = some (.dT kvs) ∧ kvs.length < sizeLine ∧ Nx (upd H5 D (.dT (putK kvs k z))) else Nx H3)) : tDcT wi g tt tk tv vs σ H Q := h
end
/-- the rows -/
def stepOf (m : MD) (b c : Nat) : Option Stp := m.ss.find? fun s => s.b == b && s.c == c
def runW (m : MD) : Nat × Int → Wd → Option (Nat × Int)
  | st, [] => some st
  | st, c :: w => match stepOf m st.1 c with
    | none => none
    | some x => runW m (x.e, st.2 + x.g) w
def run (m : MD) (w : Wd) : Option (Nat × Int) := runW m (0, 0) w
theorem runW_snoc (m : MD) (c : Nat) : ∀ (w : Wd) (st : Nat × Int), runW m st (w ++ [c]) = (runW m st w).bind fun q => (stepOf m q.1 c).map fun x => (x.e, q.2 + x.g)
  | [], st => by
    show (match stepOf m st.1 c with | none => none | some x => some (x.e, st.2 + x.g)) = (stepOf m st.1 c).map _
    cases stepOf m st.1 c <;> rfl
  | a :: w, st => by
    show (match stepOf m st.1 a with | none => none | some x => runW m (x.e, st.2 + x.g) (w ++ [c])) = (match stepOf m st.1 a with | none => none | some x => runW m (x.e, st.2 + x.g) w).bind _
    cases stepOf m st.1 a with
    | none => rfl
    | some x => exact runW_snoc m c w (x.e, st.2 + x.g)
theorem stepOf_mem {m : MD} {b c : Nat} {s : Stp} (h : stepOf m b c = some s) : s ∈ m.ss ∧ s.b = b ∧ s.c = c := by
  have h1 := List.mem_of_find?_eq_some h
  have h2 := List.find?_some h
  rw [Bool.and_eq_true] at h2
  exact ⟨h1, by simpa using h2.1, by simpa using h2.2⟩
theorem stepOf_self {m : MD} (o : m.Ok) {s : Stp} (h : s ∈ m.ss) : stepOf m s.b s.c = some s := by
  cases e : stepOf m s.b s.c with
  | none =>
    have := List.find?_eq_none.mp e s h
    simp at this
  | some t =>
    obtain ⟨h1, h2, h3⟩ := stepOf_mem e
    obtain ⟨i, hi, ei⟩ := List.getElem_of_mem h
    obtain ⟨j, hj, ej⟩ := List.getElem_of_mem h1
    have up := List.pairwise_iff_getElem.mp o.up
    have : i = j := by
      rcases Nat.lt_trichotomy i j with c | c | c
      · have := up i j hi hj c
        rw [ei, ej] at this
        rcases this with z | z <;> omega
      · exact c
      · have := up j i hj hi c
        rw [ei, ej] at this
        rcases this with z | z <;> omega
    subst this
    rw [← ei, ← ej]
theorem run_snoc {m : MD} {w : Wd} {c : Nat} {n : Nat} {t : Int} : run m (w ++ [c]) = some (n, t) ↔ ∃ u t' s, run m w = some (u, t') ∧ stepOf m u c = some s ∧ n = s.e ∧ t = t' + s.g := by
  unfold run
  rw [runW_snoc]
  constructor
  · intro h
    cases e : runW m (0, 0) w with
    | none => rw [e] at h; cases h
    | some q =>
      rw [e] at h
      cases e2 : stepOf m q.1 c with
      | none =>
        have h' : (stepOf m q.1 c).map (fun x => (x.e, q.2 + x.g)) = some (n, t) := h
        rw [e2] at h'
        cases h'
      | some s =>
        have h' : (stepOf m q.1 c).map (fun x => (x.e, q.2 + x.g)) = some (n, t) := h
        rw [e2] at h'
        have h2 : (s.e, q.2 + s.g) = (n, t) := Option.some.inj h'
        injection h2 with h3 h4
        exact ⟨q.1, q.2, s, rfl, e2, h3.symm, h4.symm⟩
  · rintro ⟨u, t', s, e, e2, rfl, rfl⟩
    rw [e]
    show (stepOf m u c).map _ = _
    rw [e2]
    rfl
/-! ### two words one after the other -/
theorem runW_append (m : MD) (v : Wd) : ∀ (u : Wd) (st : Nat × Int), runW m st (u ++ v) = (runW m st u).bind fun q => runW m q v
  | [], st => rfl
  | a :: u, st => by
    show (match stepOf m st.1 a with | none => none | some x => runW m (x.e, st.2 + x.g) (u ++ v)) = (match stepOf m st.1 a with | none => none | some x => runW m (x.e, st.2 + x.g) u).bind _
    cases stepOf m st.1 a with
    | none => rfl
    | some x => exact runW_append m v u (x.e, st.2 + x.g)
/-! ### where a row leads -/
def mkey (b c : Nat) : List Key := [.inl (b : Int), .inr ⟨#[c]⟩]
theorem mkey_inj {b c b' c' : Nat} : mkey b c = mkey b' c' ↔ b = b' ∧ c = c' := by
  constructor
  · intro h
    unfold mkey at h
    injection h with h1 h2
    injection h2 with h2 _
    injection h1 with h1
    injection h2 with h2
    injection h2 with h2
    exact ⟨by omega, by simpa using h2⟩
  · rintro ⟨rfl, rfl⟩
    rfl
def MvOk (K : PySem.W.Frag) (H : Hp) (kvs : List (List Key × V)) (ss : List Stp) : Prop := ∀ b c : Nat, ((∀ s ∈ ss, ¬ (s.b = b ∧ s.c = c)) → valV kvs (mkey b c) = none) ∧
  ∀ s ∈ ss, s.b = b → s.c = c → ∃ p, valV kvs (mkey b c) = some (.ref p) ∧ SqT K H p [.int (s.e : Nat), .int s.g]
theorem MvOk.tups {K : PySem.W.Frag} {H H' : Hp} {kvs : List (List Key × V)} {ss : List Stp} (h : MvOk K H kvs ss) (t : Tups H H') : MvOk K H' kvs ss := fun b c => ⟨(h b c).1, fun s hs e1 e2 => let ⟨p, q, z⟩ := (h b c).2 s hs e1 e2; ⟨p, q, t.sq z⟩⟩
theorem MvOk.snoc {K : PySem.W.Frag} {H : Hp} {kvs : List (List Key × V)} {ss : List Stp} {s : Stp} {p : Addr} (h : MvOk K H kvs ss) (hp : SqT K H p [.int (s.e : Nat), .int s.g]) (new : ∀ t ∈ ss, ¬ (t.b = s.b ∧ t.c = s.c)) : MvOk K H (putK kvs (mkey s.b s.c) (.ref p)) (ss ++ [s]) := by
  intro b c
  rw [valV_put]
  by_cases e : mkey b c = mkey s.b s.c
  · rw [if_pos e]
    obtain ⟨rfl, rfl⟩ := mkey_inj.mp e
    refine ⟨fun q => absurd ⟨rfl, rfl⟩ (q s (by simp)), fun t ht e1 e2 => ?_⟩
    rcases List.mem_append.mp ht with ht | ht
    · exact absurd ⟨e1, e2⟩ (new t ht)
    · rw [List.mem_singleton.mp ht]
      exact ⟨p, rfl, hp⟩
  · rw [if_neg e]
    refine ⟨fun q => (h b c).1 fun t ht => q t (List.mem_append_left _ ht), fun t ht e1 e2 => ?_⟩
    rcases List.mem_append.mp ht with ht | ht
    · exact (h b c).2 t ht e1 e2
    · rw [List.mem_singleton.mp ht] at e1 e2
      exact absurd (mkey_inj.mpr ⟨e1.symm, e2.symm⟩) e
/-- what is known of a value that is no text -/
def NotStr (K : PySem.W.Frag) (H : Hp) (v : V) : Prop := ∃ t, TyX K H v t ∧ PySem.W.kitOne K t (.type "str") = some false
def sp_moves (K : PySem.W.Frag) (C : Addr) : Sp := fun vs H Q _ => ∃ (x : Addr) (m : MD), vs = [.ref x] ∧ MAt K C H x m ∧ m.Ok ∧
  ∀ p kvs H', Same H H' → H p = none → H' p = some (.dT kvs) → MvOk K H' kvs m.ss → Q (.ref p) H'
section
variable {P : Program} {w : World} {K : PySem.W.Frag} {mg : Str → Option Value} {base : Heap}
theorem ok_moves_of (T : Txt K mg) : FnOk P w K mg base (L2.CX P w) 3 T.a_moves_of T.fd_moves_of ["machine"] (sp_moves K T.c_Machine) := by
  refine T.F_moves_of.okX sc_moves_of (fun vs H Q E h => ?_) (fun cdv A outer s H vs Q E hr h => ?_)
  · obtain ⟨x, m, rfl, _⟩ := h
    rfl
  · obtain ⟨x, m, rfl, ⟨dx, t, u, hx, ⟨us, ht, hs⟩, hu⟩, o, k⟩ := h
    refine ⟨_, (PSs.nox (pss_one (ps_ret (pe_dcT (own := [("begun", 1), ("letter", 2), ("end", 3), ("gain", 4)]) (g := (gTup K 4 (gCons (gName 1) (gCons (gName 2) (gCons (gName 3) (gCons (gName 4) gNil)))))) (tt := tYes) (hu_of hr) rfl sc_moves_of.nd (pi_tup (pe_prop (pv 0) T.cl_Machine T.p_steps (ok_Machine_steps T) (hr.mono (by decide)) T.b_Machine_steps .nil passL rfl)) (blkOk_by (own := [("begun", 1), ("letter", 2), ("end", 3), ("gain", 4)]) (N := ["machine", "begun", "letter", "end", "gain"]) (sc := defScope s_moves_of) (by decide +kernel)) (fun _ _ _ _ _ => (pg_tup rfl (pgs_cons (pg_name (i := 1) sc_moves_of.nd rfl (Or.inl rfl)) (pgs_cons (pg_name (i := 2) sc_moves_of.nd rfl (Or.inl rfl)) (pgs_cons (pg_name (i := 3) sc_moves_of.nd rfl (Or.inl rfl)) (pgs_cons (pg_name (i := 4) sc_moves_of.nd rfl (Or.inl rfl)) pgs_nil)))))) (fun _ _ _ _ _ => pts_nil) (fun _ _ _ _ _ => (pe_tup (pa_cons (pv 1) (pa_cons (pv 2) pa_nil)))) (fun _ _ _ _ _ => (pe_tup (pa_cons (pv 3) (pa_cons (pv 4) pa_nil)))))))), ?_⟩
    walk_at "begin"
    refine k_ret ?_
    refine k_dcT ?_
    walk_at "go"
    refine ⟨x, dx, _, rfl, hx, x, dx, _, .ref t, rfl, hx, rfl, t, rfl, ⟨us, ht⟩, fun D hD => ?_⟩
    refine dcT_tup (xs := us) (fun i H' => Same H H' ∧ ∃ kvs, H' D = some (.dT kvs) ∧ MvOk K H' kvs (m.ss.take i) ∧ kvs.length ≤ i) ⟨Same.new hD, [], upd_same, fun b c => ⟨fun _ => rfl, fun s hs => by simp at hs⟩, Nat.le_refl _⟩
      (fun i H' _ ⟨z, _⟩ => (same_tups z).sq ht) ?_ ?_
    · rintro i y H1 hy ⟨z1, kvs, eD, mv, len⟩
      have il : i < m.ss.length := by rw [← hs.1]; exact (List.getElem?_eq_some_iff.mp hy).1
      have ei : m.ss[i]? = some (m.ss[i]'il) := List.getElem?_eq_getElem il
      obtain ⟨q, eq, hq⟩ := hs.2 i _ ei
      rw [hy] at eq
      cases eq
      have new : ∀ s ∈ m.ss.take i, ¬ (s.b = (m.ss[i]'il).b ∧ s.c = (m.ss[i]'il).c) := fun s h e => by
        obtain ⟨j, hj, ej⟩ := List.getElem_of_mem h
        rw [List.length_take] at hj
        rw [List.getElem_take] at ej
        have := List.pairwise_iff_getElem.mp o.up j i (by omega) il (by omega)
        rw [ej] at this
        rcases this with q | q <;> omega
      have tk : m.ss.take (i + 1) = m.ss.take i ++ [m.ss[i]'il] := by rw [List.take_add_one, ei]; rfl
      have l32 := o.len
      rw [tk]
      generalize m.ss[i]'il = s0 at hq new
      refine k_gt ((same_tups z1).sq hq) rfl ?_
      unfold stpV
      walk_at "go"
      refine ⟨rfl, ?_⟩
      walk_at "go"
      refine iteT ?_
      walk_at "go"
      refine ⟨(by decide : 2 ≤ sizeLine), fun pk hpk => ?_⟩
      walk_at "go"
      refine ⟨(by decide : 2 ≤ sizeLine), fun pv hpv => ?_⟩
      have zk := z1.trans (Same.new (o := .tup [.int (s0.b : Nat), .str ⟨#[s0.c]⟩]) hpk)
      have zv := zk.trans (Same.new (o := .tup [.int (s0.e : Nat), .int s0.g]) hpv)
      have npk : D ≠ pk := ne_of_none eD hpk
      have eDk : (upd H1 pk (.tup [.int (s0.b : Nat), .str ⟨#[s0.c]⟩])) D = some (.dT kvs) := by rw [upd_ne npk]; exact eD
      have npv : D ≠ pv := ne_of_none eDk hpv
      have eDv : (upd (upd H1 pk (.tup [.int (s0.b : Nat), .str ⟨#[s0.c]⟩])) pv (.tup [.int (s0.e : Nat), .int s0.g])) D = some (.dT kvs) := by rw [upd_ne npv]; exact eDk
      refine ⟨kvs, mkey s0.b s0.c, pk, rfl, Same.new hpv _ _ upd_same, eDv, Nat.lt_of_le_of_lt len (Nat.lt_trans (show i < 100 by omega) (by decide)), Same.mut zv hD, _, upd_same, ?_, ?_⟩
      · exact ((mv.tups ((Tups.new hpk).trans (Tups.new hpv))).snoc (SqT.of upd_same) new).tups (Tups.dT eDv)
      · have := length_putK kvs (mkey s0.b s0.c) (V.ref pv)
        omega
    · rintro H1 ⟨z1, kvs, eD, mv, len⟩
      rw [hs.1, List.take_length] at mv
      exact k D kvs H1 z1 hD eD mv
end
/-! ### where a row leads: the program's own way -/
def intsV (xs : List Int) : List V := xs.map V.int
/-- the sums of all beginnings -/
def SumsOf (m : MD) (b : Nat) (w : Wd) (xs : List Int) : Prop := xs.length = w.length + 1 ∧ ∀ j, j ≤ w.length → ∃ s t, runW m (b, 0) (w.take j) = some (s, t) ∧ xs[j]? = some t
theorem SumsOf.last {m : MD} {b : Nat} {w : Wd} {xs : List Int} {n : Nat} {t : Int} (h : SumsOf m b w xs) (e : runW m (b, 0) w = some (n, t)) : atI (intsV xs) (-1) = some (.int t) := by
  obtain ⟨s, t', e1, e2⟩ := h.2 w.length (Nat.le_refl _)
  rw [List.take_length, e] at e1
  cases e1
  have hl : (intsV xs).length = w.length + 1 := by unfold intsV; rw [List.length_map, h.1]
  unfold atI
  have : ixN (intsV xs).length (-1) = some w.length := by
    rw [hl]
    unfold ixN
    simp
    omega
  rw [this]
  show (intsV xs)[w.length]? = _
  unfold intsV
  rw [List.getElem?_map, e2]
  rfl
theorem SumsOf.snoc {m : MD} {b : Nat} {w : Wd} {c : Nat} {xs : List Int} {n : Nat} {t : Int} (h : SumsOf m b w xs) (e : runW m (b, 0) (w ++ [c]) = some (n, t)) : SumsOf m b (w ++ [c]) (xs ++ [t]) := by
  refine ⟨by rw [List.length_append, List.length_append, h.1]; rfl, fun j hj => ?_⟩
  rw [List.length_append, List.length_singleton] at hj
  by_cases cj : j ≤ w.length
  · obtain ⟨s, t', e1, e2⟩ := h.2 j cj
    refine ⟨s, t', ?_, ?_⟩
    · rw [List.take_append_of_le_length cj]; exact e1
    · rw [List.getElem?_append_left (by rw [h.1]; omega)]; exact e2
  · have ej : j = w.length + 1 := by omega
    refine ⟨n, t, ?_, ?_⟩
    · rw [List.take_of_length_le (by rw [List.length_append, List.length_singleton]; omega)]; exact e
    · rw [ej, ← h.1, List.getElem?_append_right (Nat.le_refl _), Nat.sub_self]
      rfl
def sp_way (K : PySem.W.Frag) (C : Addr) : Sp := fun vs H Q _ => ∃ (x : Addr) (b : Nat) (v : V) (m : MD), vs = [.ref x, .int (b : Nat), v] ∧ MAt K C H x m ∧ m.Ok ∧
  ((NotStr K H v ∧ Q .non H) ∨ ∃ z : Str, v = .str z ∧ z.cps.size ≤ 1000 ∧ (runW m (b, 0) z.cps.toList = none → ∀ H', Same H H' → Q .non H') ∧
    ∀ n t, runW m (b, 0) z.cps.toList = some (n, t) → ∀ p q xs H', Same H H' → H p = none → H' p = some (.tup [.int (n : Nat), .ref q]) → H' q = some (.lst (intsV xs)) → SumsOf m b z.cps.toList xs → Q (.ref p) H')
section
variable {P : Program} {w : World} {K : PySem.W.Frag} {mg : Str → Option Value} {base : Heap}
theorem ok_way (T : Txt K mg) : FnOk P w K mg base (L2.CX P w) 5 T.a_way T.fd_way ["machine", "stand", "value"] (sp_way K T.c_Machine) := by
  refine T.F_way.okX sc_way (fun vs H Q E h => ?_) (fun cdv A outer s H vs Q E hr h => ?_)
  · obtain ⟨x, b, v, m, rfl, _⟩ := h
    rfl
  · obtain ⟨x, b, v, m, rfl, hm, o, k⟩ := h
    refine ⟨_, (PSs.nox (pss_cons (ps_if (pt_not (pt_val (pe_callB call_isi (by rfl) T.z_isinstance (by decide +kernel) (pa_cons (pv 2) (pa_cons (pe_bltn (v := .ty "str") (by rfl) T.z_str (by decide +kernel) rfl) pa_nil)))))
  (pss_one (ps_ret pe_non))
  pss_nil)
  (pss_cons (ps_set (i := 3) sc_way.nd rfl (Or.inl rfl) (pe_call (ok_moves_of T) (hr.mono (by decide)) (by rfl) T.m_moves_of T.k_moves_of T.b_moves_of .nil passL (pa_cons (pv 0) pa_nil)))
  (pss_cons (ps_set (i := 4) sc_way.nd rfl (Or.inl rfl) (pe_lst (pa_cons pe_int pa_nil)))
  (pss_cons (ps_for PassesOwn.never rfl (pi_str (pv 2)) (pg_name (i := 5) sc_way.nd rfl (Or.inl rfl))
  (pss_cons (ps_if (pt_cmp (pc_dnotin (hu_of hr) (pe_tup (pa_cons (pv 1) (pa_cons (pv 5) pa_nil))) (pv 3)) (by rfl))
  (pss_one (ps_ret pe_non))
  pss_nil)
  (pss_cons (ps_asg (pe_dget (hu_of hr) (pv 3) (pe_tup (pa_cons (pv 1) (pa_cons (pv 5) pa_nil))) (fun _ _ => rfl)) (pg_tup rfl (pgs_cons (pg_name (i := 1) sc_way.nd rfl (Or.inl rfl)) (pgs_cons (pg_name (i := 6) sc_way.nd rfl (Or.inl rfl)) pgs_nil))))
  (pss_one (ps_expr (pe_bm PySem.F.plainAttrs_list PySem.F.slot_list_append PySem.F.type_list_append mt_append (pv 4) (pa_cons (pe_op op_add (pe_ix ix_list (pv 4) (pe_un un_neg pe_int) (fun _ _ => rfl)) (pv 6)) pa_nil)))))))
  (pss_one (ps_ret (pe_tup (pa_cons (pv 1) (pa_cons (pv 4) pa_nil)))))))))), ?_⟩
    walk_at "begin"
    walk_at "go"
    rcases k with ⟨⟨tv, h1, h2⟩, k⟩ | ⟨z, rfl, z1000, k0, k1⟩
    · refine k_isi (.ty _) h1 h2 ?_
      walk_at "go"
      refine iteT ?_
      walk_at "go"
      exact k
    · refine k_isi (.ty _) (.base (.str z)) (kit_ty (b := "str") (r := true) (by decide +kernel)) ?_
      walk_at "go"
      refine iteF ?_
      walk_at "go"
      refine ⟨x, m, rfl, hm, o, fun D kvs H0 z0 hD eD0 mv0 => ?_⟩
      walk_at "go"
      refine ⟨(by show 1 ≤ sizeLine; decide), fun B hB => ?_⟩
      walk_at "go"
      have nDB : D ≠ B := ne_of_none eD0 hB
      have hB0 : H B = none := by
        cases e : H B with
        | none => rfl
        | some ob => rw [z0 _ _ e] at hB; cases hB
      obtain ⟨l, hl⟩ : ∃ l, l = z.cps.toList := ⟨_, rfl⟩
      rw [← hl] at k0 k1
      have zs : z.cps.size = l.length := by rw [hl]; simp
      refine ⟨z, rfl, for_it walk_str (fun j σ H' => ∃ (st : Nat) (tl : Int) (xs : List Int) (a5 a6 : Option V), Same H H' ∧ H' D = some (.dT kvs) ∧ MvOk K H' kvs m.ss ∧ H' B = some (.lst (intsV xs)) ∧ runW m (b, 0) (l.take j) = some (st, tl) ∧ SumsOf m b (l.take j) xs ∧
        σ = [some (.ref x), some (.int (st : Nat)), some (.str z), some (.ref D), some (.ref B), a5, a6])
        ⟨b, 0, [0], none, none, z0.trans (Same.new hB), by rw [upd_ne nDB]; exact eD0, mv0.tups (Tups.new hB), upd_same, rfl, ⟨rfl, fun j hj => ⟨b, 0, by simp at hj; rw [hj]; rfl, by simp at hj; rw [hj]; rfl⟩⟩, rfl⟩ (fun _ _ _ _ _ => trivial) ?_ ?_⟩
      · rintro j y σ H2' H2 hj ⟨st, tl, xs, a5, a6, z2, eD2, mv2, eB2, hrun, sm, rfl⟩ ⟨rfl, c, hc, rfl⟩
        have hc' : l[j]? = some c := by rw [hl]; simpa using hc
        have jl : j < l.length := (List.getElem?_eq_some_iff.mp hc').1
        have tk : l.take (j + 1) = l.take j ++ [c] := by rw [List.take_add_one, hc']; rfl
        have dec : l = (l.take j ++ [c]) ++ l.drop (j + 1) := by rw [← tk, List.take_append_drop]
        walk_at "go"
        refine ⟨(by decide : 2 ≤ sizeLine), fun p1 n1 => ?_⟩
        have eD3 : (upd H2 p1 (.tup [.int (st : Nat), .str ⟨#[c]⟩])) D = some (.dT kvs) := by rw [upd_ne (ne_of_none eD2 n1)]; exact eD2
        have mv3 := mv2.tups (Tups.new (o := .tup [.int (st : Nat), .str ⟨#[c]⟩]) n1)
        have z3 := z2.trans (Same.new (o := .tup [.int (st : Nat), .str ⟨#[c]⟩]) n1)
        have eB3 : (upd H2 p1 (.tup [.int (st : Nat), .str ⟨#[c]⟩])) B = some (.lst (intsV xs)) := by rw [upd_ne (ne_of_none eB2 n1)]; exact eB2
        have dg : DGet (upd H2 p1 (.tup [.int (st : Nat), .str ⟨#[c]⟩])) D (.ref p1) (valV kvs (mkey st c)) := DGet.t (k := mkey st c) eD3 upd_same
        walk_at "go"
        refine ⟨D, _, rfl, dg, ?_⟩
        walk_at "go"
        cases es : stepOf m st c with
        | none =>
          have nn : ∀ s ∈ m.ss, ¬ (s.b = st ∧ s.c = c) := fun s h e => by
            have := List.find?_eq_none.mp es s h
            rw [e.1, e.2] at this
            simp at this
          rw [(mv3 st c).1 nn]
          refine iteT ?_
          walk_at "go"
          refine k0 ?_ _ z3
          rw [dec]
          have rs : runW m (b, 0) (l.take j ++ [c]) = none := by
            rw [runW_snoc, hrun]
            show (stepOf m st c).map _ = none
            rw [es]
            rfl
          rw [runW_append, rs]
          rfl
        | some s0 =>
          obtain ⟨hs0, hb, hcc⟩ := stepOf_mem es
          obtain ⟨p0, ep0, sp0⟩ := (mv3 st c).2 s0 hs0 hb hcc
          rw [ep0]
          refine iteF ?_
          walk_at "go"
          refine ⟨(by decide : 2 ≤ sizeLine), fun p2 n2 => ?_⟩
          have eD4 : (upd (upd H2 p1 (.tup [.int (st : Nat), .str ⟨#[c]⟩])) p2 (.tup [.int (st : Nat), .str ⟨#[c]⟩])) D = some (.dT kvs) := by rw [upd_ne (ne_of_none eD3 n2)]; exact eD3
          have eB4 : (upd (upd H2 p1 (.tup [.int (st : Nat), .str ⟨#[c]⟩])) p2 (.tup [.int (st : Nat), .str ⟨#[c]⟩])) B = some (.lst (intsV xs)) := by rw [upd_ne (ne_of_none eB3 n2)]; exact eB3
          have dg2 : DGet (upd (upd H2 p1 (.tup [.int (st : Nat), .str ⟨#[c]⟩])) p2 (.tup [.int (st : Nat), .str ⟨#[c]⟩])) D (.ref p2) (valV kvs (mkey st c)) := DGet.t (k := mkey st c) eD4 upd_same
          rw [ep0] at dg2
          have t4 := Tups.new (o := .tup [.int (st : Nat), .str ⟨#[c]⟩]) n2
          have z4 := z3.trans (Same.new (o := .tup [.int (st : Nat), .str ⟨#[c]⟩]) n2)
          refine ⟨D, _, rfl, dg2, ?_⟩
          refine k_gt (t4.sq sp0) rfl ?_
          have r1 : runW m (b, 0) (l.take j ++ [c]) = some (s0.e, tl + s0.g) := by
            rw [runW_snoc, hrun]
            show (stepOf m st c).map _ = _
            rw [es]
            rfl
          walk_at "go"
          refine ⟨.inl ⟨rfl, _, SqL.of eB4⟩, ?_⟩
          walk_at "go"
          refine k_ixL (SqL.of eB4) (sm.last hrun) ?_
          walk_at "go"
          refine k_append eB4 ?_ ?_
          · have : (intsV xs).length < 2000 := by unfold intsV; rw [List.length_map, sm.1, List.length_take]; omega
            exact Nat.lt_trans this (by decide)
          · have ei : intsV xs ++ [V.int (tl + s0.g)] = intsV (xs ++ [tl + s0.g]) := by unfold intsV; rw [List.map_append]; rfl
            rw [ei]
            refine ⟨s0.e, tl + s0.g, xs ++ [tl + s0.g], _, _, Same.mut z4 hB0, by rw [upd_ne nDB]; exact eD4, (mv3.tups t4).tups (Tups.lst eB4), upd_same, ?_, ?_, rfl⟩
            · rw [tk]; exact r1
            · rw [tk]; exact sm.snoc r1
      · rintro σ H2 ⟨st, tl, xs, a5, a6, z2, eD2, mv2, eB2, hrun, sm, rfl⟩
        rw [zs, List.take_length] at hrun sm
        walk_at "go"
        refine ⟨(by decide : 2 ≤ sizeLine), fun p hp => ?_⟩
        have hp0 : H p = none := by
          cases e : H p with
          | none => rfl
          | some ob => rw [z2 _ _ e] at hp; cases hp
        exact k1 _ _ hrun p B xs _ (z2.trans (Same.new hp)) hp0 upd_same (by rw [upd_ne (ne_of_none eB2 hp)]; exact eB2) sm
end
/-! ### the moves, their keys in the steps' order -/
def mkeys (ss : List Stp) : List (List Key) := ss.map fun s => mkey s.b s.c
def sp_movesO (K : PySem.W.Frag) (C : Addr) : Sp := fun vs H Q _ => ∃ (x : Addr) (m : MD), vs = [.ref x] ∧ MAt K C H x m ∧ m.Ok ∧
  ∀ p kvs H', Same H H' → H p = none → H' p = some (.dT kvs) → MvOk K H' kvs m.ss → kvs.map (·.1) = mkeys m.ss → Q (.ref p) H'
theorem put_keys {kvs : List (List Key × V)} {k : List Key} {v : V} (h : k ∉ kvs.map (·.1)) : (putK kvs k v).map (·.1) = kvs.map (·.1) ++ [k] := by
  have : valV kvs k = none := by
    cases e : valV kvs k with
    | none => rfl
    | some x =>
      have a := valV_any k kvs
      rw [e] at a
      obtain ⟨kv, hm, hd⟩ := List.any_eq_true.mp (a.trans rfl)
      exact absurd (List.mem_map.mpr ⟨kv, hm, of_decide_eq_true hd⟩) h
  rw [putK_new _ this, List.map_append]
  rfl
section
variable {P : Program} {w : World} {K : PySem.W.Frag} {mg : Str → Option Value} {base : Heap}
theorem ok_moves_ord (T : Txt K mg) : FnOk P w K mg base (L2.CX P w) 3 T.a_moves_of T.fd_moves_of ["machine"] (sp_movesO K T.c_Machine) := by
  refine T.F_moves_of.okX sc_moves_of (fun vs H Q E h => ?_) (fun cdv A outer s H vs Q E hr h => ?_)
  · obtain ⟨x, m, rfl, _⟩ := h
    rfl
  · obtain ⟨x, m, rfl, ⟨dx, t, u, hx, ⟨us, ht, hs⟩, hu⟩, o, k⟩ := h
    refine ⟨_, (PSs.nox (pss_one (ps_ret (pe_dcT (own := [("begun", 1), ("letter", 2), ("end", 3), ("gain", 4)]) (g := (gTup K 4 (gCons (gName 1) (gCons (gName 2) (gCons (gName 3) (gCons (gName 4) gNil)))))) (tt := tYes) (hu_of hr) rfl sc_moves_of.nd (pi_tup (pe_prop (pv 0) T.cl_Machine T.p_steps (ok_Machine_steps T) (hr.mono (by decide)) T.b_Machine_steps .nil passL rfl)) (blkOk_by (own := [("begun", 1), ("letter", 2), ("end", 3), ("gain", 4)]) (N := ["machine", "begun", "letter", "end", "gain"]) (sc := defScope s_moves_of) (by decide +kernel)) (fun _ _ _ _ _ => (pg_tup rfl (pgs_cons (pg_name (i := 1) sc_moves_of.nd rfl (Or.inl rfl)) (pgs_cons (pg_name (i := 2) sc_moves_of.nd rfl (Or.inl rfl)) (pgs_cons (pg_name (i := 3) sc_moves_of.nd rfl (Or.inl rfl)) (pgs_cons (pg_name (i := 4) sc_moves_of.nd rfl (Or.inl rfl)) pgs_nil)))))) (fun _ _ _ _ _ => pts_nil) (fun _ _ _ _ _ => (pe_tup (pa_cons (pv 1) (pa_cons (pv 2) pa_nil)))) (fun _ _ _ _ _ => (pe_tup (pa_cons (pv 3) (pa_cons (pv 4) pa_nil)))))))), ?_⟩
    walk_at "begin"
    refine k_ret ?_
    refine k_dcT ?_
    walk_at "go"
    refine ⟨x, dx, _, rfl, hx, x, dx, _, .ref t, rfl, hx, rfl, t, rfl, ⟨us, ht⟩, fun D hD => ?_⟩
    refine dcT_tup (xs := us) (fun i H' => Same H H' ∧ ∃ kvs, H' D = some (.dT kvs) ∧ MvOk K H' kvs (m.ss.take i) ∧ kvs.length ≤ i ∧ kvs.map (·.1) = mkeys (m.ss.take i)) ⟨Same.new hD, [], upd_same, fun b c => ⟨fun _ => rfl, fun s hs => by simp at hs⟩, Nat.le_refl _, rfl⟩
      (fun i H' _ ⟨z, _⟩ => (same_tups z).sq ht) ?_ ?_
    · rintro i y H1 hy ⟨z1, kvs, eD, mv, len, kk⟩
      have il : i < m.ss.length := by rw [← hs.1]; exact (List.getElem?_eq_some_iff.mp hy).1
      have ei : m.ss[i]? = some (m.ss[i]'il) := List.getElem?_eq_getElem il
      obtain ⟨q, eq, hq⟩ := hs.2 i _ ei
      rw [hy] at eq
      cases eq
      have new : ∀ s ∈ m.ss.take i, ¬ (s.b = (m.ss[i]'il).b ∧ s.c = (m.ss[i]'il).c) := fun s h e => by
        obtain ⟨j, hj, ej⟩ := List.getElem_of_mem h
        rw [List.length_take] at hj
        rw [List.getElem_take] at ej
        have := List.pairwise_iff_getElem.mp o.up j i (by omega) il (by omega)
        rw [ej] at this
        rcases this with q | q <;> omega
      have tk : m.ss.take (i + 1) = m.ss.take i ++ [m.ss[i]'il] := by rw [List.take_add_one, ei]; rfl
      have l32 := o.len
      rw [tk]
      generalize m.ss[i]'il = s0 at hq new
      refine k_gt ((same_tups z1).sq hq) rfl ?_
      unfold stpV
      walk_at "go"
      refine ⟨rfl, ?_⟩
      walk_at "go"
      refine iteT ?_
      walk_at "go"
      refine ⟨(by decide : 2 ≤ sizeLine), fun pk hpk => ?_⟩
      walk_at "go"
      refine ⟨(by decide : 2 ≤ sizeLine), fun pv hpv => ?_⟩
      have zk := z1.trans (Same.new (o := .tup [.int (s0.b : Nat), .str ⟨#[s0.c]⟩]) hpk)
      have zv := zk.trans (Same.new (o := .tup [.int (s0.e : Nat), .int s0.g]) hpv)
      have npk : D ≠ pk := ne_of_none eD hpk
      have eDk : (upd H1 pk (.tup [.int (s0.b : Nat), .str ⟨#[s0.c]⟩])) D = some (.dT kvs) := by rw [upd_ne npk]; exact eD
      have npv : D ≠ pv := ne_of_none eDk hpv
      have eDv : (upd (upd H1 pk (.tup [.int (s0.b : Nat), .str ⟨#[s0.c]⟩])) pv (.tup [.int (s0.e : Nat), .int s0.g])) D = some (.dT kvs) := by rw [upd_ne npv]; exact eDk
      refine ⟨kvs, mkey s0.b s0.c, pk, rfl, Same.new hpv _ _ upd_same, eDv, Nat.lt_of_le_of_lt len (Nat.lt_trans (show i < 100 by omega) (by decide)), Same.mut zv hD, _, upd_same, ?_, ?_, ?_⟩
      · exact ((mv.tups ((Tups.new hpk).trans (Tups.new hpv))).snoc (SqT.of upd_same) new).tups (Tups.dT eDv)
      · have := length_putK kvs (mkey s0.b s0.c) (V.ref pv)
        omega
      · rw [put_keys, kk]
        · unfold mkeys; rw [List.map_append]; rfl
        · rw [kk]
          intro h
          obtain ⟨t, ht, e⟩ := List.mem_map.mp h
          exact new t ht (mkey_inj.mp e)
    · rintro H1 ⟨z1, kvs, eD, mv, len, kk⟩
      rw [hs.1, List.take_length] at mv kk
      exact k D kvs H1 z1 hD eD mv kk
end
/-! ### methods that may raise; len of an own object -/
def tMethX (C : Addr) (m : Str) (sp : Sp) (E : L2.St → XK) (ta : TE) (t : TA) : TE := fun σ H Q => ta σ H fun x H1 => ∃ a dx fs, x = .ref a ∧ H1 a = some (.ins C dx fs) ∧ fs.lookup m = none ∧ t σ H1 fun vs H2 => sp (x :: vs) H2 Q (E σ)
theorem k_methX {C : Addr} {m : Str} {sp : Sp} {E : L2.St → XK} {ta : TE} {t : TA} {σ : L2.St} {H : Hp} {Q : VK} (h : ta σ H fun x H1 => ∃ a dx fs, x = .ref a ∧ H1 a = some (.ins C dx fs) ∧ fs.lookup m = none ∧ t σ H1 fun vs H2 => sp (x :: vs) H2 Q (E σ)) : tMethX C m sp E ta t σ H Q := h
theorem k_meth {C : Addr} {m : Str} {sp : Sp} {dvs : List V} {E : XK} {ta : TE} {t : TA} {σ : L2.St} {H : Hp} {Q : VK} (h : ta σ H fun x H1 => ∃ a dx fs, x = .ref a ∧ H1 a = some (.ins C dx fs) ∧ fs.lookup m = none ∧ t σ H1 fun vs H2 => sp (x :: (vs ++ dvs)) H2 Q E) : tMeth C m sp dvs E ta t σ H Q := h
section
open PySem.Spec PyProof.Rows
theorem pe_methX {X : Cx} {CX : CXT} {k : Nat} {C f : Addr} {fd : FuncData} {ps : List Str} {m : Str} {sp : Sp} {E : L2.St → XK} {o e : Expr} {es : List Expr} {ta : TE} {t : TA} {apos pos : Pos} {pl : Sem Bool} (he : PE X o ta) (c : Cls X.K C) (hm : Meth X.K C m f)
    (F : FnOk X.prog X.w X.K X.mg X.base CX k f fd ps sp) (hr : Room k X.A) (hb : Binds X.K fd ps []) (hx : ∀ σ, PassesAt CX X σ (E σ)) (ha : PA X (e :: es) t)
    (hst : starEach (e :: es) X.env = (false, eval e X.env) :: starEach es X.env := by rfl) (hpl : (backTo pos (starEach es X.env)).any (·.1) = false := by rfl)
    (ht : eval (.Call (.Attribute o m apos) (e :: es) [] pos) X.env = (do
      let ov ← eval o X.env
      standAt apos.atName
      let (f, first) ← holding [ov] (getMethod ov m pl)
      callWith pos f first (backTo pos (starEach (e :: es) X.env)) (backToKw pos (keywordEach [] X.env))) := by rfl) :
    PE X (.Call (.Attribute o m apos) (e :: es) [] pos) (tMethX C m sp E ta t) := by
  refine ⟨fun pins s σ H Q I h => ?_⟩
  refine PySem.W.methodCall_KW (pl := pl) (thn (he.run pins s σ H _ I h) fun u s1 ⟨x, H1, I1, rx, a, dx, fs, ex, ea, l, q⟩ => ?_) ht
  subst ex
  obtain rfl : u = Value.ref a := rx
  refine getmeth_ok I1 ea c hm l ?_
  refine PySem.W.callWith_K (first := [.ref a]) (h₀ := X.base) I.ok.mod.kin hm.kp (thn (ha.run pos pins s1 σ H1 _ I1 q) fun us s2 ⟨vs, H2, I2, r, q2⟩ => ⟨I2.kIn, ?_⟩) hst hpl
  exact run_fnS (us := .ref a :: us) (vs := .ref a :: vs) F hr hb (hx σ) I2 (.cons rfl r) q2
/-- len(o), o of an own class with a __len__ that raises nothing -/
def rLenO (C : Addr) (sp : Sp) : List V → Hp → VK → Prop := fun xs H Q => ∃ (a dx : Addr) (fs : List (Str × V)), xs = [.ref a] ∧ H a = some (.ins C dx fs) ∧ sp [.ref a] H (fun v H' => ∃ n : Int, v = .int n ∧ 0 ≤ n ∧ n < 2 ^ 62 ∧ Q (.int n) H') E0
theorem call_lenO {X : Cx} {C f : Addr} {fd : FuncData} {ps : List Str} {sp : Sp} {n : Nat} (F : FnOk X.prog X.w X.K X.mg X.base (L2.CX X.prog X.w) n f fd ps sp) (hr : Room (n + 1) X.A) (hm : Meth X.K C "__len__" f) (hb : Binds X.K fd ps []) :
    CallR X (.builtin "len") (rLenO C sp) := by
  intro pins s σ H xs us Q I r h
  obtain ⟨a, dx, fs, rfl, ha, hsp⟩ := h
  obtain ⟨u, rfl, r1⟩ := vals1 r
  obtain rfl : u = Value.ref a := r1
  obtain ⟨mA, J, _⟩ := ins_get I.hok ha
  obtain ⟨od, J, _⟩ := J.look
  obtain ⟨m, hF⟩ := I.fr
  refine PySem.W.len_K hF I.ok.mod.kin J hm.at_ hm.fn ?_
  have r2 : Vals [V.ref a] [Value.ref a] := .cons rfl .nil
  have hl := F.len _ _ _ _ hsp
  have e0 : Env0 X.prog X.w X.K X.mg X.base X.A.in1 X.stack s H := by
    have e := I.env0
    exact ⟨e.frames, e.mod, e.bs, e.bsz, e.funs, e.frf, e.hok, e.bare⟩
  refine wpAny_call (codeAny_mono (F.run X.A.in1 X.stack s H ⟨[.ref a], []⟩ [.ref a] [.ref a] _ E0 hr.in1 e0 (by
    have := hb s [.ref a] I.kIn (by simpa using hl)
    simpa using this) r2 hsp) fun r s' hq => ?_)
  cases r with
  | error e => exact passL pins σ H s e s' I hq
  | ok fl =>
    cases fl with
    | ret w =>
      obtain ⟨z, H', I', rz, ⟨n, ez, n0, n1, q⟩⟩ := I.after hq
      subst ez
      obtain ⟨t, rfl⟩ := (show ∃ t, w = Value.int n t from rz)
      exact ⟨⟨n0, by omega⟩, ⟨.int n, H', I'.tok _, ⟨_, rfl⟩, q⟩⟩
    | next => exact False.elim hq
    | brk => exact False.elim hq
    | cont => exact False.elim hq
end
/-! ### a method with no argument that may raise -/
section
open PySem.Spec PyProof.Rows
theorem pe_methX0 {X : Cx} {CX : CXT} {k : Nat} {C f : Addr} {fd : FuncData} {ps : List Str} {m : Str} {sp : Sp} {E : L2.St → XK} {o : Expr} {ta : TE} {apos pos : Pos} {pl : Sem Bool} (he : PE X o ta) (c : Cls X.K C) (hm : Meth X.K C m f)
    (F : FnOk X.prog X.w X.K X.mg X.base CX k f fd ps sp) (hr : Room k X.A) (hb : Binds X.K fd ps []) (hx : ∀ σ, PassesAt CX X σ (E σ))
    (ht : eval (.Call (.Attribute o m apos) [] [] pos) X.env = (do
      let ov ← eval o X.env
      standAt apos.atName
      let (f, first) ← holding [ov] (getMethod ov m pl)
      callWith pos f first (backTo pos (starEach [] X.env)) (backToKw pos (keywordEach [] X.env))) := by rfl) :
    PE X (.Call (.Attribute o m apos) [] [] pos) (tMethX C m sp E ta tNil) := by
  refine ⟨fun pins s σ H Q I h => ?_⟩
  refine PySem.W.methodCall_KW (pl := pl) (thn (he.run pins s σ H _ I h) fun u s1 ⟨x, H1, I1, rx, a, dx, fs, ex, ea, l, q⟩ => ?_) ht
  subst ex
  obtain rfl : u = Value.ref a := rx
  refine getmeth_ok I1 ea c hm l ?_
  exact PySem.W.callWith_K0 (first := [.ref a]) I1.kIn hm.kp (run_fnS (us := [.ref a]) (vs := [.ref a]) F hr hb (hx σ) I1 (.cons rfl .nil) q)
end
/-! ### words cut -/
theorem cutS_take (w : Wd) (k : Nat) : cutS (sOf w) none (some ((k : Nat) : Int)) = sOf (w.take k) := by
  unfold cutS
  rw [HT.sIx_none, HT.sIx_nat, sOf_len, Nat.sub_zero]
  show Str.mk (((w.drop 0).take (min k w.length)).toArray) = _
  rw [List.drop_zero]
  rcases Nat.le_total k w.length with h | h
  · rw [Nat.min_eq_left h]; rfl
  · rw [Nat.min_eq_right h, List.take_length, List.take_of_length_le h]; rfl
theorem cutS_drop (w : Wd) (k : Nat) : cutS (sOf w) (some ((k : Nat) : Int)) none = sOf (w.drop k) := by
  unfold cutS
  rw [HT.sIx_none, HT.sIx_nat, sOf_len]
  show Str.mk (((w.drop (min k w.length)).take (w.length - min k w.length)).toArray) = _
  rcases Nat.le_total k w.length with h | h
  · rw [Nat.min_eq_left h, List.take_of_length_le (by rw [List.length_drop]; exact Nat.le_refl _)]; rfl
  · rw [Nat.min_eq_right h, Nat.sub_self, List.take_zero, List.drop_eq_nil_of_le h]; rfl
theorem sOf_app (v w : Wd) : sOf v ++ sOf w = sOf (v ++ w) := by
  show Str.mk (v.toArray ++ w.toArray) = _
  rw [List.append_toArray]
  rfl
/-! ### words; the steps told as data -/
theorem bl_ne (b : Bool) : decide (V.bl (!b) = V.bl b) = false := by cases b <;> rfl
theorem sOf_fits {w : Wd} (h : w.length ≤ 100) : (sOf w).length ≤ sizeLine := by rw [sOf_len]; exact Nat.le_trans h (by decide)
theorem dp2 {K : PySem.W.Frag} {H : Hp} {p : Addr} {i j : Int} (h : SqT K H p [.int i, .int j]) : Dp K H (.ref p) (.tuple [.int i, .int j]) := .tup h (.cons (.int _) (.cons (.int _) .nil))
theorem eqv2 (i j : Int) : PyData.eqv (.tuple [.int i, .int j]) (.tuple [.int i, .int j]) = true := by
  show ((i == i) && ((j == j) && true)) = true
  simp
def nxD (s : Stp) : PyData := .tuple [.str ⟨#[s.c]⟩, .int (s.e : Nat), .int s.g]
theorem dp_nx {K : PySem.W.Frag} {H : Hp} : ∀ {us : List V} {ns : List Stp}, NxAt K H us ns → DpAll K H us (ns.map nxD)
  | [], [], _ => .nil
  | [], _ :: _, h => by have := h.1; simp at this
  | _ :: _, [], h => by have := h.1; simp at this
  | v :: us, s :: ns, h => by
    obtain ⟨p, e, q⟩ := h.2 0 s rfl
    have ev : v = .ref p := Option.some.inj e
    subst ev
    refine .cons (.tup q (.cons (.str _) (.cons (.int _) (.cons (.int _) .nil)))) (dp_nx (ns := ns) ⟨by have := h.1; simpa using this, fun i t et => h.2 (i + 1) t et⟩)
theorem nx_shaped : ∀ {ns : List Stp}, (∀ s ∈ ns, s.c ≤ 100) → PyData.canLayAll0 (ns.map nxD) = true ∧ PyData.depthAll (ns.map nxD) ≤ 3
  | [], _ => ⟨rfl, Nat.zero_le _⟩
  | s :: ns, h => by
    obtain ⟨h1, h2⟩ := nx_shaped (ns := ns) fun t ht => h t (List.mem_cons_of_mem _ ht)
    have hc := h s List.mem_cons_self
    constructor
    · show (PyData.canLay0 (nxD s) && PyData.canLayAll0 (ns.map nxD)) = true
      rw [h1, Bool.and_true]
      show ((#[s.c].all (· < 0x110000)) && (true && (true && true))) = true
      simp
      omega
    · show max (PyData.depth (nxD s)) (PyData.depthAll (ns.map nxD)) ≤ 3
      have : PyData.depth (nxD s) ≤ 3 := by
        show max _ (max _ (max _ _)) + 1 ≤ 3
        simp [PyData.depth, PyData.depthAll]
      omega
theorem nx_sh {ns : List Stp} (h : ∀ s ∈ ns, s.c ≤ 100) : SeqAt.shaped (.list (ns.map nxD)) = true := by
  obtain ⟨h1, h2⟩ := nx_shaped h
  show (PyData.canLayAll0 (ns.map nxD) && decide (PyData.depthAll (ns.map nxD) + 1 ≤ 64)) = true
  rw [h1, Bool.true_and]
  exact decide_eq_true (by omega)
theorem nx_eqv (ns : List Stp) : PyData.eqv (.list (ns.map nxD)) (.list []) = ns.isEmpty := by
  cases ns with
  | nil => rfl
  | cons s ns => rfl
/-! ### meters: what stands in one -/
def tal (m : MD) (w : Wd) : Int := ((run m w).map (·.2)).getD 0
def sums (m : MD) (w : Wd) : List Int := (List.range (w.length + 1)).map fun i => tal m (w.take i)
structure SpanOf (m : MD) (w : Wd) (lo hi : Int) : Prop where
  l1 : lo ∈ sums m w
  l2 : ∀ y ∈ sums m w, lo ≤ y
  h1 : hi ∈ sums m w
  h2 : ∀ y ∈ sums m w, y ≤ hi
theorem sums_snoc (m : MD) (w : Wd) (c : Nat) : sums m (w ++ [c]) = sums m w ++ [tal m (w ++ [c])] := by
  unfold sums
  rw [List.length_append, List.length_singleton, List.range_succ, List.map_append]
  congr 1
  · refine List.map_congr_left fun i hi => ?_
    rw [List.take_append_of_le_length (by have := List.mem_range.mp hi; omega)]
  · show [tal m ((w ++ [c]).take (w.length + 1))] = _
    rw [List.take_of_length_le (by rw [List.length_append, List.length_singleton]; exact Nat.le_refl _)]
theorem sums_len (m : MD) (w : Wd) : (sums m w).length = w.length + 1 := by unfold sums; rw [List.length_map, List.length_range]
theorem SpanOf.nil (m : MD) : SpanOf m [] 0 0 := by
  have e : sums m [] = [0] := rfl
  exact ⟨by rw [e]; simp, by rw [e]; simp, by rw [e]; simp, by rw [e]; simp⟩
theorem SpanOf.snoc {m : MD} {w : Wd} {lo hi : Int} {c : Nat} (h : SpanOf m w lo hi) {t : Int} (e : tal m (w ++ [c]) = t) : SpanOf m (w ++ [c]) (if t < lo then t else lo) (if t > hi then t else hi) := by
  refine ⟨?_, ?_, ?_, ?_⟩ <;> rw [sums_snoc, e]
  · split
    · exact List.mem_append_right _ (List.mem_singleton.mpr rfl)
    · exact List.mem_append_left _ h.l1
  · intro y hy
    rcases List.mem_append.mp hy with hy | hy
    · have := h.l2 y hy
      split <;> omega
    · rw [List.mem_singleton.mp hy]
      split <;> omega
  · split
    · exact List.mem_append_right _ (List.mem_singleton.mpr rfl)
    · exact List.mem_append_left _ h.h1
  · intro y hy
    rcases List.mem_append.mp hy with hy | hy
    · have := h.h2 y hy
      split <;> omega
    · rw [List.mem_singleton.mp hy]
      split <;> omega
theorem SpanOf.uniq {m : MD} {w : Wd} {lo hi a b : Int} (h : SpanOf m w lo hi) (a1 : a ∈ sums m w) (a2 : ∀ y ∈ sums m w, a ≤ y) (b1 : b ∈ sums m w) (b2 : ∀ y ∈ sums m w, y ≤ b) : lo = a ∧ hi = b := by
  have h1 := h.l2 a a1
  have h2 := a2 lo h.l1
  have h3 := h.h2 b b1
  have h4 := b2 hi h.h1
  omega
def Plc (K : PySem.W.Frag) (H : Hp) (m : MD) (w : Wd) (q : Addr) : Prop := ∃ (st : Nat) (tl lo hi : Int) (r : Addr), run m w = some (st, tl) ∧ SqT K H q [.int (st : Nat), .int tl, .ref r] ∧ SqT K H r [.int lo, .int hi] ∧ SpanOf m w lo hi
def PlcAt (K : PySem.W.Frag) (H : Hp) (us : List V) (m : MD) (w : Wd) : Prop := us.length = w.length + 1 ∧ ∀ i, i ≤ w.length → ∃ q, us[i]? = some (V.ref q) ∧ Plc K H m (w.take i) q
theorem Plc.tups {K : PySem.W.Frag} {H H' : Hp} {m : MD} {w : Wd} {q : Addr} (h : Plc K H m w q) (t : Tups H H') : Plc K H' m w q := let ⟨st, tl, lo, hi, r, e, a, b, s⟩ := h; ⟨st, tl, lo, hi, r, e, t.sq a, t.sq b, s⟩
theorem PlcAt.tups {K : PySem.W.Frag} {H H' : Hp} {us : List V} {m : MD} {w : Wd} (h : PlcAt K H us m w) (t : Tups H H') : PlcAt K H' us m w := ⟨h.1, fun i hi => let ⟨q, e, z⟩ := h.2 i hi; ⟨q, e, z.tups t⟩⟩
theorem PlcAt.one {K : PySem.W.Frag} {H : Hp} {m : MD} {q : Addr} (h : Plc K H m [] q) : PlcAt K H [.ref q] m [] := ⟨rfl, fun i hi => by
  have : i = 0 := by simpa using hi
  subst this
  exact ⟨q, rfl, h⟩⟩
theorem PlcAt.snoc {K : PySem.W.Frag} {H : Hp} {us : List V} {m : MD} {w : Wd} {c : Nat} {q : Addr} (h : PlcAt K H us m w) (hq : Plc K H m (w ++ [c]) q) : PlcAt K H (us ++ [V.ref q]) m (w ++ [c]) := by
  refine ⟨by rw [List.length_append, List.length_append, h.1]; rfl, fun i hi => ?_⟩
  rw [List.length_append, List.length_singleton] at hi
  by_cases ci : i ≤ w.length
  · obtain ⟨q', e, z⟩ := h.2 i ci
    refine ⟨q', ?_, ?_⟩
    · rw [List.getElem?_append_left (by rw [h.1]; omega)]; exact e
    · rw [List.take_append_of_le_length ci]; exact z
  · have ei : i = w.length + 1 := by omega
    refine ⟨q, ?_, ?_⟩
    · rw [ei, ← h.1, List.getElem?_append_right (Nat.le_refl _), Nat.sub_self]; rfl
    · rw [List.take_of_length_le (by rw [List.length_append, List.length_singleton]; omega)]; exact hq
theorem PlcAt.pop {K : PySem.W.Frag} {H : Hp} {us : List V} {m : MD} {w : Wd} (h : PlcAt K H us m w) (ne : w ≠ []) : PlcAt K H us.dropLast m w.dropLast := by
  have lw : 0 < w.length := List.length_pos_iff.mpr ne
  refine ⟨by rw [List.length_dropLast, List.length_dropLast, h.1]; omega, fun i hi => ?_⟩
  rw [List.length_dropLast] at hi
  obtain ⟨q, e, z⟩ := h.2 i (by omega)
  refine ⟨q, ?_, ?_⟩
  · rw [List.getElem?_dropLast, if_pos (by rw [h.1]; omega)]; exact e
  · rw [List.dropLast_eq_take, List.take_take, Nat.min_eq_left (by omega)]; exact z
theorem PlcAt.last {K : PySem.W.Frag} {H : Hp} {us : List V} {m : MD} {w : Wd} (h : PlcAt K H us m w) : ∃ q, atI us (-1) = some (.ref q) ∧ us[us.length - 1]? = some (.ref q) ∧ Plc K H m w q := by
  obtain ⟨q, e, z⟩ := h.2 w.length (Nat.le_refl _)
  rw [List.take_length] at z
  refine ⟨q, ?_, by rw [h.1]; exact e, z⟩
  unfold atI
  have : ixN us.length (-1) = some w.length := by
    rw [h.1]
    unfold ixN
    simp
    omega
  rw [this]
  exact e
def mtF (x D : Addr) (w : Wd) (L : Addr) : List (Str × V) := [("_machine", .ref x), ("_moves", .ref D), ("_row", .str (sOf w)), ("_places", .ref L)]
/-- a meter at p, its list of places at L, behind the row w -/
def MtrAt (K : PySem.W.Frag) (C CM : Addr) (H : Hp) (p L : Addr) (m : MD) (w : Wd) : Prop := ∃ (dx x D : Addr) (us : List V) (kvs : List (List Key × V)), H p = some (.ins C dx (mtF x D w L)) ∧ MAt K CM H x m ∧ H D = some (.dT kvs) ∧ MvOk K H kvs m.ss ∧ kvs.map (·.1) = mkeys m.ss ∧ H L = some (.lst us) ∧ PlcAt K H us m w ∧ x ≠ p
theorem Keep.tupsI {a : Addr} {H H' : Hp} {C dx : Addr} {fs : List (Str × V)} (k : Keep a H H') (ha : H a = some (.ins C dx fs)) : Tups H H' := ⟨fun b _ e => k _ _ (fun z => by rw [z, ha] at e; cases e) e, fun b _ _ e => k _ _ (fun z => by rw [z, ha] at e; cases e) e⟩
/-- all but p and L stays -/
def Keep2 (p L : Addr) (H H' : Hp) : Prop := ∀ b o, b ≠ p → b ≠ L → H b = some o → H' b = some o
theorem Keep2.trans {p L : Addr} {H H1 H2 : Hp} (x : Keep2 p L H H1) (y : Keep2 p L H1 H2) : Keep2 p L H H2 := fun b o n1 n2 e => y b o n1 n2 (x b o n1 n2 e)
theorem Keep2.of_same {p L : Addr} {H H1 : Hp} (x : Same H H1) : Keep2 p L H H1 := fun b o _ _ e => x b o e
theorem Keep2.left {p L : Addr} {H : Hp} {o : HO} : Keep2 p L H (upd H p o) := fun b u n1 _ e => by rw [upd_ne n1]; exact e
theorem Keep2.right {p L : Addr} {H : Hp} {o : HO} : Keep2 p L H (upd H L o) := fun b u _ n2 e => by rw [upd_ne n2]; exact e
section
variable {K : PySem.W.Frag} {C CM : Addr} {H H' : Hp} {p L : Addr} {m : MD} {w : Wd}
theorem MtrAt.obj (h : MtrAt K C CM H p L m w) : (∃ dx fs, H p = some (.ins C dx fs)) ∧ ∃ us, H L = some (.lst us) := let ⟨_, _, _, _, _, e, _, _, _, _, eL, _⟩ := h; ⟨⟨_, _, e⟩, _, eL⟩
theorem Keep2.tups (k : Keep2 p L H H') (h : MtrAt K C CM H p L m w) : Tups H H' := by
  obtain ⟨⟨dx, fs, e1⟩, us, e2⟩ := h.obj
  exact ⟨fun b _ e => k _ _ (fun z => by rw [z, e1] at e; cases e) (fun z => by rw [z, e2] at e; cases e) e, fun b _ _ e => k _ _ (fun z => by rw [z, e1] at e; cases e) (fun z => by rw [z, e2] at e; cases e) e⟩
theorem Keep2.dAt {d : Addr} {m' : MD} (k : Keep2 p L H H') (h : MtrAt K C CM H p L m w) (hd : DAt K H d m') : DAt K H' d m' := by
  obtain ⟨⟨dx, fs, e1⟩, us, e2⟩ := h.obj
  obtain ⟨t, u, e, q⟩ := hd
  exact ⟨t, u, k _ _ (fun z => by rw [z, e1] at e; cases e) (fun z => by rw [z, e2] at e; cases e) e, (k.tups h).parts q⟩
theorem Keep2.row {a : Addr} (k : Keep2 p L H H') (h : MtrAt K C CM H p L m w) (ha : RowOk K H a) (ne : a ≠ L) : RowOk K H' a := by
  obtain ⟨⟨dx, fs, e1⟩, us, e2⟩ := h.obj
  obtain ⟨sc, ns, i, z, r, e, q, rest⟩ := ha
  refine ⟨sc, ns, i, z, r, k _ _ (fun z => by rw [z, e1] at e; cases e) ne e, ?_, rest⟩
  rcases q with ⟨o, q⟩ | q
  · exact .inl ⟨o, k _ _ (fun z => by rw [z, e1] at q; cases q) (fun z => by rw [z, e2] at q; cases q) q⟩
  · exact .inr q
theorem MtrAt.keep2 {p' L' : Addr} {m' : MD} {w' : Wd} (k : Keep2 p L H H') (h : MtrAt K C CM H p L m w) (h' : MtrAt K C CM H p' L' m' w') (n1 : p' ≠ p) (n2 : L' ≠ L) : MtrAt K C CM H' p' L' m' w' := by
  obtain ⟨dx0, x0, D0, us0, kvs0, e1, _, _, _, _, e2, _⟩ := id h
  obtain ⟨dx, x, D, us, kvs, ep, ⟨dm, t, u, ex, hp⟩, eD, mv, kk, eL, pl, ne⟩ := h'
  have t := k.tups h
  refine ⟨dx, x, D, us, kvs, k _ _ n1 (fun z => by rw [z, e2] at ep; cases ep) ep, ⟨dm, _, _, k _ _ (fun z => ?_) (fun z => by rw [z, e2] at ex; cases ex) ex, t.parts hp⟩, k _ _ (fun z => by rw [z, e1] at eD; cases eD) (fun z => by rw [z, e2] at eD; cases eD) eD, mv.tups t, kk,
    k _ _ (fun z => by rw [z, e1] at eL; cases eL) n2 eL, pl.tups t, ne⟩
  rw [z, e1] at ex
  injection ex with ex
  injection ex with _ _ ex
  have : (("_machine" : Str)) = ("_stands" : Str) := by
    unfold mtF mfs at ex
    injection ex with ex _
    injection ex with ex _
  exact absurd this (by decide)
theorem MtrAt.same (h : MtrAt K C CM H p L m w) (k : Same H H') : MtrAt K C CM H' p L m w := by
  obtain ⟨dx, x, D, us, kvs, ep, hx, eD, mv, kk, eL, pl, ne⟩ := h
  have t := same_tups k
  exact ⟨dx, x, D, us, kvs, k _ _ ep, hx.same k, k _ _ eD, mv.tups t, kk, k _ _ eL, pl.tups t, ne⟩
theorem MtrAt.keep {a : Addr} {l : List V} (h : MtrAt K C CM H p L m w) (k : Keep a H H') (ea : H a = some (.lst l)) (ne : a ≠ L) : MtrAt K C CM H' p L m w := by
  obtain ⟨dx, x, D, us, kvs, ep, hx, eD, mv, kk, eL, pl, nx⟩ := h
  have t := k.tups ea
  exact ⟨dx, x, D, us, kvs, k _ _ (fun z => by rw [z, ea] at ep; cases ep) ep, hx.keep k ea, k _ _ (fun z => by rw [z, ea] at eD; cases eD) eD, mv.tups t, kk, k _ _ ne.symm eL, pl.tups t, nx⟩
/-- all that a letter or an undo changes -/
theorem MtrAt.next {dx x D : Addr} {us : List V} {kvs : List (List Key × V)} {fs : List (Str × V)} {w' : Wd} (k : Keep2 p L H H') (ep0 : H p = some (.ins C dx fs)) (eL0 : H L = some (.lst us)) (hx : MAt K CM H x m) (eD : H D = some (.dT kvs)) (mv : MvOk K H kvs m.ss) (kk : kvs.map (·.1) = mkeys m.ss) (nx : x ≠ p)
    {us' : List V} (ep : H' p = some (.ins C dx (mtF x D w' L))) (eL : H' L = some (.lst us')) (pl : PlcAt K H' us' m w') : MtrAt K C CM H' p L m w' := by
  have t : Tups H H' := ⟨fun b _ e => k _ _ (fun z => by rw [z, ep0] at e; cases e) (fun z => by rw [z, eL0] at e; cases e) e, fun b _ _ e => k _ _ (fun z => by rw [z, ep0] at e; cases e) (fun z => by rw [z, eL0] at e; cases e) e⟩
  obtain ⟨dm, ta, u, ex, hp⟩ := hx
  exact ⟨dx, x, D, us', kvs, ep, ⟨dm, ta, u, k _ _ nx (fun z => by rw [z, eL0] at ex; cases ex) ex, t.parts hp⟩, k _ _ (fun z => by rw [z, ep0] at eD; cases eD) (fun z => by rw [z, eL0] at eD; cases eD) eD, mv.tups t, kk, eL, pl, nx⟩
end
theorem unlock_any {H2 H' : Hp} {e : Addr} {o : HO} {u : HO} (he : H2 e = some u) (z : Same (upd H2 e o) H') : Same H2 (upd H' e u) := fun b ob eb => by
  by_cases c : b = e
  · rw [c, he] at eb
    rw [c, upd_same]
    exact eb
  · rw [upd_ne c]
    exact z _ _ (by rw [upd_ne c]; exact eb)
def lsV (l : List Nat) : List V := l.map fun c => V.str ⟨#[c]⟩
theorem lsV_strs (l : List Nat) : lsV l = (l.map fun c => (⟨#[c]⟩ : Str)).map V.str := by unfold lsV; rw [List.map_map]; rfl
/-! ### texts of letters -/
def rAddS : V → V → Hp → VK → Prop := fun x y H Q => ∃ i j, x = .str i ∧ y = .str j ∧ i.length + j.length ≤ sizeLine ∧ Q (.str (i ++ j)) H
theorem in_addS {X : Cx} : InOp X .Add rAddS := fun pins s σ H x y u v Q I rx ry h => iop_add_str pins s σ H x y u v Q I rx ry h

theorem cutS_last {w : Wd} (h : w ≠ []) : cutS (sOf w) none (some (-1)) = sOf w.dropLast := by
  have : 0 < w.length := List.length_pos_iff.mpr h
  unfold cutS
  rw [HT.sIx_none, sOf_len, Nat.sub_zero]
  have e : HT.sIx w.length w.length (some (-1)) = w.length - 1 := by
    show (if (-1 : Int) < 0 then ((-1 : Int) + (w.length : Int)).toNat else min (-1 : Int).toNat w.length) = w.length - 1
    rw [if_pos (by decide)]
    omega
  rw [e, List.dropLast_eq_take]
  rfl
theorem cutS_last0 : cutS (sOf []) none (some (-1)) = sOf [] := by decide
theorem cutS_lastA (w : Wd) : cutS (sOf w) none (some (-1)) = sOf w.dropLast := by
  cases w with
  | nil => exact cutS_last0
  | cons c w => exact cutS_last (by simp)
theorem sOf_empty {w : Wd} : decide (V.str (sOf w) = V.str "") = decide (w = []) := by
  by_cases h : w = []
  · subst h; rfl
  · rw [decide_eq_false h, decide_eq_false]
    intro e
    injection e with e
    exact h (sOf_inj (w := []) e)
theorem sOf_inj' {z : Str} {w : Wd} (h : z.cps.toList = w) : z = sOf w := by
  subst h
  rfl
theorem joinL_lets : ∀ l : List Nat, TL.joinL [] (l.map fun c => [c]) = l
  | [] => rfl
  | [_] => rfl
  | a :: b :: l => by
    show [a] ++ ([] ++ TL.joinL [] ((b :: l).map fun c => [c])) = _
    rw [joinL_lets (b :: l)]
    rfl
theorem join_lets (l : List Nat) : Txt.join "" (l.map fun c => (⟨#[c]⟩ : Str)) = sOf l := by
  rw [TL.join_eq]
  have e : (Str.join "" (l.map fun c => (⟨#[c]⟩ : Str))).cps.toList = l := by
    have := TL.tl_join "" (l.map fun c => (⟨#[c]⟩ : Str))
    rw [List.map_map] at this
    exact this.trans (joinL_lets l)
  exact sOf_inj' e
theorem lets_sum : ∀ l : List Nat, ((l.map fun c => (⟨#[c]⟩ : Str)).map (·.length)).sum = l.length
  | [] => rfl
  | a :: l => by
    show 1 + ((l.map fun c => (⟨#[c]⟩ : Str)).map (·.length)).sum = l.length + 1
    rw [lets_sum l]
    omega
/-! ### meters: what their methods do -/
def sp_mtr (K : PySem.W.Frag) (C CM : Addr) : Sp := fun vs H Q _ => ∃ (p dx x : Addr) (m : MD), vs = [.ref p, .ref x] ∧ H p = some (.ins C dx []) ∧ MAt K CM H x m ∧ m.Ok ∧
  ∀ L H', Keep p H H' → H L = none → MtrAt K C CM H' p L m [] → Q .non H'
def sp_place (K : PySem.W.Frag) (C : Addr) (pick : Nat → Int → Addr → V) : Sp := fun vs H Q _ => ∃ (p dx : Addr) (fs : List (Str × V)) (L : Addr) (us : List V) (q : Addr) (st : Nat) (tl : Int) (r : Addr), vs = [.ref p] ∧ H p = some (.ins C dx fs) ∧ fs.lookup ("_places" : Str) = some (.ref L) ∧
  SqL K H L us ∧ atI us (-1) = some (.ref q) ∧ SqT K H q [.int (st : Nat), .int tl, .ref r] ∧ Q (pick st tl r) H
def pkS : Nat → Int → Addr → V := fun st _ _ => .int (st : Nat)
def pkT : Nat → Int → Addr → V := fun _ tl _ => .int tl
def pkR : Nat → Int → Addr → V := fun _ _ r => .ref r
/-- a letter that is read, or refused -/
def sp_read (K : PySem.W.Frag) (C CM B : Addr) : Sp := fun vs H Q E => ∃ (p L : Addr) (m : MD) (w : Wd) (v : V) (st : Nat) (tl : Int), vs = [.ref p, v] ∧ MtrAt K C CM H p L m w ∧ m.Ok ∧ w.length ≤ 100 ∧ run m w = some (st, tl) ∧
  ((NotStr K H v ∧ ∀ H', Same H H' → E (.ref B) none H') ∨ (∃ z : Str, v = .str z ∧ (∀ c, z = ⟨#[c]⟩ → stepOf m st c = none) ∧ ∀ H', Same H H' → E (.ref B) none H') ∨
    ∃ (c : Nat) (s : Stp), v = .str ⟨#[c]⟩ ∧ stepOf m st c = some s ∧ ∀ H', Keep2 p L H H' → MtrAt K C CM H' p L m (w ++ [c]) → Q (.int (tl + s.g)) H')
def sp_can (K : PySem.W.Frag) (C CM : Addr) : Sp := fun vs H Q _ => ∃ (p L : Addr) (m : MD) (w : Wd) (st : Nat) (tl : Int), vs = [.ref p] ∧ MtrAt K C CM H p L m w ∧ m.Ok ∧ run m w = some (st, tl) ∧
  ∀ H', Same H H' → Q (.str (sOf ((fromS m st).map (·.c)))) H'
def sp_undo (K : PySem.W.Frag) (C CM : Addr) : Sp := fun vs H Q _ => ∃ (p L : Addr) (m : MD) (w : Wd), vs = [.ref p] ∧ MtrAt K C CM H p L m w ∧ w.length ≤ 100 ∧
  ∀ H', Keep2 p L H H' → MtrAt K C CM H' p L m w.dropLast → Q (.bl (!decide (w = []))) H'
def sp_copy (K : PySem.W.Frag) (C CM : Addr) : Sp := fun vs H Q _ => ∃ (p L : Addr) (m : MD) (w : Wd), vs = [.ref p] ∧ MtrAt K C CM H p L m w ∧ m.Ok ∧
  ∀ p' L' H', Same H H' → H p' = none → H L' = none → MtrAt K C CM H' p' L' m w → Q (.ref p') H'
def sp_mlen (K : PySem.W.Frag) (C CM : Addr) : Sp := fun vs H Q _ => ∃ (p L : Addr) (m : MD) (w : Wd), vs = [.ref p] ∧ MtrAt K C CM H p L m w ∧ w.length ≤ 100 ∧ Q (.int (w.length : Nat)) H
theorem valV_none {kvs : List (List Key × V)} {k : List Key} (h : k ∉ kvs.map (·.1)) : valV kvs k = none := by
  cases e : valV kvs k with
  | none => rfl
  | some x =>
    have a := valV_any k kvs
    rw [e] at a
    obtain ⟨kv, hm, hd⟩ := List.any_eq_true.mp (a.trans rfl)
    exact absurd (List.mem_map.mpr ⟨kv, hm, of_decide_eq_true hd⟩) h
theorem MvOk.not {K : PySem.W.Frag} {H : Hp} {kvs : List (List Key × V)} {m : MD} {st : Nat} {z : Str} (_ : MvOk K H kvs m.ss) (kk : kvs.map (·.1) = mkeys m.ss) (nz : ∀ c, z = ⟨#[c]⟩ → stepOf m st c = none) : valV kvs [.inl (st : Int), .inr z] = none := by
  refine valV_none ?_
  rw [kk]
  intro h
  obtain ⟨s, hs, e⟩ := List.mem_map.mp h
  unfold mkey at e
  injection e with e1 e2
  injection e2 with e2 _
  injection e1 with e1
  injection e2 with e2
  have := List.find?_eq_none.mp (nz s.c e2.symm) s hs
  simp at this
  omega
section
variable {P : Program} {w : World} {K : PySem.W.Frag} {mg : Str → Option Value} {base : Heap}
theorem ok_Meter_init (T : Txt K mg) : FnOk P w K mg base (L2.CX P w) 4 T.a_Meter_init T.fd_Meter_init ["self", "machine"] (sp_mtr K T.c_Meter T.c_Machine) := by
  refine T.F_Meter_init.okX sc_Meter_init (fun vs H Q E h => ?_) (fun cdv A outer s H vs Q E hr h => ?_)
  · obtain ⟨p, dx, x, m, rfl, _⟩ := h
    rfl
  · obtain ⟨p, dx, x, m, rfl, hp, hx, o, k⟩ := h
    have nx : x ≠ p := fun z => by
      obtain ⟨dm, t, u, e, _⟩ := hx
      rw [z, hp] at e
      injection e with e
      injection e with _ _ e
      cases e
    refine ⟨_, (PSs.nox (pss_cons (ps_expr (pe_call (ok_check_machine T) (hr.mono (by decide)) (by rfl) T.m_check_machine T.k_check_machine T.b_check_machine .nil passL (pa_cons (pv 1) pa_nil)))
  (pss_cons (ps_fld (pv 0) (pv 1) rfl)
  (pss_cons (ps_fld (pv 0) (pe_call (ok_moves_ord T) (hr.mono (by decide)) (by rfl) T.m_moves_of T.k_moves_of T.b_moves_of .nil passL (pa_cons (pv 1) pa_nil)) rfl)
  (pss_cons (ps_fld (pv 0) pe_str rfl)
  (pss_one (ps_fld (pv 0) (pe_lst (pa_cons (pe_tup (pa_cons pe_int (pa_cons pe_int (pa_cons (pe_tup (pa_cons pe_int (pa_cons pe_int pa_nil))) pa_nil)))) pa_nil)) rfl))))))), ?_⟩
    walk_at "begin"
    walk_at "go"
    obtain ⟨dm, t0, u0, ex, hpt⟩ := id hx
    refine ⟨x, dm, _, rfl, ex, ?_⟩
    walk_at "go"
    refine ⟨_, rfl, _, rfl, p, _, dx, _, rfl, hp, T.cl_Meter, T.n__machine, (by decide : 0 < 1000), ?_⟩
    walk_at "go"
    have k1 : Keep p H (upd H p (.ins T.c_Meter dx (putF "_machine" (.ref x) []))) := Keep.at_
    have hx1 : MAt K T.c_Machine (upd H p (.ins T.c_Meter dx (putF "_machine" (.ref x) []))) x m := ⟨dm, t0, u0, k1 _ _ nx ex, (k1.tupsI hp).parts hpt⟩
    have p1 : (upd H p (.ins T.c_Meter dx (putF "_machine" (.ref x) []))) p = some (.ins T.c_Meter dx (putF "_machine" (.ref x) [])) := upd_same
    generalize upd H p (.ins T.c_Meter dx (putF "_machine" (.ref x) [])) = H1 at k1 hx1 p1
    refine ⟨_, rfl, x, m, rfl, hx1, o, fun D kvs H2 z2 hD eD mv kk => ?_⟩
    have p2 := z2 _ _ p1
    have nD : D ≠ p := fun z => by rw [z, p1] at hD; cases hD
    refine ⟨_, rfl, p, _, dx, _, rfl, p2, T.cl_Meter, T.n__moves, few 1 (by decide) (length_putF _ _ _), ?_⟩
    walk_at "go"
    refine ⟨_, rfl, p, _, dx, _, rfl, upd_same, T.cl_Meter, T.n__row, few 2 (by decide) (Nat.le_trans (length_putF _ _ _) (Nat.succ_le_succ (length_putF _ _ _))), ?_⟩
    walk_at "go"
    have k3 : Keep p H2 (upd (upd H2 p (.ins T.c_Meter dx (putF "_moves" (.ref D) (putF "_machine" (.ref x) [])))) p (.ins T.c_Meter dx (putF "_row" (.str "") (putF "_moves" (.ref D) (putF "_machine" (.ref x) []))))) := Keep.at_.trans Keep.at_
    have p3 : (upd (upd H2 p (.ins T.c_Meter dx (putF "_moves" (.ref D) (putF "_machine" (.ref x) [])))) p (.ins T.c_Meter dx (putF "_row" (.str "") (putF "_moves" (.ref D) (putF "_machine" (.ref x) []))))) p = some (.ins T.c_Meter dx (putF "_row" (.str "") (putF "_moves" (.ref D) (putF "_machine" (.ref x) [])))) := upd_same
    generalize upd (upd H2 p (.ins T.c_Meter dx (putF "_moves" (.ref D) (putF "_machine" (.ref x) [])))) p (.ins T.c_Meter dx (putF "_row" (.str "") (putF "_moves" (.ref D) (putF "_machine" (.ref x) [])))) = H3 at k3 p3
    have t3 := k3.tupsI p2
    refine ⟨(by decide : 2 ≤ sizeLine), fun r nr => ?_⟩
    refine ⟨(by decide : 3 ≤ sizeLine), fun q nq => ?_⟩
    refine ⟨(by decide : 1 ≤ sizeLine), fun L nL => ?_⟩
    have zz := ((Same.new (o := .tup [.int 0, .int 0]) nr).trans (Same.new (o := .tup [.int 0, .int 0, .ref r]) nq)).trans (Same.new (o := .lst [.ref q]) nL)
    have hq := (Same.new (o := .lst [.ref q]) nL) _ _ (upd_same (a := q) (H := upd H3 r (.tup [.int 0, .int 0])) (o := .tup [.int 0, .int 0, .ref r]))
    have hr' := ((Same.new (o := .tup [.int 0, .int 0, .ref r]) nq).trans (Same.new (o := .lst [.ref q]) nL)) _ _ (upd_same (a := r) (H := H3) (o := .tup [.int 0, .int 0]))
    have eL := upd_same (a := L) (H := upd (upd H3 r (.tup [.int 0, .int 0])) q (.tup [.int 0, .int 0, .ref r])) (o := .lst [.ref q])
    generalize upd (upd (upd H3 r (.tup [.int 0, .int 0])) q (.tup [.int 0, .int 0, .ref r])) L (.lst [.ref q]) = H4 at zz hq hr' eL
    have p4 := zz _ _ p3
    refine ⟨_, rfl, p, _, dx, _, rfl, p4, T.cl_Meter, T.n__places, few 3 (by decide) (Nat.le_trans (length_putF _ _ _) (Nat.succ_le_succ (Nat.le_trans (length_putF _ _ _) (Nat.succ_le_succ (length_putF _ _ _))))), ?_⟩
    have nL3 : H3 L = none := free_of ((Same.new (o := .tup [.int 0, .int 0]) nr).trans (Same.new (o := .tup [.int 0, .int 0, .ref r]) nq)) nL
    have nLp : L ≠ p := fun z => by rw [z, p3] at nL3; cases nL3
    have k4 : Keep p H2 (upd H4 p (.ins T.c_Meter dx (putF "_places" (.ref L) (putF "_row" (.str "") (putF "_moves" (.ref D) (putF "_machine" (.ref x) [])))))) := (k3.trans (Keep.of_same zz)).trans Keep.at_
    have k14 := (k1.trans (Keep.of_same z2)).trans k4
    have t4 : Tups H4 (upd H4 p (.ins T.c_Meter dx (putF "_places" (.ref L) (putF "_row" (.str "") (putF "_moves" (.ref D) (putF "_machine" (.ref x) [])))))) := Keep.tupsI Keep.at_ p4
    refine k L _ k14 ((k1.trans (Keep.of_same z2)).trans k3 |>.free nLp nL3) ⟨dx, x, D, [.ref q], kvs, upd_same, ⟨dm, t0, u0, k14 _ _ nx ex, (k14.tupsI hp).parts hpt⟩, k4 _ _ nD eD, mv.tups (k4.tupsI p2), kk, by rw [upd_ne nLp]; exact eL, PlcAt.one ⟨0, 0, 0, 0, r, rfl, t4.sq (SqT.of hq), t4.sq (SqT.of hr'), SpanOf.nil m⟩, nx⟩
theorem ok_Meter_read_bad (T : Txt K mg) : FnOk P w K mg base (L2.CX P w) 1 T.a_Meter_read T.fd_Meter_read ["self", "letter"] (sp_read K T.c_Meter T.c_Machine T.c_BadLetter) := by
  refine T.F_Meter_read.okX sc_Meter_read (fun vs H Q E h => ?_) (fun cdv A outer s H vs Q E hr h => ?_)
  · obtain ⟨p, L, m, w, v, st, tl, rfl, _⟩ := h
    rfl
  · obtain ⟨p, L, m, w, v, st, tl, rfl, hm, o, w100, er, h⟩ := h
    obtain ⟨dx, x, D, us, kvs, ep, hx, eD, mv, kk, eL, pl, nx⟩ := id hm
    obtain ⟨q, e1, e2, st', tl', lo, hi, r, er', hq, hr', sp⟩ := pl.last
    rw [er] at er'
    cases er'
    refine ⟨_, (pss_cons (ps_asg (pe_ix ix_list (pe_fld (pv 0) rfl) (pe_un un_neg pe_int) (fun _ _ => rfl)) (pg_tup rfl (pgs_cons (pg_name (i := 2) sc_Meter_read.nd rfl (Or.inl rfl)) (pgs_cons (pg_name (i := 3) sc_Meter_read.nd rfl (Or.inl rfl)) (pgs_cons (pg_name (i := 4) sc_Meter_read.nd rfl (Or.inl rfl)) pgs_nil)))))
  (pss_cons (ps_if (PW.pt (pw_or (pt_not (pt_val (pe_callB call_isi (by rfl) T.z_isinstance (by decide +kernel) (pa_cons (pv 1) (pa_cons (pe_bltn (v := .ty "str") (by rfl) T.z_str (by decide +kernel) rfl) pa_nil))))) (pw_or1 (pt_cmp (pc_dnotin (hu_of hr) (pe_tup (pa_cons (pv 2) (pa_cons (pv 1) pa_nil))) (pe_fld (pv 0) rfl)) (by rfl)))))
  (pss_one (ps_raise rfl (takes_of rfl rfl rfl rfl) (pmk_own PySem.F.excBase_ValueError T.x_BadLetter T.m_BadLetter T.k_BadLetter (raises_own T.b_BadLetter T.t_BadLetter) (by exact rfl))))
  pss_nil)
  (pss_cons (ps_asg (pe_dget (hu_of hr) (pe_fld (pv 0) rfl) (pe_tup (pa_cons (pv 2) (pa_cons (pv 1) pa_nil))) (fun _ _ => rfl)) (pg_tup rfl (pgs_cons (pg_name (i := 5) sc_Meter_read.nd rfl (Or.inl rfl)) (pgs_cons (pg_name (i := 6) sc_Meter_read.nd rfl (Or.inl rfl)) pgs_nil))))
  (pss_cons (ps_aug (i := 3) sc_Meter_read.nd rfl (Or.inl rfl) (pv 6) ip_add)
  (pss_cons (ps_fldaug (pv 0) (pv 1) in_addS)
  (pss_cons (ps_expr (pe_bm PySem.F.plainAttrs_list PySem.F.slot_list_append PySem.F.type_list_append mt_append (pe_fld (pv 0) rfl) (pa_cons (pe_tup (pa_cons (pv 5) (pa_cons (pv 3) (pa_cons (pe_tup (pa_cons (pe_callB (call_min2 rfl) (by rfl) T.z_min (by decide +kernel) (pa_cons (pe_ix ix_tup (pv 4) pe_int (fun _ _ => rfl)) (pa_cons (pv 3) pa_nil))) (pa_cons (pe_callB (call_max2 rfl) (by rfl) T.z_max (by decide +kernel) (pa_cons (pe_ix ix_tup (pv 4) pe_int (fun _ _ => rfl)) (pa_cons (pv 3) pa_nil))) pa_nil))) pa_nil)))) pa_nil)))
  (pss_one (ps_ret (pv 3))))))))), ?_⟩
    walk_at "begin"
    walk_at "go"
    refine ⟨p, T.c_Meter, dx, _, .ref L, rfl, ep, T.cl_Meter, T.n__places, rfl, ?_⟩
    walk_at "go"
    refine k_ixL (SqL.of eL) e1 ?_
    refine k_gt hq rfl ?_
    walk_at "go"
    rcases h with ⟨⟨ty, h1, h2⟩, k⟩ | ⟨z, rfl, nz, k⟩ | ⟨c, s0, rfl, es, k⟩
    · refine k_isi (.ty _) h1 h2 ?_
      walk_at "go"
      refine iteT ?_
      refine iteT ?_
      exact k H (Same.refl _)
    · refine k_isi (.ty _) (.base (.str z)) (kit_ty (b := "str") (r := true) (by decide +kernel)) ?_
      walk_at "go"
      refine iteF ?_
      walk_at "go"
      refine ⟨(by decide : 2 ≤ sizeLine), fun pk hpk => ?_⟩
      refine ⟨_, rfl, p, T.c_Meter, dx, _, .ref D, rfl, Same.new hpk _ _ ep, T.cl_Meter, T.n__moves, rfl, ?_⟩
      refine ⟨D, _, rfl, DGet.t (k := [.inl (st : Int), .inr z]) (Same.new hpk _ _ eD) upd_same, ?_⟩
      rw [MvOk.not mv kk nz]
      exact ⟨_, rfl, iteT (k _ (Same.new hpk))⟩
    · refine k_isi (.ty _) (.base (.str _)) (kit_ty (b := "str") (r := true) (by decide +kernel)) ?_
      walk_at "go"
      refine iteF ?_
      walk_at "go"
      refine ⟨(by decide : 2 ≤ sizeLine), fun pk hpk => ?_⟩
      refine ⟨_, rfl, p, T.c_Meter, dx, _, .ref D, rfl, Same.new hpk _ _ ep, T.cl_Meter, T.n__moves, rfl, ?_⟩
      refine ⟨D, _, rfl, DGet.t (k := mkey st c) (Same.new hpk _ _ eD) upd_same, ?_⟩
      obtain ⟨hs0, hb, hcc⟩ := stepOf_mem es
      obtain ⟨pv, epv, spv⟩ := (mv st c).2 s0 hs0 hb hcc
      rw [epv]
      refine ⟨_, rfl, iteF ?_⟩
      walk_at "go"
      refine ⟨p, T.c_Meter, dx, _, .ref D, rfl, Same.new hpk _ _ ep, T.cl_Meter, T.n__moves, rfl, ?_⟩
      walk_at "go"
      refine ⟨(by decide : 2 ≤ sizeLine), fun pk2 hpk2 => ?_⟩
      have z2 := (Same.new (o := .tup [.int (st : Nat), .str ⟨#[c]⟩]) hpk).trans (Same.new (o := .tup [.int (st : Nat), .str ⟨#[c]⟩]) hpk2)
      have ek2 := upd_same (H := upd H pk (.tup [.int (st : Nat), .str ⟨#[c]⟩])) (a := pk2) (o := .tup [.int (st : Nat), .str ⟨#[c]⟩])
      generalize upd (upd H pk (.tup [.int (st : Nat), .str ⟨#[c]⟩])) pk2 (.tup [.int (st : Nat), .str ⟨#[c]⟩]) = H2 at z2 ek2
      refine ⟨D, _, rfl, by rw [← epv]; exact DGet.t (k := mkey st c) (z2 _ _ eD) ek2, ?_⟩
      refine k_gt ((same_tups z2).sq spv) rfl ?_
      walk_at "go"
      refine ⟨_, rfl, p, T.c_Meter, dx, _, .str (sOf w), rfl, z2 _ _ ep, T.cl_Meter, T.n__row, rfl, ?_⟩
      refine ⟨_, rfl, sOf w, ⟨#[c]⟩, rfl, rfl, ?_, ?_⟩
      · rw [sOf_len]
        show w.length + 1 ≤ _
        exact Nat.le_trans (show w.length + 1 ≤ 101 by omega) (by decide)
      rw [sOf_snoc]
      refine ⟨dx, _, z2 _ _ ep, (by show 4 < 1000; decide), ?_⟩
      have kA : Keep p H (upd H2 p (.ins T.c_Meter dx (putF "_row" (.str (sOf (w ++ [c]))) (mtF x D w L)))) := (Keep.of_same z2).trans Keep.at_
      have eA : (upd H2 p (.ins T.c_Meter dx (putF "_row" (.str (sOf (w ++ [c]))) (mtF x D w L)))) p = some (.ins T.c_Meter dx (mtF x D (w ++ [c]) L)) := upd_same
      generalize upd H2 p (.ins T.c_Meter dx (putF "_row" (.str (sOf (w ++ [c]))) (mtF x D w L))) = HA at kA eA
      have nLp : L ≠ p := fun z => by rw [z, ep] at eL; cases eL
      have eLA := kA _ _ nLp eL
      have tA := kA.tupsI ep
      walk_at "go"
      refine ⟨p, T.c_Meter, dx, _, .ref L, rfl, eA, T.cl_Meter, T.n__places, rfl, .inl ⟨rfl, _, SqL.of eLA⟩, ?_⟩
      walk_at "go"
      refine k_ixT (tA.sq hr') (v := .int lo) rfl ?_
      walk_at "go"
      refine ⟨_, _, rfl, ?_⟩
      walk_at "go"
      refine k_ixT (tA.sq hr') (v := .int hi) rfl ?_
      walk_at "go"
      refine ⟨_, _, rfl, ?_⟩
      walk_at "go"
      refine ⟨(by decide : 2 ≤ sizeLine), fun r2 nr2 => ?_⟩
      refine ⟨(by decide : 3 ≤ sizeLine), fun q2 nq2 => ?_⟩
      have z3 := (Same.new (o := .tup [.int (if tl + s0.g < lo then tl + s0.g else lo), .int (if tl + s0.g > hi then tl + s0.g else hi)]) nr2).trans (Same.new (o := .tup [.int (s0.e : Nat), .int (tl + s0.g), .ref r2]) nq2)
      have hr2 := (Same.new (o := .tup [.int (s0.e : Nat), .int (tl + s0.g), .ref r2]) nq2) _ _ (upd_same (a := r2) (H := HA) (o := .tup [.int (if tl + s0.g < lo then tl + s0.g else lo), .int (if tl + s0.g > hi then tl + s0.g else hi)]))
      have hq2 := upd_same (a := q2) (H := upd HA r2 (.tup [.int (if tl + s0.g < lo then tl + s0.g else lo), .int (if tl + s0.g > hi then tl + s0.g else hi)])) (o := .tup [.int (s0.e : Nat), .int (tl + s0.g), .ref r2])
      generalize upd (upd HA r2 (.tup [.int (if tl + s0.g < lo then tl + s0.g else lo), .int (if tl + s0.g > hi then tl + s0.g else hi)])) q2 (.tup [.int (s0.e : Nat), .int (tl + s0.g), .ref r2]) = H3 at z3 hr2 hq2
      refine k_nil ?_
      refine k_append (z3 _ _ eLA) (Nat.lt_of_le_of_lt (show us.length ≤ 101 by rw [pl.1]; omega) (by decide)) ?_
      have er2 : run m (w ++ [c]) = some (s0.e, tl + s0.g) := run_snoc.mpr ⟨st, tl, s0, er, es, rfl, rfl⟩
      have kB : Keep2 p L H3 (upd H3 L (.lst (us ++ [.ref q2]))) := Keep2.right
      have k2 : Keep2 p L H (upd H3 L (.lst (us ++ [.ref q2]))) := fun b o n1 n2 e => kB b o n1 n2 (z3 _ _ (kA b o n1 e))
      have t3 : Tups H3 (upd H3 L (.lst (us ++ [.ref q2]))) := Tups.lst (z3 _ _ eLA)
      have tH := (tA.trans (same_tups z3)).trans t3
      walk_at "go"
      refine k _ k2 (MtrAt.next k2 ep eL hx eD mv kk nx (us' := us ++ [.ref q2]) (by rw [upd_ne nLp.symm]; exact z3 _ _ eA) upd_same ((pl.tups tH).snoc ⟨s0.e, tl + s0.g, _, _, r2, er2, t3.sq (SqT.of hq2), t3.sq (SqT.of hr2), sp.snoc ?_⟩))
      unfold tal
      rw [er2]
      rfl
end
/-! ### InvalidText: two fields -/
def sp_einit2 (K : PySem.W.Frag) (C : Addr) : Sp := fun vs H Q _ => ∃ (a : Addr) (i j : Int), vs = [.ref a, .int i, .int j] ∧ 0 ≤ i ∧ i < 10 ^ 10 ∧ 0 ≤ j ∧ j < 10 ^ 10 ∧ H a = some (exo a C none) ∧
  ∀ dx, H dx = none → dx ≠ a → Q .non (upd (upd (upd H dx (exd dx [("line", .int i)])) a (exo a C (some dx))) dx (exd dx [("word", .int j), ("line", .int i)]))
theorem exc_same2 {H : Hp} {a d C : Addr} {fs : List (Str × V)} {o o2 : HO} (ha : H a = none) (hd : H d = none) : Same H (upd (del (upd (upd (upd (upd H a (exo a C none)) d o) a (exo a C (some d))) d o2) a) d (.xd fs)) := fun b ob e => by
  have n1 : b ≠ a := ne_of_none e ha
  have n2 : b ≠ d := ne_of_none e hd
  rw [upd_ne n2]
  unfold del
  rw [if_neg n1, upd_ne n2, upd_ne n1, upd_ne n2, upd_ne n1]
  exact e
theorem log_small {i : Int} (i0 : 0 ≤ i) (i1 : i < 10 ^ 10) : i.natAbs.log2 < 1920 := by
  have h1 : i.natAbs < 2 ^ 34 := by omega
  have h2 := Nat.log2_lt (n := i.natAbs) (k := 34)
  by_cases c : i.natAbs = 0
  · rw [c]; decide
  · exact Nat.lt_trans ((h2 c).mpr h1) (by decide)
section
variable {P : Program} {w : World} {K : PySem.W.Frag} {mg : Str → Option Value} {base : Heap}
theorem ok_InvalidText_init (T : Txt K mg) : FnOk P w K mg base (L2.CX P w) 1 T.a_InvalidText_init T.fd_InvalidText_init ["self", "line", "word"] (sp_einit2 K T.c_InvalidText) := by
  refine T.F_InvalidText_init.okX sc_InvalidText_init (fun vs H Q E h => ?_) (fun cdv A outer s H vs Q E hr h => ?_)
  · obtain ⟨a, i, j, rfl, _⟩ := h
    rfl
  · obtain ⟨a, i, j, rfl, i0, i1, j0, j1, ea, k⟩ := h
    refine ⟨_, (PSs.nox (pss_cons (ps_expr (pe_tveinit (by rfl) T.m_TallyError T.rd_TallyError T.fv_TallyError T.sg_TallyError (pa_cons (pv 0) (pa_cons (pe_joined (.cons pe_str (.cons (pe_fmtN (pv 1)) (.cons pe_str (.cons (pe_fmtN (pv 2)) .nil))))) pa_nil))))
  (pss_cons (ps_ost (pv 0) (pv 1))
  (pss_one (ps_ost (pv 0) (pv 2)))))), ?_⟩
    walk_at "begin"
    walk_at "go"
    refine k_vei ?_
    walk_at "go"
    have l0 : (Str.empty ++ (Str.ofString "line ")).length = 5 := by decide +kernel
    have ti := PyProof.Rows.toString_length_le (k := 10) i0 (by decide) i1
    have tj := PyProof.Rows.toString_length_le (k := 10) j0 (by decide) j1
    refine ⟨_, rfl, by rw [l0]; decide, ?_⟩
    show tFmtN _ _ _ _
    refine k_fmtN ?_
    walk_at "go"
    refine .inr ⟨i, rfl, log_small i0 i1, _, rfl, ?_, ?_⟩
    · rw [strLen_append, l0]
      exact Nat.le_trans (Nat.add_le_add_left ti 5) (by decide)
    simp only [tJs]
    walk_at "go"
    have l2 : (Str.ofString ", word ").length = 7 := by decide +kernel
    have li : (Str.ofString (toString i)).length ≤ 10 := ti
    have lj : (Str.ofString (toString j)).length ≤ 10 := tj
    refine ⟨_, rfl, ?_, ?_⟩
    · rw [strLen_append, strLen_append, l0, l2]
      exact Nat.le_trans (show 5 + (Str.ofString (toString i)).length + 7 ≤ 100 by omega) (by decide)
    refine k_fmtN ?_
    walk_at "go"
    refine .inr ⟨j, rfl, log_small j0 j1, _, rfl, ?_, ?_⟩
    · rw [strLen_append, strLen_append, strLen_append, l0, l2]
      exact Nat.le_trans (show 5 + (Str.ofString (toString i)).length + 7 + (Str.ofString (toString j)).length ≤ 100 by omega) (by decide)
    walk_at "go"
    refine ⟨a, T.c_InvalidText, _, rfl, by show 1 ≤ 1000; decide, T.o_InvalidText, ea, ?_⟩
    refine k_seq ?_
    refine k_ost ?_
    walk_at "go"
    refine ⟨a, T.c_InvalidText, rfl, T.o_InvalidText, T.no_InvalidText_line, .inl ⟨ea, fun dx hd ne => ?_⟩⟩
    dsimp only
    refine k_ost ?_
    walk_at "go"
    refine ⟨a, T.c_InvalidText, rfl, T.o_InvalidText, T.no_InvalidText_word, .inr ⟨dx, [("line", .int i)], upd_same, by rw [upd_ne ne]; exact upd_same, by show 1 ≤ 900; decide, ?_⟩⟩
    exact k dx hd ne
end
/-! ### a reader of a line with nothing in it -/
def lrF (i : Int) (l : Addr) : List (Str × V) := [("_place", .int i), ("_words", .ref l), ("_taken", .int 0)]
/-- a line with no word, none taken -/
def Lr0 (C : Addr) (H : Hp) (p l : Addr) (i : Int) : Prop := ∃ dx, H p = some (.ins C dx (lrF i l)) ∧ H l = some (.lst [])
theorem Lr0.same {C : Addr} {H H' : Hp} {p l : Addr} {i : Int} (h : Lr0 C H p l i) (z : Same H H') : Lr0 C H' p l i := let ⟨dx, e1, e2⟩ := h; ⟨dx, z _ _ e1, z _ _ e2⟩
def sp_lr0 (C : Addr) : Sp := fun vs H Q _ => ∃ (p dx : Addr) (i : Int), vs = [.ref p, .int i, .str ""] ∧ H p = some (.ins C dx []) ∧ ∀ l H', Keep p H H' → H l = none → Lr0 C H' p l i → Q .non H'
def sp_over0 (C : Addr) : Sp := fun vs H Q _ => ∃ (p l : Addr) (i : Int), vs = [.ref p] ∧ Lr0 C H p l i ∧ Q (.bl true) H
def sp_fail0 (C B : Addr) (ps : Addr → V → List V) : Sp := fun vs H _ E => ∃ (p l : Addr) (v : V) (i : Int), vs = ps p v ∧ Lr0 C H p l i ∧ 0 ≤ i ∧ i < 10 ^ 10 ∧ ∀ d H', Same H H' → H' d = some (.xd [("word", .int 1), ("line", .int i)]) → E (.ref B) (some d) H'
def sp_read0 (B : Addr) : Sp := fun vs H _ E => vs = [.str ""] ∧ ∀ d H', Same H H' → H' d = some (.xd [("word", .int 1), ("line", .int 1)]) → E (.ref B) (some d) H'
section
variable {P : Program} {w : World} {K : PySem.W.Frag} {mg : Str → Option Value} {base : Heap}
theorem ok_LineReader_init (T : Txt K mg) : FnOk P w K mg base (L2.CX P w) 1 T.a_LineReader_init T.fd_LineReader_init ["self", "place", "words"] (sp_lr0 T.c_LineReader) := by
  refine T.F_LineReader_init.okX sc_LineReader_init (fun vs H Q E h => ?_) (fun cdv A outer s H vs Q E hr h => ?_)
  · obtain ⟨p, dx, i, rfl, _⟩ := h
    rfl
  · obtain ⟨p, dx, i, rfl, hp, k⟩ := h
    refine ⟨_, (PSs.nox (pss_cons (ps_fld (pv 0) (pv 1) rfl)
  (pss_cons (ps_fld (pv 0) (pe_lc (own := [("word", 3)]) (g := (gName 3)) rfl sc_LineReader_init.nd (pi_list (pe_split (pv 2) pe_str)) (blkOk_by (own := [("word", 3)]) (N := ["self", "place", "words", "word"]) (sc := defScope s_LineReader_init) (by decide +kernel)) (fun _ _ _ _ _ => (pg_name (i := 3) sc_LineReader_init.nd rfl (Or.inl rfl))) (fun _ _ _ _ _ => (pts_one (pt_cmpR op_ne (pv 3) pe_str (nomark _)))) (fun _ _ _ _ _ => (pv 3))) rfl)
  (pss_one (ps_fld (pv 0) pe_int rfl))))), ?_⟩
    walk_at "begin"
    walk_at "go"
    refine ⟨_, rfl, _, rfl, p, _, dx, _, rfl, hp, T.cl_LineReader, T.n__place, (by decide : 0 < 1000), ?_⟩
    walk_at "go"
    refine k_lc ?_
    walk_at "go"
    have k1 : Keep p H (upd H p (.ins T.c_LineReader dx (putF "_place" (.int i) []))) := Keep.at_
    have p1 : (upd H p (.ins T.c_LineReader dx (putF "_place" (.int i) []))) p = some (.ins T.c_LineReader dx (putF "_place" (.int i) [])) := upd_same
    generalize upd H p (.ins T.c_LineReader dx (putF "_place" (.int i) [])) = H1 at k1 p1
    refine ⟨_, rfl, ⟨_, rfl⟩, "", " ", rfl, rfl, rfl, by decide, fun q hq => ?_⟩
    have e0 : (Txt.split "" " ").map V.str = [V.str ""] := by decide +kernel
    rw [e0]
    have zq := Same.new (o := .lst [V.str ""]) hq
    have eq := upd_same (H := H1) (a := q) (o := .lst [V.str ""])
    generalize upd H1 q (.lst [V.str ""]) = H2 at zq eq
    refine ⟨q, rfl, ⟨_, SqL.of eq⟩, fun B hB => ?_⟩
    refine lc_list (xs := [V.str ""]) (fun i H' => Same H2 H' ∧ H' B = some (.lst [])) ⟨Same.new hB, upd_same⟩ (fun i H' _ ⟨z, _⟩ => SqL.of (z _ _ eq)) ?_ ?_
    · rintro i y H3 hy ⟨z3, e3⟩
      have : y = V.str "" := by
        cases i with
        | zero => exact (Option.some.inj hy).symm
        | succ i => cases hy
      subst this
      walk_at "go"
      refine ⟨rfl, ?_⟩
      walk_at "go"
      exact ⟨z3, e3⟩
    · rintro H3 ⟨z3, e3⟩
      have p3 := z3 _ _ (zq _ _ p1)
      have nBp : B ≠ p := fun z => by rw [z, zq _ _ p1] at hB; cases hB
      refine ⟨_, rfl, p, _, dx, _, rfl, p3, T.cl_LineReader, T.n__words, few 1 (by decide) (length_putF _ _ _), ?_⟩
      walk_at "go"
      refine ⟨_, rfl, p, _, dx, _, rfl, upd_same, T.cl_LineReader, T.n__taken, few 2 (by decide) (Nat.le_trans (length_putF _ _ _) (Nat.succ_le_succ (length_putF _ _ _))), ?_⟩
      have hB1 : H1 B = none := free_of zq hB
      refine k B _ ((k1.trans (Keep.of_same (zq.trans z3))).trans (Keep.at_.trans Keep.at_)) (k1.free nBp hB1) ⟨dx, upd_same, ?_⟩
      rw [upd_ne nBp, upd_ne nBp]
      exact e3
theorem ok_LineReader_is_over (T : Txt K mg) : FnOk P w K mg base (L2.CX P w) 1 T.a_LineReader_is_over T.fd_LineReader_is_over ["self"] (sp_over0 T.c_LineReader) := by
  refine T.F_LineReader_is_over.okX sc_LineReader_is_over (fun vs H Q E h => ?_) (fun cdv A outer s H vs Q E hr h => ?_)
  · obtain ⟨p, l, i, rfl, _⟩ := h
    rfl
  · obtain ⟨p, l, i, rfl, ⟨dx, e1, e2⟩, k⟩ := h
    refine ⟨_, (PSs.nox (pss_one (ps_ret (pe_cmpR op_eq (pe_fld (pv 0) rfl) (pe_callB call_len_seq (by rfl) T.z_len PySem.boot_len (pa_cons (pe_fld (pv 0) rfl) pa_nil)) (nomark _))))), ?_⟩
    walk_at "begin"
    walk_at "go"
    refine ⟨p, T.c_LineReader, dx, _, .int 0, rfl, e1, T.cl_LineReader, T.n__taken, rfl, ?_⟩
    walk_at "go"
    refine ⟨p, T.c_LineReader, dx, _, .ref l, rfl, e1, T.cl_LineReader, T.n__words, rfl, ?_⟩
    walk_at "go"
    refine ⟨l, [], rfl, .inl (SqL.of e2), ?_⟩
    walk_at "go"
    exact k
theorem ok_LineReader_fail_bad (T : Txt K mg) : FnOk P w K mg base (L2.CX P w) 3 T.a_LineReader_fail T.fd_LineReader_fail ["self"] (sp_fail0 T.c_LineReader T.c_InvalidText fun p _ => [.ref p]) := by
  refine T.F_LineReader_fail.okX sc_LineReader_fail (fun vs H Q E h => ?_) (fun cdv A outer s H vs Q E hr h => ?_)
  · obtain ⟨p, l, v, i, rfl, _⟩ := h
    rfl
  · obtain ⟨p, l, v, i, rfl, ⟨dx, e1, e2⟩, i0, i1, k⟩ := h
    refine ⟨_, (pss_one (ps_raise rfl (takes_of rfl rfl rfl rfl) (pmk_oex T.o_InvalidText T.ie_InvalidText T.ti_InvalidText (ok_InvalidText_init T) (hr.mono (by decide)) T.b_InvalidText_init .nil passL (by rfl) T.m_InvalidText (pa_cons (pe_fld (pv 0) rfl) (pa_cons (pe_op op_add (pe_fld (pv 0) rfl) pe_int) pa_nil))))), ?_⟩
    walk_at "begin"
    walk_at "go"
    refine k_mkO ?_
    walk_at "go"
    refine ⟨p, T.c_LineReader, dx, _, .int i, rfl, e1, T.cl_LineReader, T.n__place, rfl, ?_⟩
    walk_at "go"
    refine ⟨p, T.c_LineReader, dx, _, .int 0, rfl, e1, T.cl_LineReader, T.n__taken, rfl, ?_⟩
    walk_at "go"
    refine ⟨(by decide : 2 ≤ 1000), fun a ha => ⟨a, i, 1, rfl, i0, i1, by decide, by decide, upd_same, fun dy hd ne => ?_⟩⟩
    have hd' : H dy = none := by rw [upd_ne ne] at hd; exact hd
    exact ⟨rfl, dy, _, by rw [upd_ne ne.symm]; exact upd_same, upd_same, hd', k _ _ (exc_same2 ha hd') upd_same⟩
theorem ok_LineReader_take_bad (T : Txt K mg) : FnOk P w K mg base (L2.CX P w) 5 T.a_LineReader_take T.fd_LineReader_take ["self", "words"] (sp_fail0 T.c_LineReader T.c_InvalidText fun p v => [.ref p, v]) := by
  refine T.F_LineReader_take.okX sc_LineReader_take (fun vs H Q E h => ?_) (fun cdv A outer s H vs Q E hr h => ?_)
  · obtain ⟨p, l, v, i, rfl, _⟩ := h
    rfl
  · obtain ⟨p, l, v, i, rfl, hl, i0, i1, k⟩ := h
    obtain ⟨dx, e1, e2⟩ := id hl
    refine ⟨_, (pss_cons (ps_if (PW.pt (pw_or (pt_truth (pe_meth0 (pv 0) T.cl_LineReader T.h_LineReader_is_over (ok_LineReader_is_over T) (hr.mono (by decide)) T.b_LineReader_is_over .nil passL) (fun _ => rfl)) (pw_or1 (pt_cmpR op_notIn_seq (pe_ix ix_list (pe_fld (pv 0) rfl) (pe_fld (pv 0) rfl) (fun _ _ => rfl)) (pv 1) (by rfl)))))
  (pss_one (ps_expr (pe_methX0 (pv 0) T.cl_LineReader T.h_LineReader_fail (ok_LineReader_fail_bad T) (hr.mono (by decide)) T.b_LineReader_fail (fun σ => passAt (takes_of rfl rfl rfl rfl) σ))))
  pss_nil)
  pss_any), ?_⟩
    walk_at "begin"
    walk_at "go"
    refine k_meth ?_
    walk_at "go"
    refine ⟨p, dx, _, rfl, e1, rfl, ?_⟩
    walk_at "go"
    refine ⟨p, l, i, rfl, hl, ?_⟩
    refine ⟨true, rfl, ?_⟩
    refine iteT ?_
    refine iteT ?_
    refine k_drop ?_
    refine k_methX ?_
    walk_at "go"
    refine ⟨p, dx, _, rfl, e1, rfl, ?_⟩
    refine k_nil ?_
    exact ⟨p, l, .non, i, rfl, hl, i0, i1, k⟩
theorem ok_read_stands_bad (T : Txt K mg) : FnOk P w K mg base (L2.CX P w) 6 T.a_read_stands T.fd_read_stands ["line"] (sp_fail0 T.c_LineReader T.c_InvalidText fun p _ => [.ref p]) := by
  refine T.F_read_stands.okX sc_read_stands (fun vs H Q E h => ?_) (fun cdv A outer s H vs Q E hr h => ?_)
  · obtain ⟨p, l, v, i, rfl, _⟩ := h
    rfl
  · obtain ⟨p, l, v, i, rfl, hl, i0, i1, k⟩ := h
    obtain ⟨dx, e1, e2⟩ := id hl
    refine ⟨_, (pss_cons (ps_expr (pe_methX (pv 0) T.cl_LineReader T.h_LineReader_take (ok_LineReader_take_bad T) (hr.mono (by decide)) T.b_LineReader_take (fun σ => passAt (takes_of rfl rfl rfl rfl) σ) (pa_cons (pe_tup (pa_cons pe_str pa_nil)) pa_nil)))
  pss_any), ?_⟩
    walk_at "begin"
    walk_at "go"
    refine k_methX ?_
    walk_at "go"
    refine ⟨p, dx, _, rfl, e1, rfl, ?_⟩
    walk_at "go"
    refine ⟨(by decide : 1 ≤ sizeLine), fun q hq => ?_⟩
    refine k_nil ?_
    have zq := Same.new (o := .tup [.str "stands"]) hq
    exact ⟨p, l, .ref q, i, rfl, hl.same zq, i0, i1, fun d H' z => k d H' (zq.trans z)⟩
theorem ok_read_bad (T : Txt K mg) : FnOk P w K mg base (L2.CX P w) 8 T.a_read T.fd_read ["text"] (sp_read0 T.c_InvalidText) := by
  refine T.F_read.okX sc_read (fun vs H Q E h => ?_) (fun cdv A outer s H vs Q E hr h => ?_)
  · obtain ⟨rfl, _⟩ := h
    rfl
  · obtain ⟨rfl, k⟩ := h
    refine ⟨_, (pss_cons (ps_setLc (i := 1) (own := [("index", 8), ("words", 9)]) (g := (gTup K 2 (gCons (gName 8) (gCons (gName 9) gNil)))) (tt := tYes) rfl sc_read.nd rfl rfl (sw_true rfl rfl rfl (by decide +kernel)) (pi_enum (by rfl) T.z_enumerate (pa_cons (pe_split (pv 0) pe_str) pa_nil)) (blkOk_by (own := [("index", 8), ("words", 9)]) (N := ["text", "lines", "stands", "ends", "steps", "ahead", "line", "step", "index", "words"]) (sc := defScope s_read) (by decide +kernel)) (fun _ _ _ _ _ => (pg_tup rfl (pgs_cons (pg_name (i := 8) sc_read.nd rfl (Or.inl rfl)) (pgs_cons (pg_name (i := 9) sc_read.nd rfl (Or.inl rfl)) pgs_nil)))) (fun _ _ _ _ _ => pts_nil) (fun _ _ _ _ _ => (pe_make T.mk_LineReader (ok_LineReader_init T) (hr.mono (by decide)) (by rfl) T.m_LineReader T.b_LineReader_init .nil passL (pa_cons (pe_op op_add (pv 8) pe_int) (pa_cons (pv 9) pa_nil)))))
  (pss_cons (ps_if (pt_cmpR op_eq (pe_callB call_len_seq (by rfl) T.z_len PySem.boot_len (pa_cons (pv 1) pa_nil)) pe_int (nomark _))
  (pss_one (ps_expr (pe_bm PySem.F.plainAttrs_list PySem.F.slot_list_append PySem.F.type_list_append mt_append (pv 1) (pa_cons (pe_make T.mk_LineReader (ok_LineReader_init T) (hr.mono (by decide)) (by rfl) T.m_LineReader T.b_LineReader_init .nil passL (pa_cons pe_int (pa_cons pe_str pa_nil))) pa_nil))))
  pss_nil)
  (pss_cons (ps_set (i := 2) sc_read.nd rfl (Or.inl rfl) (pe_callS (ok_read_stands_bad T) (hr.mono (by decide)) (by rfl) T.m_read_stands T.k_read_stands T.b_read_stands (fun σ => passAt (takes_of rfl rfl rfl rfl) σ) (pa_cons (pe_ix ix_list (pv 1) pe_int (fun _ _ => rfl)) pa_nil)))
  pss_any))), ?_⟩
    walk_at "begin"
    walk_at "go"
    refine ⟨_, rfl, ⟨_, rfl⟩, "", "\n", rfl, rfl, rfl, by decide, fun q hq => ?_⟩
    have e0 : (Txt.split "" "\n").map V.str = [V.str ""] := by decide +kernel
    rw [e0]
    have zq := Same.new (o := .lst [V.str ""]) hq
    have eq := upd_same (H := H) (a := q) (o := .lst [V.str ""])
    generalize upd H q (.lst [V.str ""]) = H2 at zq eq
    refine k_nil ?_
    refine ⟨q, [V.str ""], rfl, SqL.of eq, fun B hB => ?_⟩
    refine lc_it walk_enum (fun i H' => Same H2 H' ∧ ∃ us, H' B = some (.lst us) ∧ ((i = 0 → us = []) ∧ (i = 1 → ∃ p l, us = [.ref p] ∧ l ≠ B ∧ Lr0 T.c_LineReader H' p l 1))) ⟨Same.new hB, [], upd_same, (fun _ => rfl), (fun h => by cases h)⟩ (fun i H' _ ⟨z, _⟩ => SqL.of (z _ _ eq)) ?_ ?_
    · rintro i y H3 H3' hi ⟨z3, us, e3, h3⟩ ⟨pt, a, b, rfl, hpt, rfl, ea, eb⟩
      have i0 : i = 0 := by
        have : i < 1 := hi
        omega
      subst i0
      cases ea
      cases eb
      obtain rfl : us = [] := h3.1 rfl
      have zt := Same.new (o := .tup [.int 0, .str ""]) hpt
      have ept := upd_same (H := H3) (a := pt) (o := .tup [.int 0, .str ""])
      refine k_gt (SqT.of upd_same) rfl ?_
      walk_at "go"
      refine ⟨rfl, ?_⟩
      walk_at "go"
      refine iteT ?_
      walk_at "go"
      intro p dx hp hdx ne
      generalize upd H3 pt (.tup [.int ((0 : Nat) : Int), .str (Str.ofString "")]) = H5 at zt hp hdx
      have e5 := zt _ _ e3
      have zn : Same H5 (upd (upd H5 dx (.own p)) p (.ins T.c_LineReader dx [])) := (Same.new hdx).trans (Same.new (by rw [upd_ne ne.symm]; exact hp))
      refine ⟨p, dx, 1, rfl, upd_same, fun l H4 k4 hl hr0 => ⟨rfl, ?_⟩⟩
      have z4 : Same H5 H4 := fun b ob e => k4 b ob (ne_of_none e hp) (zn _ _ e)
      have nl : l ≠ B := (ne_of_none (zn _ _ e5) hl).symm
      obtain ⟨dx', e1, e2⟩ := hr0
      have n1 : p ≠ B := (ne_of_none e5 hp).symm
      exact ⟨[], z4 _ _ e5, by decide, Same.mut (z3.trans (zt.trans z4)) hB, _, upd_same, (fun h => by cases h), fun _ => ⟨p, l, rfl, nl, dx', by rw [upd_ne n1]; exact e1, by rw [upd_ne nl]; exact e2⟩⟩
    · rintro H3 ⟨z3, us, e3, h3⟩
      obtain ⟨p1, l1, rfl, nl1, hl1⟩ : ∃ p l, us = [.ref p] ∧ l ≠ B ∧ Lr0 T.c_LineReader H3 p l 1 := h3.2 rfl
      walk_at "go"
      refine ⟨B, _, rfl, .inl (SqL.of e3), ?_⟩
      walk_at "go"
      refine iteT ?_
      walk_at "go"
      refine ⟨.inl ⟨rfl, _, SqL.of e3⟩, ?_⟩
      walk_at "go"
      intro p2 dx2 hp2 hdx2 ne2
      have zn : Same H3 (upd (upd H3 dx2 (.own p2)) p2 (.ins T.c_LineReader dx2 [])) := (Same.new hdx2).trans (Same.new (by rw [upd_ne ne2.symm]; exact hp2))
      refine ⟨p2, dx2, 2, rfl, upd_same, fun l2 H4 k4 hl2 _ => ⟨rfl, ?_⟩⟩
      have z4 : Same H3 H4 := fun b ob e => k4 b ob (ne_of_none e hp2) (zn _ _ e)
      refine k_nil ?_
      refine k_append (z4 _ _ e3) (by show 1 < sizeLine; decide) ?_
      walk_at "go"
      refine k_callS ?_
      walk_at "go"
      have hl4 := hl1.same z4
      have n1 : p1 ≠ B := fun z => by
        obtain ⟨dx, e, _⟩ := hl4
        rw [z, z4 _ _ e3] at e
        cases e
      have zB : Same H (upd H4 B (.lst ([.ref p1] ++ [.ref p2]))) := Same.mut (zq.trans (z3.trans z4)) (free_of zq hB)
      obtain ⟨dx, e1, e2⟩ := hl4
      refine ⟨p1, l1, .non, 1, rfl, ⟨dx, by rw [upd_ne n1]; exact e1, by rw [upd_ne nl1]; exact e2⟩, by decide, by decide, fun d H' z e => k d H' (zB.trans z) e⟩
end
/-! ### a stand that is none -/
def BadV (K : PySem.W.Frag) (H : Hp) (n : Nat) (v : V) : Prop := (∃ i : Int, v = .int i ∧ ¬ (0 ≤ i ∧ i < (n : Nat))) ∨ NotInt K H v
def sp_bad2 (K : PySem.W.Frag) (C B : Addr) : Sp := fun vs H _ E => ∃ (x : Addr) (v : V) (m : MD), vs = [.ref x, v] ∧ MAt K C H x m ∧ BadV K H m.n v ∧ E (.ref B) none H
def sp_bad3 (K : PySem.W.Frag) (C B : Addr) : Sp := fun vs H _ E => ∃ (x : Addr) (v u : V) (m : MD), vs = [.ref x, v, u] ∧ MAt K C H x m ∧ BadV K H m.n v ∧ E (.ref B) none H
section
variable {P : Program} {w : World} {K : PySem.W.Frag} {mg : Str → Option Value} {base : Heap}
theorem ok_check_stand_bad (T : Txt K mg) : FnOk P w K mg base (L2.CX P w) 4 T.a_check_stand T.fd_check_stand ["machine", "value"] (sp_bad2 K T.c_Machine T.c_BadStand) := by
  refine T.F_check_stand.okX sc_check_stand (fun vs H Q E h => ?_) (fun cdv A outer s H vs Q E hr h => ?_)
  · obtain ⟨x, v, m, rfl, _⟩ := h
    rfl
  · obtain ⟨x, v, m, rfl, ⟨dx, t, u, hx, _⟩, bad, k⟩ := h
    refine ⟨_, (pss_one (ps_if (pt_not (pt_val (pe_call (ok_is_stand T) (hr.mono (by decide)) (by rfl) T.m_is_stand T.k_is_stand T.b_is_stand .nil passL (pa_cons (pe_prop (pv 0) T.cl_Machine T.p_stands (ok_Machine_stands T) (hr.mono (by decide)) T.b_Machine_stands .nil passL rfl) (pa_cons (pv 1) pa_nil)))))
  (pss_one (ps_raise rfl (takes_of rfl rfl rfl rfl) (pmk_own PySem.F.excBase_ValueError T.x_BadStand T.m_BadStand T.k_BadStand (raises_own T.b_BadStand T.t_BadStand) (by exact rfl))))
  pss_nil)), ?_⟩
    walk_at "begin"
    walk_at "go"
    refine ⟨x, dx, _, rfl, hx, x, dx, _, .int (m.n : Nat), rfl, hx, rfl, ?_⟩
    walk_at "go"
    refine ⟨_, _, rfl, ?_⟩
    rcases bad with ⟨i, rfl, hi⟩ | bad
    · refine .inl ⟨i, rfl, ?_⟩
      rw [decide_eq_false hi]
      walk_at "go"
      refine iteT ?_
      walk_at "go"
      exact k
    · refine .inr ⟨bad, ?_⟩
      walk_at "go"
      refine iteT ?_
      walk_at "go"
      exact k
end
/-! ### calls that are refused at once -/
theorem sub_ty {K : PySem.W.Frag} {n : String} {C : Addr} (h : (fastFind? n).isSome = true) : PySem.W.subIn K (.type n) (.ref C) = some false := by
  unfold PySem.W.subIn fastBuiltinMro
  cases e : fastFind? n with
  | none => rw [e] at h; cases h
  | some x =>
    show Option.map (fun l => List.contains l (Value.ref C)) (Option.map (fun x => x.mro.map Value.type) (fastFind? n)) = some false
    rw [e]
    show some ((x.mro.map Value.type).contains (.ref C)) = some false
    congr 1
    rw [List.contains_eq_any_beq, List.any_eq_false]
    intro y hy
    obtain ⟨z, _, rfl⟩ := List.mem_map.mp hy
    simp
theorem kit_not {K : PySem.W.Frag} {mg : Str → Option Value} (T : Txt K mg) {n : String} (h : (fastFind? n).isSome = true) : PySem.W.kitOne K (.type n) (.ref T.c_Machine) = some false := by
  have hc : (PySem.W.clsIn K T.c_Machine).isSome = true := T.j1_Machine
  unfold PySem.W.kitOne PySem.W.kitCls
  rw [if_neg (by simp)]
  simp only [hc, T.j2_Machine, beq_self_eq_true, Bool.and_self, if_true]
  exact sub_ty h
def sp_chm (C B : Addr) : Sp := fun vs H Q E => (∃ x dx fs, vs = [.ref x] ∧ H x = some (.ins C dx fs) ∧ Q .non H) ∨ ∃ i : Int, vs = [.int i] ∧ E (.ref B) none H
def sp_one (B : Addr) : Sp := fun vs H _ E => vs = [.int 0] ∧ E (.ref B) none H
def sp_bhd (K : PySem.W.Frag) (C B : Addr) : Sp := fun vs H _ E => ∃ (x : Addr) (m : MD) (z : Str), vs = [.ref x, .str z] ∧ MAt K C H x m ∧ m.Ok ∧ z.cps.size ≤ 1000 ∧ runW m (0, 0) z.cps.toList = none ∧ ∀ H', Same H H' → E (.ref B) none H'
def sp_tal13 (C B : Addr) : Sp := fun vs H _ E => ∃ (x dx : Addr) (fs : List (Str × V)), vs = [.ref x, .int 13] ∧ H x = some (.ins C dx fs) ∧ ∀ d H', Same H H' → H' d = some (.xd [("n", .int 13)]) → E (.ref B) (some d) H'
def sp_st10 (C B : Addr) : Sp := fun vs H _ E => ∃ (x dx : Addr) (fs : List (Str × V)), vs = [.ref x, .int 1, .int 0] ∧ H x = some (.ins C dx fs) ∧ E (.ref B) none H
def sp_mnd1 (K : PySem.W.Frag) (C B : Addr) : Sp := fun vs H _ E => ∃ (x t : Addr) (m : MD), vs = [.ref x, .ref t] ∧ MAt K C H x m ∧ m.Ok ∧ m.ss.length ≤ 1 ∧ SqT K H t [.int 1] ∧ E (.ref B) none H
def sp_mnds (K : PySem.W.Frag) (C B : Addr) : Sp := fun vs H _ E => ∃ (x : Addr) (m : MD), vs = [.ref x] ∧ MAt K C H x m ∧ m.Ok ∧ 12 < m.ss.length ∧ ∀ d H', Same H H' → H' d = some (.xd [("most", .int 12)]) → E (.ref B) (some d) H'
section
variable {P : Program} {w : World} {K : PySem.W.Frag} {mg : Str → Option Value} {base : Heap}
theorem ok_check_machine_bad (T : Txt K mg) : FnOk P w K mg base (L2.CX P w) 1 T.a_check_machine T.fd_check_machine ["value"] (sp_chm T.c_Machine T.c_BadMachine) := by
  refine T.F_check_machine.okX sc_check_machine (fun vs H Q E h => ?_) (fun cdv A outer s H vs Q E hr h => ?_)
  · rcases h with ⟨x, dx, fs, rfl, _⟩ | ⟨i, rfl, _⟩ <;> rfl
  · rcases h with ⟨x, dx, fs, rfl, hx, k⟩ | ⟨i, rfl, k⟩
    · refine ⟨_, (pss_one (ps_if (pt_not (pt_val (pe_callB call_isi (by rfl) T.z_isinstance (by decide +kernel) (pa_cons (pv 0) (pa_cons (pe_glob (v := .ref T.c_Machine) (by rfl) T.m_Machine rfl) pa_nil)))))
  (pss_one (ps_raise rfl (takes_of rfl rfl rfl rfl) (pmk_own PySem.F.excBase_ValueError T.x_BadMachine T.m_BadMachine T.k_BadMachine (raises_own T.b_BadMachine T.t_BadMachine) (by exact rfl))))
  pss_nil)), ?_⟩
      walk_at "begin"
      walk_at "go"
      refine k_isi (.own _) (ty_Machine T hx) kit_self ?_
      walk_at "go"
      refine iteF ?_
      walk_at "go"
      exact k
    · refine ⟨_, (pss_one (ps_if (pt_not (pt_val (pe_callB call_isi (by rfl) T.z_isinstance (by decide +kernel) (pa_cons (pv 0) (pa_cons (pe_glob (v := .ref T.c_Machine) (by rfl) T.m_Machine rfl) pa_nil)))))
  (pss_one (ps_raise rfl (takes_of rfl rfl rfl rfl) (pmk_own PySem.F.excBase_ValueError T.x_BadMachine T.m_BadMachine T.k_BadMachine (raises_own T.b_BadMachine T.t_BadMachine) (by exact rfl))))
  pss_nil)), ?_⟩
      walk_at "begin"
      walk_at "go"
      refine k_isi (.own _) (.base (.int i)) (kit_not T (n := "int") (by decide +kernel)) ?_
      walk_at "go"
      refine iteT ?_
      walk_at "go"
      exact k
theorem ok_reached_bad (T : Txt K mg) : FnOk P w K mg base (L2.CX P w) 3 T.a_reached T.fd_reached ["machine"] (sp_one T.c_BadMachine) := by
  refine T.F_reached.okX sc_reached (fun vs H Q E h => ?_) (fun cdv A outer s H vs Q E hr h => ?_)
  · obtain ⟨rfl, _⟩ := h
    rfl
  · obtain ⟨rfl, k⟩ := h
    refine ⟨_, (pss_cons (ps_expr (pe_callS (ok_check_machine_bad T) (hr.mono (by decide)) (by rfl) T.m_check_machine T.k_check_machine T.b_check_machine (fun σ => passAt (takes_of rfl rfl rfl rfl) σ) (pa_cons (pv 0) pa_nil)))
  pss_any), ?_⟩
    walk_at "begin"
    walk_at "go"
    refine k_callS ?_
    walk_at "go"
    exact .inr ⟨0, rfl, k⟩
theorem ok_tally_at_bad (T : Txt K mg) : FnOk P w K mg base (L2.CX P w) 6 T.a_tally_at T.fd_tally_at ["machine", "stand", "sign"] (sp_bad3 K T.c_Machine T.c_BadStand) := by
  refine T.F_tally_at.okX sc_tally_at (fun vs H Q E h => ?_) (fun cdv A outer s H vs Q E hr h => ?_)
  · obtain ⟨x, v, u, m, rfl, _⟩ := h
    rfl
  · obtain ⟨x, v, u, m, rfl, hm, bad, k⟩ := h
    obtain ⟨dx, t, u', hx, _⟩ := id hm
    refine ⟨_, (pss_cons (ps_expr (pe_callS (ok_check_machine_bad T) (hr.mono (by decide)) (by rfl) T.m_check_machine T.k_check_machine T.b_check_machine (fun σ => passAt (takes_of rfl rfl rfl rfl) σ) (pa_cons (pv 0) pa_nil)))
  (pss_cons (ps_expr (pe_callS (ok_check_stand_bad T) (hr.mono (by decide)) (by rfl) T.m_check_stand T.k_check_stand T.b_check_stand (fun σ => passAt (takes_of rfl rfl rfl rfl) σ) (pa_cons (pv 0) (pa_cons (pv 1) pa_nil))))
  pss_any)), ?_⟩
    walk_at "begin"
    walk_at "go"
    refine k_callS ?_
    walk_at "go"
    refine .inl ⟨x, dx, _, rfl, hx, ?_⟩
    walk_at "go"
    refine k_callS ?_
    walk_at "go"
    exact ⟨x, v, m, rfl, hm, bad, k⟩
theorem ok_greatest_at_bad (T : Txt K mg) : FnOk P w K mg base (L2.CX P w) 7 T.a_greatest_at T.fd_greatest_at ["machine", "stand"] (sp_bad2 K T.c_Machine T.c_BadStand) := by
  refine T.F_greatest_at.okX sc_greatest_at (fun vs H Q E h => ?_) (fun cdv A outer s H vs Q E hr h => ?_)
  · obtain ⟨x, v, m, rfl, _⟩ := h
    rfl
  · obtain ⟨x, v, m, rfl, hm, bad, k⟩ := h
    refine ⟨_, (pss_cons (ps_ret (pe_callS (ok_tally_at_bad T) (hr.mono (by decide)) (by rfl) T.m_tally_at T.k_tally_at T.b_tally_at (fun σ => passAt (takes_of rfl rfl rfl rfl) σ) (pa_cons (pv 0) (pa_cons (pv 1) (pa_cons pe_int pa_nil)))))
  pss_any), ?_⟩
    walk_at "begin"
    walk_at "go"
    refine k_callS ?_
    walk_at "go"
    exact ⟨x, v, _, m, rfl, hm, bad, k⟩
theorem ok_behind_bad (T : Txt K mg) : FnOk P w K mg base (L2.CX P w) 6 T.a_behind T.fd_behind ["machine", "row"] (sp_bhd K T.c_Machine T.c_BadRow) := by
  refine T.F_behind.okX sc_behind (fun vs H Q E h => ?_) (fun cdv A outer s H vs Q E hr h => ?_)
  · obtain ⟨x, m, z, rfl, _⟩ := h
    rfl
  · obtain ⟨x, m, z, rfl, hm, o, hz, hr0, k⟩ := h
    obtain ⟨dx, t, u', hx, _⟩ := id hm
    refine ⟨_, (pss_cons (ps_expr (pe_callS (ok_check_machine_bad T) (hr.mono (by decide)) (by rfl) T.m_check_machine T.k_check_machine T.b_check_machine (fun σ => passAt (takes_of rfl rfl rfl rfl) σ) (pa_cons (pv 0) pa_nil)))
  (pss_cons (ps_set (i := 2) sc_behind.nd rfl (Or.inl rfl) (pe_call (ok_way T) (hr.mono (by decide)) (by rfl) T.m_way T.k_way T.b_way .nil passL (pa_cons (pv 0) (pa_cons pe_int (pa_cons (pv 1) pa_nil)))))
  (pss_cons (ps_if (pt_cmp (pc_isN (pv 2)))
  (pss_one (ps_raise rfl (takes_of rfl rfl rfl rfl) (pmk_own PySem.F.excBase_ValueError T.x_BadRow T.m_BadRow T.k_BadRow (raises_own T.b_BadRow T.t_BadRow) (by exact rfl))))
  pss_nil)
  pss_any))), ?_⟩
    walk_at "begin"
    walk_at "go"
    refine k_callS ?_
    walk_at "go"
    refine .inl ⟨x, dx, _, rfl, hx, ?_⟩
    walk_at "go"
    refine ⟨x, 0, _, m, rfl, hm, o, .inr ⟨z, rfl, hz, fun _ H' s => ?_, fun n t e => by rw [show ((0 : Nat), (0 : Int)) = (0, 0) from rfl, hr0] at e; cases e⟩⟩
    walk_at "go"
    refine k_yes (by rfl) ?_
    walk_at "go"
    exact k _ s
theorem ok_tallies_bad (T : Txt K mg) : FnOk P w K mg base (L2.CX P w) 5 T.a_tallies T.fd_tallies ["machine", "length"] (sp_tal13 T.c_Machine T.c_BadNumber) := by
  refine T.F_tallies.okX sc_tallies (fun vs H Q E h => ?_) (fun cdv A outer s H vs Q E hr h => ?_)
  · obtain ⟨x, dx, fs, rfl, _⟩ := h
    rfl
  · obtain ⟨x, dx, fs, rfl, hx, k⟩ := h
    refine ⟨_, (pss_cons (ps_expr (pe_callS (ok_check_machine_bad T) (hr.mono (by decide)) (by rfl) T.m_check_machine T.k_check_machine T.b_check_machine (fun σ => passAt (takes_of rfl rfl rfl rfl) σ) (pa_cons (pv 0) pa_nil)))
  (pss_cons (ps_expr (pe_callS (ok_check_number_bad T) (hr.mono (by decide)) (by rfl) T.m_check_number T.k_check_number T.b_check_number (fun σ => passAt (takes_of rfl rfl rfl rfl) σ) (pa_cons (pv 1) (pa_cons pe_int (pa_cons (pe_glob (by rfl) T.m_MOST_LENGTH T.r_MOST_LENGTH) pa_nil)))))
  pss_any)), ?_⟩
    walk_at "begin"
    walk_at "go"
    refine k_callS ?_
    walk_at "go"
    refine .inl ⟨x, dx, _, rfl, hx, ?_⟩
    walk_at "go"
    refine k_callS ?_
    walk_at "go"
    exact ⟨_, 0, 12, rfl, .inr ⟨.inl ⟨13, rfl, by decide⟩, k⟩⟩
theorem ok_stays_bad (T : Txt K mg) : FnOk P w K mg base (L2.CX P w) 5 T.a_stays T.fd_stays ["machine", "low", "high"] (sp_st10 T.c_Machine T.c_BadBounds) := by
  refine T.F_stays.okX sc_stays (fun vs H Q E h => ?_) (fun cdv A outer s H vs Q E hr h => ?_)
  · obtain ⟨x, dx, fs, rfl, _⟩ := h
    rfl
  · obtain ⟨x, dx, fs, rfl, hx, k⟩ := h
    refine ⟨_, (pss_cons (ps_expr (pe_callS (ok_check_machine_bad T) (hr.mono (by decide)) (by rfl) T.m_check_machine T.k_check_machine T.b_check_machine (fun σ => passAt (takes_of rfl rfl rfl rfl) σ) (pa_cons (pv 0) pa_nil)))
  (pss_cons (ps_expr (pe_callS (ok_check_bounds_bad T) (hr.mono (by decide)) (by rfl) T.m_check_bounds T.k_check_bounds T.b_check_bounds (fun σ => passAt (takes_of rfl rfl rfl rfl) σ) (pa_cons (pv 1) (pa_cons (pv 2) (pa_cons (pe_glob (by rfl) T.m_MOST_NUMBER T.r_MOST_NUMBER) pa_nil)))))
  pss_any)), ?_⟩
    walk_at "begin"
    walk_at "go"
    refine k_callS ?_
    walk_at "go"
    refine .inl ⟨x, dx, _, rfl, hx, ?_⟩
    walk_at "go"
    refine k_callS ?_
    walk_at "go"
    exact ⟨_, _, _, rfl, .inr ⟨.inr ⟨1, rfl, by decide, by decide, .inl ⟨0, rfl, by decide⟩⟩, k⟩⟩
theorem ok_mended_bad (T : Txt K mg) : FnOk P w K mg base (L2.CX P w) 6 T.a_mended T.fd_mended ["machine", "some"] (sp_mnd1 K T.c_Machine T.c_BadSet) := by
  refine T.F_mended.okX sc_mended (fun vs H Q E h => ?_) (fun cdv A outer s H vs Q E hr h => ?_)
  · obtain ⟨x, t, m, rfl, _⟩ := h
    rfl
  · obtain ⟨x, t', m, rfl, hm, o, hl, ht, k⟩ := h
    obtain ⟨dx, t, u, hx, hp0⟩ := id hm
    refine ⟨_, (pss_cons (ps_expr (pe_callS (ok_check_machine_bad T) (hr.mono (by decide)) (by rfl) T.m_check_machine T.k_check_machine T.b_check_machine (fun σ => passAt (takes_of rfl rfl rfl rfl) σ) (pa_cons (pv 0) pa_nil)))
  (pss_cons (ps_expr (pe_callS (ok_check_steps_mends_bad T) (hr.mono (by decide)) (by rfl) T.m_check_steps_mends T.k_check_steps_mends T.b_check_steps_mends (fun σ => passAt (takes_of rfl rfl rfl rfl) σ) (pa_cons (pv 0) pa_nil)))
  (pss_cons (ps_if (pt_not (pt_val (pe_call (ok_is_ascending T) (hr.mono (by decide)) (by rfl) T.m_is_ascending T.k_is_ascending T.b_is_ascending .nil passL (pa_cons (pv 1) (pa_cons (pe_callB call_len_seq (by rfl) T.z_len PySem.boot_len (pa_cons (pe_prop (pv 0) T.cl_Machine T.p_steps (ok_Machine_steps T) (hr.mono (by decide)) T.b_Machine_steps .nil passL rfl) pa_nil)) pa_nil)))))
  (pss_one (ps_raise rfl (takes_of rfl rfl rfl rfl) (pmk_own PySem.F.excBase_ValueError T.x_BadSet T.m_BadSet T.k_BadSet (raises_own T.b_BadSet T.t_BadSet) (by exact rfl))))
  pss_nil)
  pss_any))), ?_⟩
    walk_at "begin"
    walk_at "go"
    refine k_callS ?_
    walk_at "go"
    refine .inl ⟨x, dx, _, rfl, hx, ?_⟩
    walk_at "go"
    refine k_callS ?_
    walk_at "go"
    refine ⟨x, m, rfl, hm, o, .inl ⟨by omega, ?_⟩⟩
    walk_at "go"
    refine ⟨x, dx, _, rfl, hx, x, dx, _, .ref t, rfl, hx, rfl, ?_⟩
    walk_at "go"
    obtain ⟨us, hs, hu⟩ := id hp0.1
    have e : us.length = m.ss.length := hu.1
    refine ⟨t, us, rfl, .inr hs, ?_⟩
    walk_at "go"
    refine ⟨_, _, rfl, .inr ⟨t', _, rfl, ht, fun y hy => .inl ⟨1, by simpa using hy⟩, ?_⟩⟩
    have e2 : ascV (us.length : Nat) 0 [.int 1] = false := by
      show (decide ((0 : Int) ≤ 1 ∧ (1 : Int) ≤ ((us.length : Nat) : Int) - 1) && true) = false
      rw [decide_eq_false (by omega)]
      rfl
    rw [e2]
    walk_at "go"
    refine iteT ?_
    walk_at "go"
    exact k
theorem ok_mends_bad (T : Txt K mg) : FnOk P w K mg base (L2.CX P w) 6 T.a_mends T.fd_mends ["machine"] (sp_mnds K T.c_Machine T.c_TooMany) := by
  refine T.F_mends.okX sc_mends (fun vs H Q E h => ?_) (fun cdv A outer s H vs Q E hr h => ?_)
  · obtain ⟨x, m, rfl, _⟩ := h
    rfl
  · obtain ⟨x, m, rfl, hm, o, hl, k⟩ := h
    obtain ⟨dx, t, u, hx, hp0⟩ := id hm
    refine ⟨_, (pss_cons (ps_expr (pe_callS (ok_check_machine_bad T) (hr.mono (by decide)) (by rfl) T.m_check_machine T.k_check_machine T.b_check_machine (fun σ => passAt (takes_of rfl rfl rfl rfl) σ) (pa_cons (pv 0) pa_nil)))
  (pss_cons (ps_expr (pe_callS (ok_check_steps_mends_bad T) (hr.mono (by decide)) (by rfl) T.m_check_steps_mends T.k_check_steps_mends T.b_check_steps_mends (fun σ => passAt (takes_of rfl rfl rfl rfl) σ) (pa_cons (pv 0) pa_nil)))
  pss_any)), ?_⟩
    walk_at "begin"
    walk_at "go"
    refine k_callS ?_
    walk_at "go"
    refine .inl ⟨x, dx, _, rfl, hx, ?_⟩
    walk_at "go"
    refine k_callS ?_
    walk_at "go"
    exact ⟨x, m, rfl, hm, o, .inr ⟨hl, k⟩⟩
end
/-! ### the law's calls -/
def md1 : MD := ⟨1, [⟨0, 97, 0, 1⟩], [0]⟩
theorem md1_ok : md1.Ok := ⟨by decide, by decide, fun s hs => by rw [List.mem_singleton.mp hs]; exact ⟨by decide, by decide, by decide, by decide, by decide, by decide⟩, .cons (fun _ h => nomatch h) .nil, by decide, fun e he => by rw [List.mem_singleton.mp he]; decide, .cons (fun _ h => nomatch h) .nil, by decide⟩
theorem make_fin {K : PySem.W.Frag} {C : Addr} {H : Hp} {x dx t u : Addr} {m : MD} {Q : Hp → Prop} {E : XK} (hx : H x = none) (hdx : H dx = none) (ne : dx ≠ x) (hp : PartsAt K H t u m) (o : m.Ok) (k : ∀ H', Same H H' → MAt K C H' x m → Q H') :
    sp_init K C [.ref x, .int (m.n : Nat), .ref t, .ref u] (upd (upd H dx (.own x)) x (.ins C dx [])) (fun v H2 => v = .non ∧ Q H2) E := by
  have z3 : Same H (upd (upd H dx (.own x)) x (.ins C dx [])) := (Same.new hdx).trans (Same.new (by rw [upd_ne ne.symm]; exact hx))
  refine ⟨x, dx, t, u, m, rfl, upd_same, (same_tups z3).parts hp, o, fun H4 k4 e4 => ⟨rfl, ?_⟩⟩
  have z4 : Same H H4 := fun b ob e => k4 b ob (ne_of_none e hx) (z3 _ _ e)
  exact k H4 z4 ⟨dx, t, u, e4, (same_tups z4).parts hp⟩
/-- the law's steps, more than twelve -/
def st16 (i : Nat) : Stp := ⟨i / 4, 97 + i % 4, 0, 0⟩
def md16 : MD := ⟨4, (List.range 16).map st16, []⟩
theorem md16_ok : md16.Ok := ⟨by decide, by decide, fun s hs => by
    obtain ⟨i, hi, rfl⟩ := List.mem_map.mp hs
    have := List.mem_range.mp hi
    exact ⟨show i / 4 < 4 by omega, show 97 ≤ 97 + i % 4 by omega, show 97 + i % 4 ≤ 100 by omega, show 0 < 4 by decide, (by show -(10 ^ 30) ≤ (0 : Int); decide), (by show (0 : Int) ≤ 10 ^ 30; decide)⟩,
  List.pairwise_map.mpr (List.pairwise_lt_range.imp fun {i j} h => by
    show i / 4 < j / 4 ∨ (i / 4 = j / 4 ∧ 97 + i % 4 < 97 + j % 4)
    omega), by decide, (fun e he => by cases he), .nil, by decide⟩
def clsK {K : PySem.W.Frag} {mg : Str → Option Value} (T : Txt K mg) : Nat → Addr
  | 0 => T.c_BadStands
  | 1 => T.c_BadSteps
  | 2 => T.c_BadEnds
  | 3 => T.c_BadMachine
  | 4 => T.c_BadStand
  | 5 => T.c_BadRow
  | 6 => T.c_BadLetter
  | 7 => T.c_BadNumber
  | 8 => T.c_BadBounds
  | 9 => T.c_BadSet
  | 10 => T.c_TooMany
  | _ => T.c_InvalidText
def sp_told (f : Nat → Nat) : Sp := fun vs H Q _ => ∃ k : Nat, vs = [.int (k : Nat)] ∧ k ≤ 11 ∧ ∀ H', Same H H' → Q (.int (f k : Nat)) H'
def sp_law (K : PySem.W.Frag) : Sp := fun vs H Q _ => ∃ (sc : Addr) (ns : List Int), vs = [.ref sc] ∧ ScAt K H sc (ns.map V.int) ∧ ns.length ≤ 63 ∧ ∀ H', Q (.bl true) H'
def sp_lcall {K : PySem.W.Frag} {mg : Str → Option Value} (T : Txt K mg) : Sp := fun vs H _ E => ∃ k : Nat, vs = [.int (k : Nat)] ∧ k ≤ 11 ∧ ∀ d H', Same H H' → E (.ref (clsK T k)) d H'
section
variable {P : Program} {w : World} {K : PySem.W.Frag} {mg : Str → Option Value} {base : Heap}
theorem ok_law_call_bad (T : Txt K mg) : FnOk P w K mg base (L2.CX P w) 12 T.a_law_call T.fd_law_call ["_law_kind"] (sp_lcall T) := by
  refine T.F_law_call.okX sc_law_call (fun vs H Q E h => ?_) (fun cdv A outer s H vs Q E hr h => ?_)
  · obtain ⟨k, rfl, _⟩ := h
    rfl
  · obtain ⟨n, rfl, hn, k⟩ := h
    refine ⟨_, (pss_cons (ps_set (i := 1) sc_law_call.nd rfl (Or.inl rfl) (pe_make T.mk_Machine (ok_Machine_init T) (hr.mono (by decide)) (by rfl) T.m_Machine T.b_Machine_init .nil passL (pa_cons pe_int (pa_cons (pe_tup (pa_cons (pe_tup (pa_cons pe_int (pa_cons pe_str (pa_cons pe_int (pa_cons pe_int pa_nil))))) pa_nil)) (pa_cons (pe_tup (pa_cons pe_int pa_nil)) pa_nil)))))
  (pss_one (ps_if (pt_cmpR op_eq (pv 0) pe_int (nomark _))
  (pss_one (ps_expr (pe_makeS T.mk_Machine (ok_Machine_init_bad T) (hr.mono (by decide)) (by rfl) T.m_Machine T.b_Machine_init (fun σ => passAt (takes_of rfl rfl rfl rfl) σ) (pa_cons pe_int (pa_cons (pe_tup pa_nil) (pa_cons (pe_tup pa_nil) pa_nil))))))
  (pss_one (ps_if (pt_cmpR op_eq (pv 0) pe_int (nomark _))
  (pss_one (ps_expr (pe_makeS T.mk_Machine (ok_Machine_init_bad T) (hr.mono (by decide)) (by rfl) T.m_Machine T.b_Machine_init (fun σ => passAt (takes_of rfl rfl rfl rfl) σ) (pa_cons pe_int (pa_cons (pe_tup (pa_cons pe_int pa_nil)) (pa_cons (pe_tup pa_nil) pa_nil))))))
  (pss_one (ps_if (pt_cmpR op_eq (pv 0) pe_int (nomark _))
  (pss_one (ps_expr (pe_makeS T.mk_Machine (ok_Machine_init_bad T) (hr.mono (by decide)) (by rfl) T.m_Machine T.b_Machine_init (fun σ => passAt (takes_of rfl rfl rfl rfl) σ) (pa_cons pe_int (pa_cons (pe_tup pa_nil) (pa_cons (pe_tup (pa_cons pe_int pa_nil)) pa_nil))))))
  (pss_one (ps_if (pt_cmpR op_eq (pv 0) pe_int (nomark _))
  (pss_one (ps_expr (pe_callS (ok_reached_bad T) (hr.mono (by decide)) (by rfl) T.m_reached T.k_reached T.b_reached (fun σ => passAt (takes_of rfl rfl rfl rfl) σ) (pa_cons pe_int pa_nil))))
  (pss_one (ps_if (pt_cmpR op_eq (pv 0) pe_int (nomark _))
  (pss_one (ps_expr (pe_callS (ok_greatest_at_bad T) (hr.mono (by decide)) (by rfl) T.m_greatest_at T.k_greatest_at T.b_greatest_at (fun σ => passAt (takes_of rfl rfl rfl rfl) σ) (pa_cons (pv 1) (pa_cons pe_int pa_nil)))))
  (pss_one (ps_if (pt_cmpR op_eq (pv 0) pe_int (nomark _))
  (pss_one (ps_expr (pe_callS (ok_behind_bad T) (hr.mono (by decide)) (by rfl) T.m_behind T.k_behind T.b_behind (fun σ => passAt (takes_of rfl rfl rfl rfl) σ) (pa_cons (pv 1) (pa_cons pe_str pa_nil)))))
  (pss_one (ps_if (pt_cmpR op_eq (pv 0) pe_int (nomark _))
  (pss_one (ps_expr (pe_methX (pe_make T.mk_Meter (ok_Meter_init T) (hr.mono (by decide)) (by rfl) T.m_Meter T.b_Meter_init .nil passL (pa_cons (pv 1) pa_nil)) T.cl_Meter T.h_Meter_read (ok_Meter_read_bad T) (hr.mono (by decide)) T.b_Meter_read (fun σ => passAt (takes_of rfl rfl rfl rfl) σ) (pa_cons pe_str pa_nil))))
  (pss_one (ps_if (pt_cmpR op_eq (pv 0) pe_int (nomark _))
  (pss_one (ps_expr (pe_callS (ok_tallies_bad T) (hr.mono (by decide)) (by rfl) T.m_tallies T.k_tallies T.b_tallies (fun σ => passAt (takes_of rfl rfl rfl rfl) σ) (pa_cons (pv 1) (pa_cons pe_int pa_nil)))))
  (pss_one (ps_if (pt_cmpR op_eq (pv 0) pe_int (nomark _))
  (pss_one (ps_expr (pe_callS (ok_stays_bad T) (hr.mono (by decide)) (by rfl) T.m_stays T.k_stays T.b_stays (fun σ => passAt (takes_of rfl rfl rfl rfl) σ) (pa_cons (pv 1) (pa_cons pe_int (pa_cons pe_int pa_nil))))))
  (pss_one (ps_if (pt_cmpR op_eq (pv 0) pe_int (nomark _))
  (pss_one (ps_expr (pe_callS (ok_mended_bad T) (hr.mono (by decide)) (by rfl) T.m_mended T.k_mended T.b_mended (fun σ => passAt (takes_of rfl rfl rfl rfl) σ) (pa_cons (pv 1) (pa_cons (pe_tup (pa_cons pe_int pa_nil)) pa_nil)))))
  (pss_one (ps_if (pt_cmpR op_eq (pv 0) pe_int (nomark _))
  (pss_cons (ps_setLc (i := 2) (own := [("_law_stand", 3)]) (g := (gName 3)) (tt := tYes) rfl sc_law_call.nd rfl rfl (sw_true rfl rfl rfl (by decide +kernel)) (pi_range1 (by rfl) T.z_range (pa_cons pe_int pa_nil)) (blkOk_by (own := [("_law_stand", 3)]) (N := ["_law_kind", "_law_machine", "_law_steps", "_law_stand"]) (sc := defScope s_law_call) (by decide +kernel)) (fun _ _ _ _ _ => (pg_name (i := 3) sc_law_call.nd rfl (Or.inl rfl))) (fun _ _ _ _ _ => pts_nil) (fun _ _ _ _ _ => (pe_tup (pa_cons (pe_op op_fdivW (pv 3) pe_int) (pa_cons (pe_ix ix_str pe_str (pe_op op_mod (pv 3) pe_int) (fun _ _ => rfl)) (pa_cons pe_int (pa_cons pe_int pa_nil)))))))
  (pss_one (ps_expr (pe_callS (ok_mends_bad T) (hr.mono (by decide)) (by rfl) T.m_mends T.k_mends T.b_mends (fun σ => passAt (takes_of rfl rfl rfl rfl) σ) (pa_cons (pe_make T.mk_Machine (ok_Machine_init T) (hr.mono (by decide)) (by rfl) T.m_Machine T.b_Machine_init .nil passL (pa_cons pe_int (pa_cons (pe_callTy call_tuple_of (by rfl) T.z_tuple PySem.Pv.boot_tuple (pa_cons (pv 2) pa_nil)) (pa_cons (pe_tup pa_nil) pa_nil)))) pa_nil)))))
  (pss_one (ps_expr (pe_callS (ok_read_bad T) (hr.mono (by decide)) (by rfl) T.m_read T.k_read T.b_read (fun σ => passAt (takes_of rfl rfl rfl rfl) σ) (pa_cons pe_str pa_nil))))))))))))))))))))))))))), ?_⟩
    walk_at "begin"
    walk_at "go"
    refine ⟨(by decide : 4 ≤ sizeLine), fun q hq => ?_⟩
    walk_at "go"
    refine ⟨(by decide : 1 ≤ sizeLine), fun t ht => ?_⟩
    walk_at "go"
    refine ⟨(by decide : 1 ≤ sizeLine), fun u hu => ?_⟩
    have h1 := (Same.new (o := .tup [.int 0]) hu) _ _ ((Same.new (o := .tup [.ref q]) ht) _ _ (upd_same (H := H) (a := q) (o := .tup [.int 0, .str "a", .int 0, .int 1])))
    have h2 := (Same.new (o := .tup [.int 0]) hu) _ _ (upd_same (H := upd H q (.tup [.int 0, .str "a", .int 0, .int 1])) (a := t) (o := .tup [.ref q]))
    have h3 := upd_same (H := upd (upd H q (.tup [.int 0, .str "a", .int 0, .int 1])) t (.tup [.ref q])) (a := u) (o := .tup [.int 0])
    have z1 := ((Same.new (o := .tup [.int 0, .str "a", .int 0, .int 1]) hq).trans (Same.new (o := .tup [.ref q]) ht)).trans (Same.new (o := .tup [.int 0]) hu)
    generalize upd (upd (upd H q (.tup [.int 0, .str "a", .int 0, .int 1])) t (.tup [.ref q])) u (.tup [.int 0]) = H1 at h1 h2 h3 z1
    have hp : PartsAt K H1 t u md1 := ⟨⟨[.ref q], SqT.of h2, rfl, fun i s e => by
      cases i with
      | zero => cases e; exact ⟨q, rfl, SqT.of h1⟩
      | succ i => cases e⟩, SqT.of h3⟩
    clear h1 h2 h3 hq ht hu
    refine k_nil ?_
    intro x dx hx hdx ne
    refine make_fin (m := md1) hx hdx ne hp md1_ok fun H2 z2 hm => ?_
    replace z2 := z1.trans z2
    clear hp hx hdx ne z1
    obtain ⟨dm, tm, um, em, hpm⟩ := id hm
    have hk : n = 0 ∨ n = 1 ∨ n = 2 ∨ n = 3 ∨ n = 4 ∨ n = 5 ∨ n = 6 ∨ n = 7 ∨ n = 8 ∨ n = 9 ∨ n = 10 ∨ n = 11 := by omega
    rcases hk with rfl | rfl | rfl | rfl | rfl | rfl | rfl | rfl | rfl | rfl | rfl | rfl
    · walk_at "go"
      refine k_yes (by rfl) ?_
      walk_at "go"
      refine k_makeS ?_
      walk_at "go"
      refine ⟨(by decide : 0 ≤ sizeLine), fun t1 ht => ?_⟩
      walk_at "go"
      refine ⟨(by decide : 0 ≤ sizeLine), fun u1 hu => ?_⟩
      refine k_nil ?_
      intro y dy hy hdy ney
      have zu := (Same.new (o := .tup []) ht).trans (Same.new (o := .tup []) hu)
      generalize upd (upd H2 t1 (.tup [])) u1 (.tup []) = H3 at zu hy hdy
      have zn : Same H3 (upd (upd H3 dy (.own y)) y (.ins T.c_Machine dy [])) := (Same.new hdy).trans (Same.new (by rw [upd_ne ney.symm]; exact hy))
      exact ⟨y, .int 0, .ref t1, .ref u1, rfl, .inl ⟨.inl ⟨0, rfl, by decide⟩, k _ _ (z2.trans (zu.trans zn))⟩⟩
    · iterate 1 (walk_at "go"; refine k_no (by rfl) ?_)
      walk_at "go"
      refine k_yes (by rfl) ?_
      walk_at "go"
      refine k_makeS ?_
      walk_at "go"
      refine ⟨(by decide : 1 ≤ sizeLine), fun t1 ht => ?_⟩
      walk_at "go"
      refine ⟨(by decide : 0 ≤ sizeLine), fun u1 hu => ?_⟩
      refine k_nil ?_
      intro y dy hy hdy ney
      have e1 := (Same.new (o := .tup []) hu) _ _ (upd_same (H := H2) (a := t1) (o := .tup [.int 0]))
      have zu := (Same.new (o := .tup [.int 0]) ht).trans (Same.new (o := .tup []) hu)
      generalize upd (upd H2 t1 (.tup [.int 0])) u1 (.tup []) = H3 at e1 hy hdy zu
      have zn : Same H3 (upd (upd H3 dy (.own y)) y (.ins T.c_Machine dy [])) := (Same.new hdy).trans (Same.new (by rw [upd_ne ney.symm]; exact hy))
      exact ⟨y, .int 1, .ref t1, .ref u1, rfl, .inr (.inl ⟨1, .int 0, rfl, by decide, by decide, .inr ⟨t1, [.int 0], [], .int 0, rfl, SqT.of (zn _ _ e1), rfl, by show 1 < 1000; decide, rfl, (fun i s e => by cases e), (fun s h => by cases h), .nil,
        .inl fun H' _ => .inl ⟨_, .base (.int 0), kit_ty (b := "tuple") (r := false) (by decide +kernel)⟩⟩, fun _ _ z _ => k _ _ (z2.trans (zu.trans (zn.trans z)))⟩)⟩
    · iterate 2 (walk_at "go"; refine k_no (by rfl) ?_)
      walk_at "go"
      refine k_yes (by rfl) ?_
      walk_at "go"
      refine k_makeS ?_
      walk_at "go"
      refine ⟨(by decide : 0 ≤ sizeLine), fun t1 ht => ?_⟩
      walk_at "go"
      refine ⟨(by decide : 1 ≤ sizeLine), fun u1 hu => ?_⟩
      refine k_nil ?_
      intro y dy hy hdy ney
      have e1 := (Same.new (o := .tup [.int 1]) hu) _ _ (upd_same (H := H2) (a := t1) (o := .tup []))
      have e2 := upd_same (H := upd H2 t1 (.tup [])) (a := u1) (o := .tup [.int 1])
      have zu := (Same.new (o := .tup []) ht).trans (Same.new (o := .tup [.int 1]) hu)
      generalize upd (upd H2 t1 (.tup [])) u1 (.tup [.int 1]) = H3 at e1 e2 hy hdy zu
      have zn : Same H3 (upd (upd H3 dy (.own y)) y (.ins T.c_Machine dy [])) := (Same.new hdy).trans (Same.new (by rw [upd_ne ney.symm]; exact hy))
      refine ⟨y, .int 1, .ref t1, .ref u1, rfl, .inr (.inr ⟨⟨1, [], []⟩, t1, [], rfl, rfl, ⟨by decide, by decide, (fun s h => by cases h), .nil, by decide, (fun e h => by cases h), .nil, by decide⟩, SqT.of (zn _ _ e1), ⟨rfl, fun i s e => by cases e⟩, fun H' z => .inr ⟨u1, [.int 1], rfl, SqT.of (z _ _ (zn _ _ e2)), fun v hv => .inl ⟨1, by simpa using hv⟩, by rfl⟩, fun _ z => k _ _ (z2.trans (zu.trans (zn.trans z)))⟩)⟩
    · iterate 3 (walk_at "go"; refine k_no (by rfl) ?_)
      walk_at "go"
      refine k_yes (by rfl) ?_
      walk_at "go"
      refine k_callS ?_
      walk_at "go"
      exact ⟨rfl, k _ _ z2⟩
    · iterate 4 (walk_at "go"; refine k_no (by rfl) ?_)
      walk_at "go"
      refine k_yes (by rfl) ?_
      walk_at "go"
      refine k_callS ?_
      walk_at "go"
      exact ⟨x, _, md1, rfl, hm, .inl ⟨1, rfl, by decide⟩, k _ _ z2⟩
    · iterate 5 (walk_at "go"; refine k_no (by rfl) ?_)
      walk_at "go"
      refine k_yes (by rfl) ?_
      walk_at "go"
      refine k_callS ?_
      walk_at "go"
      exact ⟨x, md1, _, rfl, hm, md1_ok, by decide, by rfl, fun _ z => k _ _ (z2.trans z)⟩
    · iterate 6 (walk_at "go"; refine k_no (by rfl) ?_)
      walk_at "go"
      refine k_yes (by rfl) ?_
      walk_at "go"
      refine k_methX ?_
      walk_at "go"
      intro y dy hy hdy ney
      have zn : Same H2 (upd (upd H2 dy (.own y)) y (.ins T.c_Meter dy [])) := (Same.new hdy).trans (Same.new (by rw [upd_ne ney.symm]; exact hy))
      refine ⟨y, dy, x, md1, rfl, upd_same, hm.same zn, md1_ok, fun L H3 k3 nL hmt => ⟨rfl, ?_⟩⟩
      have zq : Same H2 H3 := fun b ob e => k3 b ob (ne_of_none e hy) (zn _ _ e)
      obtain ⟨dx1, x1, D1, us1, kvs1, ep1, _⟩ := id hmt
      refine ⟨y, dx1, _, rfl, ep1, rfl, ?_⟩
      walk_at "go"
      refine ⟨y, L, md1, [], .str "b", 0, 0, rfl, hmt, md1_ok, by decide, rfl, .inr (.inl ⟨"b", rfl, fun c e => ?_, fun H' z => k _ _ (z2.trans (zq.trans z))⟩)⟩
      have e2 : (⟨#[98]⟩ : Str) = ⟨#[c]⟩ := e
      injection e2 with e2
      have e3 := congrArg Array.toList e2
      obtain rfl : 98 = c := by simpa using e3
      rfl
    · iterate 7 (walk_at "go"; refine k_no (by rfl) ?_)
      walk_at "go"
      refine k_yes (by rfl) ?_
      walk_at "go"
      refine k_callS ?_
      walk_at "go"
      exact ⟨x, _, _, rfl, em, fun _ _ z _ => k _ _ (z2.trans z)⟩
    · iterate 8 (walk_at "go"; refine k_no (by rfl) ?_)
      walk_at "go"
      refine k_yes (by rfl) ?_
      walk_at "go"
      refine k_callS ?_
      walk_at "go"
      exact ⟨x, _, _, rfl, em, k _ _ z2⟩
    · iterate 9 (walk_at "go"; refine k_no (by rfl) ?_)
      walk_at "go"
      refine k_yes (by rfl) ?_
      walk_at "go"
      refine k_callS ?_
      walk_at "go"
      refine ⟨(by decide : 1 ≤ sizeLine), fun q hq => ?_⟩
      walk_at "go"
      exact ⟨x, q, md1, rfl, hm.same (Same.new hq), md1_ok, by decide, SqT.of upd_same, k _ _ (z2.trans (Same.new hq))⟩
    · iterate 10 (walk_at "go"; refine k_no (by rfl) ?_)
      walk_at "go"
      refine k_yes (by rfl) ?_
      walk_at "go"
      refine ⟨_, rfl, by decide, by decide, fun B hB => ?_⟩
      refine lc_range (lo := 0) (n := (16 : Int).toNat) (fun i H' => Same H2 H' ∧ ∃ us, H' B = some (.lst us) ∧ StpsAt K H' us ((List.range i).map st16)) ⟨Same.new hB, [], upd_same, rfl, fun i s e => by simp at e⟩ ?_ ?_
      · rintro i H3 hi ⟨z3, us, e3, hs⟩
        walk_at "go"
        refine ⟨rfl, ?_⟩
        walk_at "go"
        refine iteT ?_
        walk_at "go"
        have i16 : i < 16 := hi
        refine ⟨_, _, rfl, rfl, ⟨by decide, by decide⟩, ?_⟩
        walk_at "go"
        refine ⟨_, _, rfl, rfl, (by decide : (0 : Int) < 4), ?_⟩
        refine ⟨_, _, 97 + i % 4, rfl, rfl, by decide, ?_, ?_⟩
        · rw [show (0 + (i : Int)) % 4 = ((i % 4 : Nat) : Int) by omega]
          have : i % 4 = 0 ∨ i % 4 = 1 ∨ i % 4 = 2 ∨ i % 4 = 3 := by omega
          rcases this with h | h | h | h <;> rw [h] <;> rfl
        walk_at "go"
        refine ⟨(by decide : 4 ≤ sizeLine), fun pn hpn => ?_⟩
        dsimp only
        rw [show (0 + (i : Int)) / 4 = ((i / 4 : Nat) : Int) by omega]
        have z4 := Same.new (o := .tup [.int ((i / 4 : Nat) : Int), .str ⟨#[97 + i % 4]⟩, .int 0, .int 0]) hpn
        have e4 := upd_same (H := H3) (a := pn) (o := .tup [.int ((i / 4 : Nat) : Int), .str ⟨#[97 + i % 4]⟩, .int 0, .int 0])
        generalize upd H3 pn (.tup [.int ((i / 4 : Nat) : Int), .str ⟨#[97 + i % 4]⟩, .int 0, .int 0]) = H4 at z4 e4
        have ll : us.length ≤ 16 := by rw [hs.1, List.length_map, List.length_range]; omega
        refine ⟨us, z4 _ _ e3, Nat.lt_of_le_of_lt ll (by decide), Same.mut (z3.trans z4) hB, _, upd_same, ?_⟩
        rw [List.range_succ, List.map_append]
        exact (Tups.lst (z4 _ _ e3)).steps (((same_tups z4).steps hs).snoc (s := st16 i) (SqT.of e4))
      · rintro H3 ⟨z3, us, e3, hs⟩
        walk_at "go"
        refine k_callS ?_
        walk_at "go"
        refine ⟨B, us, rfl, .inl ⟨SqL.of e3, fun t1 ht1 => ?_⟩⟩
        walk_at "go"
        refine ⟨(by decide : 0 ≤ sizeLine), fun u1 hu => ?_⟩
        refine k_nil ?_
        intro y dy hy hdy ney
        have zz := (Same.new (o := .tup us) ht1).trans (Same.new (o := .tup []) hu)
        have e1 := (Same.new (o := .tup []) hu) _ _ (upd_same (H := H3) (a := t1) (o := .tup us))
        have e2 := upd_same (H := upd H3 t1 (.tup us)) (a := u1) (o := .tup [])
        generalize upd (upd H3 t1 (.tup us)) u1 (.tup []) = H4 at zz e1 e2 hy hdy
        refine make_fin (m := md16) hy hdy ney ⟨⟨us, SqT.of e1, (same_tups zz).steps hs⟩, SqT.of e2⟩ md16_ok fun H5 z5 hm5 => ?_
        refine k_nil ?_
        exact ⟨y, md16, rfl, hm5, md16_ok, by decide, fun _ _ z _ => k _ _ (z2.trans (z3.trans (zz.trans (z5.trans z))))⟩
    · iterate 11 (walk_at "go"; refine k_no (by rfl) ?_)
      walk_at "go"
      refine k_callS ?_
      walk_at "go"
      exact ⟨rfl, fun _ _ z _ => k _ _ (z2.trans z)⟩
theorem ok_law_first (T : Txt K mg) : FnOk P w K mg base (L2.CX P w) 13 T.a_law_first T.fd_law_first ["_law_kind"] (sp_told fun k => if k < 6 then k else 6) := by
  refine T.F_law_first.okX sc_law_first (fun vs H Q E h => ?_) (fun cdv A outer s H vs Q E hr h => ?_)
  · obtain ⟨k, rfl, _⟩ := h
    rfl
  · obtain ⟨n, rfl, hn, k⟩ := h
    refine ⟨_, (PSs.nox (pss_cons (ps_set (i := 1) sc_law_first.nd rfl (Or.inl rfl) (pe_lst pa_nil))
  (pss_cons (ps_try_manyA rfl rfl takes0 (fun W pn xe tk _ => (pss_one (ps_expr (pe_callS (ok_law_call_bad T) (hr.mono (by decide)) (by rfl) T.m_law_call T.k_law_call T.b_law_call (fun σ => passAt tk σ) (pa_cons (pv 0) pa_nil))))) (.cons ⟨rfl, by decide, .inl T.m_BadStands⟩ (fun a oe cls d pn hz hf => (pss_one (ps_set (i := 1) sc_law_first.nd rfl (Or.inl rfl) pe_int))) (.cons ⟨rfl, by decide, .inl T.m_BadSteps⟩ (fun a oe cls d pn hz hf => (pss_one (ps_set (i := 1) sc_law_first.nd rfl (Or.inl rfl) pe_int))) (.cons ⟨rfl, by decide, .inl T.m_BadEnds⟩ (fun a oe cls d pn hz hf => (pss_one (ps_set (i := 1) sc_law_first.nd rfl (Or.inl rfl) pe_int))) (.cons ⟨rfl, by decide, .inl T.m_BadMachine⟩ (fun a oe cls d pn hz hf => (pss_one (ps_set (i := 1) sc_law_first.nd rfl (Or.inl rfl) pe_int))) (.cons ⟨rfl, by decide, .inl T.m_BadStand⟩ (fun a oe cls d pn hz hf => (pss_one (ps_set (i := 1) sc_law_first.nd rfl (Or.inl rfl) pe_int))) (.cons ⟨rfl, by decide, .inl T.m_BadRow⟩ (fun a oe cls d pn hz hf => (pss_one (ps_set (i := 1) sc_law_first.nd rfl (Or.inl rfl) pe_int))) (.cons ⟨rfl, by decide, .inl T.m_TallyError⟩ (fun a oe cls d pn hz hf => (pss_one (ps_set (i := 1) sc_law_first.nd rfl (Or.inl rfl) pe_int))) .nil))))))))
  (pss_one (ps_ret (pv 1)))))), ?_⟩
    walk_at "begin"
    walk_at "go"
    refine ⟨(by decide : 0 ≤ sizeLine), fun q hq => ?_⟩
    walk_at "go"
    refine k_callS ?_
    walk_at "go"
    refine ⟨n, rfl, hn, fun d H' z => ?_⟩
    have zq := (Same.new (o := .lst []) hq).trans z
    have hk : n = 0 ∨ n = 1 ∨ n = 2 ∨ n = 3 ∨ n = 4 ∨ n = 5 ∨ n = 6 ∨ n = 7 ∨ n = 8 ∨ n = 9 ∨ n = 10 ∨ n = 11 := by omega
    rcases hk with rfl | rfl | rfl | rfl | rfl | rfl | rfl | rfl | rfl | rfl | rfl | rfl
    · exact ⟨true, T.e_BadStands, fun _ b hb => ⟨_, rfl, k _ zq⟩, fun q => nomatch q⟩
    · exact ⟨false, T.er_BadSteps_BadStands, (fun q => nomatch q), fun _ => ⟨true, T.e_BadSteps, fun _ b hb => ⟨_, rfl, k _ zq⟩, fun q => nomatch q⟩⟩
    · exact ⟨false, T.er_BadEnds_BadStands, (fun q => nomatch q), fun _ => ⟨false, T.er_BadEnds_BadSteps, (fun q => nomatch q), fun _ => ⟨true, T.e_BadEnds, fun _ b hb => ⟨_, rfl, k _ zq⟩, fun q => nomatch q⟩⟩⟩
    · exact ⟨false, T.er_BadMachine_BadStands, (fun q => nomatch q), fun _ => ⟨false, T.er_BadMachine_BadSteps, (fun q => nomatch q), fun _ => ⟨false, T.er_BadMachine_BadEnds, (fun q => nomatch q), fun _ => ⟨true, T.e_BadMachine, fun _ b hb => ⟨_, rfl, k _ zq⟩, fun q => nomatch q⟩⟩⟩⟩
    · exact ⟨false, T.er_BadStand_BadStands, (fun q => nomatch q), fun _ => ⟨false, T.er_BadStand_BadSteps, (fun q => nomatch q), fun _ => ⟨false, T.er_BadStand_BadEnds, (fun q => nomatch q), fun _ => ⟨false, T.er_BadStand_BadMachine, (fun q => nomatch q), fun _ => ⟨true, T.e_BadStand, fun _ b hb => ⟨_, rfl, k _ zq⟩, fun q => nomatch q⟩⟩⟩⟩⟩
    · exact ⟨false, T.er_BadRow_BadStands, (fun q => nomatch q), fun _ => ⟨false, T.er_BadRow_BadSteps, (fun q => nomatch q), fun _ => ⟨false, T.er_BadRow_BadEnds, (fun q => nomatch q), fun _ => ⟨false, T.er_BadRow_BadMachine, (fun q => nomatch q), fun _ => ⟨false, T.er_BadRow_BadStand, (fun q => nomatch q), fun _ => ⟨true, T.e_BadRow, fun _ b hb => ⟨_, rfl, k _ zq⟩, fun q => nomatch q⟩⟩⟩⟩⟩⟩
    · exact ⟨false, T.er_BadLetter_BadStands, (fun q => nomatch q), fun _ => ⟨false, T.er_BadLetter_BadSteps, (fun q => nomatch q), fun _ => ⟨false, T.er_BadLetter_BadEnds, (fun q => nomatch q), fun _ => ⟨false, T.er_BadLetter_BadMachine, (fun q => nomatch q), fun _ => ⟨false, T.er_BadLetter_BadStand, (fun q => nomatch q), fun _ => ⟨false, T.er_BadLetter_BadRow, (fun q => nomatch q), fun _ => ⟨true, T.er_BadLetter_TallyError, fun _ b hb => ⟨_, rfl, k _ zq⟩, fun q => nomatch q⟩⟩⟩⟩⟩⟩⟩
    · exact ⟨false, T.er_BadNumber_BadStands, (fun q => nomatch q), fun _ => ⟨false, T.er_BadNumber_BadSteps, (fun q => nomatch q), fun _ => ⟨false, T.er_BadNumber_BadEnds, (fun q => nomatch q), fun _ => ⟨false, T.er_BadNumber_BadMachine, (fun q => nomatch q), fun _ => ⟨false, T.er_BadNumber_BadStand, (fun q => nomatch q), fun _ => ⟨false, T.er_BadNumber_BadRow, (fun q => nomatch q), fun _ => ⟨true, T.er_BadNumber_TallyError, fun _ b hb => ⟨_, rfl, k _ zq⟩, fun q => nomatch q⟩⟩⟩⟩⟩⟩⟩
    · exact ⟨false, T.er_BadBounds_BadStands, (fun q => nomatch q), fun _ => ⟨false, T.er_BadBounds_BadSteps, (fun q => nomatch q), fun _ => ⟨false, T.er_BadBounds_BadEnds, (fun q => nomatch q), fun _ => ⟨false, T.er_BadBounds_BadMachine, (fun q => nomatch q), fun _ => ⟨false, T.er_BadBounds_BadStand, (fun q => nomatch q), fun _ => ⟨false, T.er_BadBounds_BadRow, (fun q => nomatch q), fun _ => ⟨true, T.er_BadBounds_TallyError, fun _ b hb => ⟨_, rfl, k _ zq⟩, fun q => nomatch q⟩⟩⟩⟩⟩⟩⟩
    · exact ⟨false, T.er_BadSet_BadStands, (fun q => nomatch q), fun _ => ⟨false, T.er_BadSet_BadSteps, (fun q => nomatch q), fun _ => ⟨false, T.er_BadSet_BadEnds, (fun q => nomatch q), fun _ => ⟨false, T.er_BadSet_BadMachine, (fun q => nomatch q), fun _ => ⟨false, T.er_BadSet_BadStand, (fun q => nomatch q), fun _ => ⟨false, T.er_BadSet_BadRow, (fun q => nomatch q), fun _ => ⟨true, T.er_BadSet_TallyError, fun _ b hb => ⟨_, rfl, k _ zq⟩, fun q => nomatch q⟩⟩⟩⟩⟩⟩⟩
    · exact ⟨false, T.er_TooMany_BadStands, (fun q => nomatch q), fun _ => ⟨false, T.er_TooMany_BadSteps, (fun q => nomatch q), fun _ => ⟨false, T.er_TooMany_BadEnds, (fun q => nomatch q), fun _ => ⟨false, T.er_TooMany_BadMachine, (fun q => nomatch q), fun _ => ⟨false, T.er_TooMany_BadStand, (fun q => nomatch q), fun _ => ⟨false, T.er_TooMany_BadRow, (fun q => nomatch q), fun _ => ⟨true, T.er_TooMany_TallyError, fun _ b hb => ⟨_, rfl, k _ zq⟩, fun q => nomatch q⟩⟩⟩⟩⟩⟩⟩
    · exact ⟨false, T.er_InvalidText_BadStands, (fun q => nomatch q), fun _ => ⟨false, T.er_InvalidText_BadSteps, (fun q => nomatch q), fun _ => ⟨false, T.er_InvalidText_BadEnds, (fun q => nomatch q), fun _ => ⟨false, T.er_InvalidText_BadMachine, (fun q => nomatch q), fun _ => ⟨false, T.er_InvalidText_BadStand, (fun q => nomatch q), fun _ => ⟨false, T.er_InvalidText_BadRow, (fun q => nomatch q), fun _ => ⟨true, T.er_InvalidText_TallyError, fun _ b hb => ⟨_, rfl, k _ zq⟩, fun q => nomatch q⟩⟩⟩⟩⟩⟩⟩
theorem ok_law_second (T : Txt K mg) : FnOk P w K mg base (L2.CX P w) 13 T.a_law_second T.fd_law_second ["_law_kind"] (sp_told fun k => if 5 < k then k else 0) := by
  refine T.F_law_second.okX sc_law_second (fun vs H Q E h => ?_) (fun cdv A outer s H vs Q E hr h => ?_)
  · obtain ⟨k, rfl, _⟩ := h
    rfl
  · obtain ⟨n, rfl, hn, k⟩ := h
    refine ⟨_, (PSs.nox (pss_cons (ps_set (i := 1) sc_law_second.nd rfl (Or.inl rfl) (pe_lst pa_nil))
  (pss_cons (ps_try_manyA rfl rfl takes0 (fun W pn xe tk _ => (pss_one (ps_expr (pe_callS (ok_law_call_bad T) (hr.mono (by decide)) (by rfl) T.m_law_call T.k_law_call T.b_law_call (fun σ => passAt tk σ) (pa_cons (pv 0) pa_nil))))) (.cons ⟨rfl, by decide, .inl T.m_BadLetter⟩ (fun a oe cls d pn hz hf => (pss_one (ps_set (i := 1) sc_law_second.nd rfl (Or.inl rfl) pe_int))) (.cons ⟨rfl, by decide, .inl T.m_BadNumber⟩ (fun a oe cls d pn hz hf => (pss_one (ps_set (i := 1) sc_law_second.nd rfl (Or.inl rfl) pe_int))) (.cons ⟨rfl, by decide, .inl T.m_BadBounds⟩ (fun a oe cls d pn hz hf => (pss_one (ps_set (i := 1) sc_law_second.nd rfl (Or.inl rfl) pe_int))) (.cons ⟨rfl, by decide, .inl T.m_BadSet⟩ (fun a oe cls d pn hz hf => (pss_one (ps_set (i := 1) sc_law_second.nd rfl (Or.inl rfl) pe_int))) (.cons ⟨rfl, by decide, .inl T.m_TooMany⟩ (fun a oe cls d pn hz hf => (pss_one (ps_set (i := 1) sc_law_second.nd rfl (Or.inl rfl) pe_int))) (.cons ⟨rfl, by decide, .inl T.m_InvalidText⟩ (fun a oe cls d pn hz hf => (pss_one (ps_set (i := 1) sc_law_second.nd rfl (Or.inl rfl) pe_int))) (.cons ⟨rfl, by decide, .inl T.m_TallyError⟩ (fun a oe cls d pn hz hf => (pss_one (ps_set (i := 1) sc_law_second.nd rfl (Or.inl rfl) pe_int))) .nil))))))))
  (pss_one (ps_ret (pv 1)))))), ?_⟩
    walk_at "begin"
    walk_at "go"
    refine ⟨(by decide : 0 ≤ sizeLine), fun q hq => ?_⟩
    walk_at "go"
    refine k_callS ?_
    walk_at "go"
    refine ⟨n, rfl, hn, fun d H' z => ?_⟩
    have zq := (Same.new (o := .lst []) hq).trans z
    have hk : n = 0 ∨ n = 1 ∨ n = 2 ∨ n = 3 ∨ n = 4 ∨ n = 5 ∨ n = 6 ∨ n = 7 ∨ n = 8 ∨ n = 9 ∨ n = 10 ∨ n = 11 := by omega
    rcases hk with rfl | rfl | rfl | rfl | rfl | rfl | rfl | rfl | rfl | rfl | rfl | rfl
    · exact ⟨false, T.er_BadStands_BadLetter, (fun q => nomatch q), fun _ => ⟨false, T.er_BadStands_BadNumber, (fun q => nomatch q), fun _ => ⟨false, T.er_BadStands_BadBounds, (fun q => nomatch q), fun _ => ⟨false, T.er_BadStands_BadSet, (fun q => nomatch q), fun _ => ⟨false, T.er_BadStands_TooMany, (fun q => nomatch q), fun _ => ⟨false, T.er_BadStands_InvalidText, (fun q => nomatch q), fun _ => ⟨true, T.er_BadStands_TallyError, fun _ b hb => ⟨_, rfl, k _ zq⟩, fun q => nomatch q⟩⟩⟩⟩⟩⟩⟩
    · exact ⟨false, T.er_BadSteps_BadLetter, (fun q => nomatch q), fun _ => ⟨false, T.er_BadSteps_BadNumber, (fun q => nomatch q), fun _ => ⟨false, T.er_BadSteps_BadBounds, (fun q => nomatch q), fun _ => ⟨false, T.er_BadSteps_BadSet, (fun q => nomatch q), fun _ => ⟨false, T.er_BadSteps_TooMany, (fun q => nomatch q), fun _ => ⟨false, T.er_BadSteps_InvalidText, (fun q => nomatch q), fun _ => ⟨true, T.er_BadSteps_TallyError, fun _ b hb => ⟨_, rfl, k _ zq⟩, fun q => nomatch q⟩⟩⟩⟩⟩⟩⟩
    · exact ⟨false, T.er_BadEnds_BadLetter, (fun q => nomatch q), fun _ => ⟨false, T.er_BadEnds_BadNumber, (fun q => nomatch q), fun _ => ⟨false, T.er_BadEnds_BadBounds, (fun q => nomatch q), fun _ => ⟨false, T.er_BadEnds_BadSet, (fun q => nomatch q), fun _ => ⟨false, T.er_BadEnds_TooMany, (fun q => nomatch q), fun _ => ⟨false, T.er_BadEnds_InvalidText, (fun q => nomatch q), fun _ => ⟨true, T.er_BadEnds_TallyError, fun _ b hb => ⟨_, rfl, k _ zq⟩, fun q => nomatch q⟩⟩⟩⟩⟩⟩⟩
    · exact ⟨false, T.er_BadMachine_BadLetter, (fun q => nomatch q), fun _ => ⟨false, T.er_BadMachine_BadNumber, (fun q => nomatch q), fun _ => ⟨false, T.er_BadMachine_BadBounds, (fun q => nomatch q), fun _ => ⟨false, T.er_BadMachine_BadSet, (fun q => nomatch q), fun _ => ⟨false, T.er_BadMachine_TooMany, (fun q => nomatch q), fun _ => ⟨false, T.er_BadMachine_InvalidText, (fun q => nomatch q), fun _ => ⟨true, T.er_BadMachine_TallyError, fun _ b hb => ⟨_, rfl, k _ zq⟩, fun q => nomatch q⟩⟩⟩⟩⟩⟩⟩
    · exact ⟨false, T.er_BadStand_BadLetter, (fun q => nomatch q), fun _ => ⟨false, T.er_BadStand_BadNumber, (fun q => nomatch q), fun _ => ⟨false, T.er_BadStand_BadBounds, (fun q => nomatch q), fun _ => ⟨false, T.er_BadStand_BadSet, (fun q => nomatch q), fun _ => ⟨false, T.er_BadStand_TooMany, (fun q => nomatch q), fun _ => ⟨false, T.er_BadStand_InvalidText, (fun q => nomatch q), fun _ => ⟨true, T.er_BadStand_TallyError, fun _ b hb => ⟨_, rfl, k _ zq⟩, fun q => nomatch q⟩⟩⟩⟩⟩⟩⟩
    · exact ⟨false, T.er_BadRow_BadLetter, (fun q => nomatch q), fun _ => ⟨false, T.er_BadRow_BadNumber, (fun q => nomatch q), fun _ => ⟨false, T.er_BadRow_BadBounds, (fun q => nomatch q), fun _ => ⟨false, T.er_BadRow_BadSet, (fun q => nomatch q), fun _ => ⟨false, T.er_BadRow_TooMany, (fun q => nomatch q), fun _ => ⟨false, T.er_BadRow_InvalidText, (fun q => nomatch q), fun _ => ⟨true, T.er_BadRow_TallyError, fun _ b hb => ⟨_, rfl, k _ zq⟩, fun q => nomatch q⟩⟩⟩⟩⟩⟩⟩
    · exact ⟨true, T.e_BadLetter, fun _ b hb => ⟨_, rfl, k _ zq⟩, fun q => nomatch q⟩
    · exact ⟨false, T.er_BadNumber_BadLetter, (fun q => nomatch q), fun _ => ⟨true, T.e_BadNumber, fun _ b hb => ⟨_, rfl, k _ zq⟩, fun q => nomatch q⟩⟩
    · exact ⟨false, T.er_BadBounds_BadLetter, (fun q => nomatch q), fun _ => ⟨false, T.er_BadBounds_BadNumber, (fun q => nomatch q), fun _ => ⟨true, T.e_BadBounds, fun _ b hb => ⟨_, rfl, k _ zq⟩, fun q => nomatch q⟩⟩⟩
    · exact ⟨false, T.er_BadSet_BadLetter, (fun q => nomatch q), fun _ => ⟨false, T.er_BadSet_BadNumber, (fun q => nomatch q), fun _ => ⟨false, T.er_BadSet_BadBounds, (fun q => nomatch q), fun _ => ⟨true, T.e_BadSet, fun _ b hb => ⟨_, rfl, k _ zq⟩, fun q => nomatch q⟩⟩⟩⟩
    · exact ⟨false, T.er_TooMany_BadLetter, (fun q => nomatch q), fun _ => ⟨false, T.er_TooMany_BadNumber, (fun q => nomatch q), fun _ => ⟨false, T.er_TooMany_BadBounds, (fun q => nomatch q), fun _ => ⟨false, T.er_TooMany_BadSet, (fun q => nomatch q), fun _ => ⟨true, T.e_TooMany, fun _ b hb => ⟨_, rfl, k _ zq⟩, fun q => nomatch q⟩⟩⟩⟩⟩
    · exact ⟨false, T.er_InvalidText_BadLetter, (fun q => nomatch q), fun _ => ⟨false, T.er_InvalidText_BadNumber, (fun q => nomatch q), fun _ => ⟨false, T.er_InvalidText_BadBounds, (fun q => nomatch q), fun _ => ⟨false, T.er_InvalidText_BadSet, (fun q => nomatch q), fun _ => ⟨false, T.er_InvalidText_TooMany, (fun q => nomatch q), fun _ => ⟨true, T.e_InvalidText, fun _ b hb => ⟨_, rfl, k _ zq⟩, fun q => nomatch q⟩⟩⟩⟩⟩⟩
theorem ok_law (T : Txt K mg) : FnOk P w K mg base (L2.CX P w) 30 T.a_law T.fd_law ["_law_script"] (sp_law K) := by
  refine T.F_law.okX sc_law (fun vs H Q E h => ?_) (fun cdv A outer s H vs Q E hr h => ?_)
  · obtain ⟨sc, ns, rfl, _⟩ := h
    rfl
  · obtain ⟨sc, ns, rfl, hsc, hns, k⟩ := h
    refine ⟨_, (PSs.nox (pss_cons (ps_set (i := 1) sc_law.nd rfl (Or.inl rfl) (pe_lst (pa_cons (pv 0) (pa_cons pe_int (pa_cons pe_int (pa_cons pe_int pa_nil))))))
  (pss_cons (ps_for PassesOwn.never rfl (pi_range1 (by rfl) T.z_range (pa_cons pe_int pa_nil)) (pg_name (i := 2) sc_law.nd rfl (Or.inl rfl))
  (pss_cons (ps_set (i := 3) sc_law.nd rfl (Or.inl rfl) (pe_call (ok_law_taken T) (hr.mono (by decide)) (by rfl) T.m_law_taken T.k_law_taken T.b_law_taken .nil passL (pa_cons (pv 1) (pa_cons pe_int pa_nil))))
  (pss_one (ps_if (PW.pt (pw_or (pt_cmpR op_ne (pe_call (ok_law_first T) (hr.mono (by decide)) (by rfl) T.m_law_first T.k_law_first T.b_law_first .nil passL (pa_cons (pv 3) pa_nil)) (pe_callB (call_min2 rfl) (by rfl) T.z_min (by decide +kernel) (pa_cons pe_int (pa_cons (pv 3) pa_nil))) (nomark _)) (pw_or1 (pt_cmpR op_ne (pe_call (ok_law_second T) (hr.mono (by decide)) (by rfl) T.m_law_second T.k_law_second T.b_law_second .nil passL (pa_cons (pv 3) pa_nil)) (pe_ifExp (pt_cmpR op_gt (pv 3) pe_int (nomark _)) (pv 3) pe_int) (nomark _)))))
  (pss_one (ps_ret pe_bl))
  pss_nil))))
  (pss_one (ps_ret pe_bl))))), ?_⟩
    walk_at "begin"
    walk_at "go"
    refine ⟨(by decide : 4 ≤ sizeLine), fun a ha => ?_⟩
    have R1 : RowOk K (upd H a (.lst [.ref sc, .int 0, .int 233, .int 0])) a := ⟨sc, ns, 0, 233, 0, upd_same, hsc.same (Same.new ha), hns, by decide, by decide, by decide⟩
    generalize upd H a (.lst [.ref sc, .int 0, .int 233, .int 0]) = H1 at R1 ⊢
    walk_at "go"
    refine ⟨_, rfl, by decide, by decide, ?_⟩
    refine for_range (lo := 0) (n := 9) (fun i σ H' => ∃ b2 b3, RowOk K H' a ∧ σ = [some (.ref sc), some (.ref a), b2, b3]) ⟨none, none, R1, rfl⟩ ?_ ?_
    · rintro i σ H2 hi ⟨b2, b3, R2, rfl⟩
      walk_at "go"
      refine ⟨a, 12, rfl, by decide, by decide, R2, fun y H3 y0 y12 R3 _ => ?_⟩
      obtain ⟨n, rfl⟩ := Int.eq_ofNat_of_zero_le y0
      walk_at "go"
      refine ⟨n, rfl, by omega, fun H4 z4 => ?_⟩
      walk_at "go"
      refine ⟨_, _, rfl, ?_⟩
      have e1 : V.int (((fun k : Nat => if k < 6 then k else 6) n : Nat) : Int) = V.int (if ((n : Nat) : Int) < 6 then ((n : Nat) : Int) else 6) := by
        congr 1
        show (((if n < 6 then n else 6 : Nat)) : Int) = _
        split <;> split <;> omega
      rw [← e1]
      walk_at "go"
      rw [decide_eq_true rfl]
      refine iteF ?_
      walk_at "go"
      refine ⟨n, rfl, by omega, fun H5 z5 => ?_⟩
      walk_at "go"
      refine k_ite (fun c => ?_) (fun c => ?_)
      · walk_at "go"
        rw [show ((fun k : Nat => if 5 < k then k else 0) n) = n from if_pos (by omega), decide_eq_true rfl]
        refine iteF ?_
        exact ⟨_, _, R3.same (z4.trans z5), rfl⟩
      · walk_at "go"
        rw [show ((fun k : Nat => if 5 < k then k else 0) n) = 0 from if_neg (by omega)]
        refine k_no (by rfl) ?_
        exact ⟨_, _, R3.same (z4.trans z5), rfl⟩
    · rintro σ H2 ⟨b2, b3, R2, rfl⟩
      walk_at "go"
      exact k _
end
/-! ### what the written part says -/
theorem exc_self {K : PySem.W.Frag} {S : Addr} (hb : PySem.W.subIn K (.ref S) (.type "BaseException") = some true) (hc : PySem.W.isClsIn K S = true) (ht : PySem.W.typeIn K (.ref S) = some (.type "type")) (hs : PySem.W.subIn K (.ref S) (.ref S) = some true) : PySem.W.exmOne K (.ref S) (.ref S) = some true := by
  have hc' : (PySem.W.clsIn K S).isSome = true := hc
  unfold PySem.W.exmOne PySem.W.kitCls
  simp only [hb, ht, hc', hs, beq_self_eq_true, Bool.and_self, if_true]
theorem bb_BadSteps_init (kV doc pm : Value) (an : Option Addr) (cdv ct : Value) (us : List Value) (hl : us.length = 2) : bindArgs (PySem.W.fnOf "__init__" "BadSteps.__init__" (defArgs s_BadSteps_init) (defBody s_BadSteps_init) (defScope s_BadSteps_init) .none kV doc pm an cdv ct) ⟨us, []⟩ = pure ((["self", "index"] : List Str).zip us) := match us, hl with | [_, _], _ => rfl
theorem bb_BadNumber_init (kV doc pm : Value) (an : Option Addr) (cdv ct : Value) (us : List Value) (hl : us.length = 2) : bindArgs (PySem.W.fnOf "__init__" "BadNumber.__init__" (defArgs s_BadNumber_init) (defBody s_BadNumber_init) (defScope s_BadNumber_init) .none kV doc pm an cdv ct) ⟨us, []⟩ = pure ((["self", "n"] : List Str).zip us) := match us, hl with | [_, _], _ => rfl
theorem bb_TooMany_init (kV doc pm : Value) (an : Option Addr) (cdv ct : Value) (us : List Value) (hl : us.length = 2) : bindArgs (PySem.W.fnOf "__init__" "TooMany.__init__" (defArgs s_TooMany_init) (defBody s_TooMany_init) (defScope s_TooMany_init) .none kV doc pm an cdv ct) ⟨us, []⟩ = pure ((["self", "most"] : List Str).zip us) := match us, hl with | [_, _], _ => rfl
theorem bb_InvalidText_init (kV doc pm : Value) (an : Option Addr) (cdv ct : Value) (us : List Value) (hl : us.length = 3) : bindArgs (PySem.W.fnOf "__init__" "InvalidText.__init__" (defArgs s_InvalidText_init) (defBody s_InvalidText_init) (defScope s_InvalidText_init) .none kV doc pm an cdv ct) ⟨us, []⟩ = pure ((["self", "line", "word"] : List Str).zip us) := match us, hl with | [_, _, _], _ => rfl
theorem bb_Machine_init (kV doc pm : Value) (an : Option Addr) (cdv ct : Value) (us : List Value) (hl : us.length = 4) : bindArgs (PySem.W.fnOf "__init__" "Machine.__init__" (defArgs s_Machine_init) (defBody s_Machine_init) (defScope s_Machine_init) .none kV doc pm an cdv ct) ⟨us, []⟩ = pure ((["self", "stands", "steps", "ends"] : List Str).zip us) := match us, hl with | [_, _, _, _], _ => rfl
theorem bb_Machine_stands (kV doc pm : Value) (an : Option Addr) (cdv ct : Value) (us : List Value) (hl : us.length = 1) : bindArgs (PySem.W.fnOf "stands" "Machine.stands" (defArgs s_Machine_stands) (defBody s_Machine_stands) (defScope s_Machine_stands) .none kV doc pm an cdv ct) ⟨us, []⟩ = pure ((["self"] : List Str).zip us) := match us, hl with | [_], _ => rfl
theorem bb_Machine_steps (kV doc pm : Value) (an : Option Addr) (cdv ct : Value) (us : List Value) (hl : us.length = 1) : bindArgs (PySem.W.fnOf "steps" "Machine.steps" (defArgs s_Machine_steps) (defBody s_Machine_steps) (defScope s_Machine_steps) .none kV doc pm an cdv ct) ⟨us, []⟩ = pure ((["self"] : List Str).zip us) := match us, hl with | [_], _ => rfl
theorem bb_is_whole_number (kV doc pm : Value) (an : Option Addr) (cdv ct : Value) (us : List Value) (hl : us.length = 1) : bindArgs (PySem.W.fnOf "is_whole_number" "is_whole_number" (defArgs s_is_whole_number) (defBody s_is_whole_number) (defScope s_is_whole_number) .none kV doc pm an cdv ct) ⟨us, []⟩ = pure ((["value"] : List Str).zip us) := match us, hl with | [_], _ => rfl
theorem bb_is_integer_between (kV doc pm : Value) (an : Option Addr) (cdv ct : Value) (us : List Value) (hl : us.length = 3) : bindArgs (PySem.W.fnOf "is_integer_between" "is_integer_between" (defArgs s_is_integer_between) (defBody s_is_integer_between) (defScope s_is_integer_between) .none kV doc pm an cdv ct) ⟨us, []⟩ = pure ((["value", "least", "most"] : List Str).zip us) := match us, hl with | [_, _, _], _ => rfl
theorem bb_is_stand (kV doc pm : Value) (an : Option Addr) (cdv ct : Value) (us : List Value) (hl : us.length = 2) : bindArgs (PySem.W.fnOf "_is_stand" "_is_stand" (defArgs s_is_stand) (defBody s_is_stand) (defScope s_is_stand) .none kV doc pm an cdv ct) ⟨us, []⟩ = pure ((["stands", "value"] : List Str).zip us) := match us, hl with | [_, _], _ => rfl
theorem bb_check_stands (kV doc pm : Value) (an : Option Addr) (cdv ct : Value) (us : List Value) (hl : us.length = 1) : bindArgs (PySem.W.fnOf "_check_stands" "_check_stands" (defArgs s_check_stands) (defBody s_check_stands) (defScope s_check_stands) .none kV doc pm an cdv ct) ⟨us, []⟩ = pure ((["stands"] : List Str).zip us) := match us, hl with | [_], _ => rfl
theorem bb_is_step (kV doc pm : Value) (an : Option Addr) (cdv ct : Value) (us : List Value) (hl : us.length = 2) : bindArgs (PySem.W.fnOf "_is_step" "_is_step" (defArgs s_is_step) (defBody s_is_step) (defScope s_is_step) .none kV doc pm an cdv ct) ⟨us, []⟩ = pure ((["stands", "value"] : List Str).zip us) := match us, hl with | [_, _], _ => rfl
theorem bb_check_steps (kV doc pm : Value) (an : Option Addr) (cdv ct : Value) (us : List Value) (hl : us.length = 2) : bindArgs (PySem.W.fnOf "_check_steps" "_check_steps" (defArgs s_check_steps) (defBody s_check_steps) (defScope s_check_steps) .none kV doc pm an cdv ct) ⟨us, []⟩ = pure ((["stands", "steps"] : List Str).zip us) := match us, hl with | [_, _], _ => rfl
theorem bb_is_ascending (kV doc pm : Value) (an : Option Addr) (cdv ct : Value) (us : List Value) (hl : us.length = 2) : bindArgs (PySem.W.fnOf "is_ascending" "is_ascending" (defArgs s_is_ascending) (defBody s_is_ascending) (defScope s_is_ascending) .none kV doc pm an cdv ct) ⟨us, []⟩ = pure ((["value", "many"] : List Str).zip us) := match us, hl with | [_, _], _ => rfl
theorem bb_check_ends (kV doc pm : Value) (an : Option Addr) (cdv ct : Value) (us : List Value) (hl : us.length = 2) : bindArgs (PySem.W.fnOf "_check_ends" "_check_ends" (defArgs s_check_ends) (defBody s_check_ends) (defScope s_check_ends) .none kV doc pm an cdv ct) ⟨us, []⟩ = pure ((["stands", "ends"] : List Str).zip us) := match us, hl with | [_, _], _ => rfl
theorem bb_check_machine (kV doc pm : Value) (an : Option Addr) (cdv ct : Value) (us : List Value) (hl : us.length = 1) : bindArgs (PySem.W.fnOf "check_machine" "check_machine" (defArgs s_check_machine) (defBody s_check_machine) (defScope s_check_machine) .none kV doc pm an cdv ct) ⟨us, []⟩ = pure ((["value"] : List Str).zip us) := match us, hl with | [_], _ => rfl
theorem bb_check_stand (kV doc pm : Value) (an : Option Addr) (cdv ct : Value) (us : List Value) (hl : us.length = 2) : bindArgs (PySem.W.fnOf "check_stand" "check_stand" (defArgs s_check_stand) (defBody s_check_stand) (defScope s_check_stand) .none kV doc pm an cdv ct) ⟨us, []⟩ = pure ((["machine", "value"] : List Str).zip us) := match us, hl with | [_, _], _ => rfl
theorem bb_check_number (kV doc pm : Value) (an : Option Addr) (cdv ct : Value) (us : List Value) (hl : us.length = 3) : bindArgs (PySem.W.fnOf "check_number" "check_number" (defArgs s_check_number) (defBody s_check_number) (defScope s_check_number) .none kV doc pm an cdv ct) ⟨us, []⟩ = pure ((["value", "least", "most"] : List Str).zip us) := match us, hl with | [_, _, _], _ => rfl
theorem bb_moves_of (kV doc pm : Value) (an : Option Addr) (cdv ct : Value) (us : List Value) (hl : us.length = 1) : bindArgs (PySem.W.fnOf "moves_of" "moves_of" (defArgs s_moves_of) (defBody s_moves_of) (defScope s_moves_of) .none kV doc pm an cdv ct) ⟨us, []⟩ = pure ((["machine"] : List Str).zip us) := match us, hl with | [_], _ => rfl
theorem bb_way (kV doc pm : Value) (an : Option Addr) (cdv ct : Value) (us : List Value) (hl : us.length = 3) : bindArgs (PySem.W.fnOf "way" "way" (defArgs s_way) (defBody s_way) (defScope s_way) .none kV doc pm an cdv ct) ⟨us, []⟩ = pure ((["machine", "stand", "value"] : List Str).zip us) := match us, hl with | [_, _, _], _ => rfl
theorem bb_behind (kV doc pm : Value) (an : Option Addr) (cdv ct : Value) (us : List Value) (hl : us.length = 2) : bindArgs (PySem.W.fnOf "behind" "behind" (defArgs s_behind) (defBody s_behind) (defScope s_behind) .none kV doc pm an cdv ct) ⟨us, []⟩ = pure ((["machine", "row"] : List Str).zip us) := match us, hl with | [_, _], _ => rfl
theorem bb_reached (kV doc pm : Value) (an : Option Addr) (cdv ct : Value) (us : List Value) (hl : us.length = 1) : bindArgs (PySem.W.fnOf "reached" "reached" (defArgs s_reached) (defBody s_reached) (defScope s_reached) .none kV doc pm an cdv ct) ⟨us, []⟩ = pure ((["machine"] : List Str).zip us) := match us, hl with | [_], _ => rfl
theorem bb_tally_at (kV doc pm : Value) (an : Option Addr) (cdv ct : Value) (us : List Value) (hl : us.length = 3) : bindArgs (PySem.W.fnOf "_tally_at" "_tally_at" (defArgs s_tally_at) (defBody s_tally_at) (defScope s_tally_at) .none kV doc pm an cdv ct) ⟨us, []⟩ = pure ((["machine", "stand", "sign"] : List Str).zip us) := match us, hl with | [_, _, _], _ => rfl
theorem bb_greatest_at (kV doc pm : Value) (an : Option Addr) (cdv ct : Value) (us : List Value) (hl : us.length = 2) : bindArgs (PySem.W.fnOf "greatest_at" "greatest_at" (defArgs s_greatest_at) (defBody s_greatest_at) (defScope s_greatest_at) .none kV doc pm an cdv ct) ⟨us, []⟩ = pure ((["machine", "stand"] : List Str).zip us) := match us, hl with | [_, _], _ => rfl
theorem bb_check_bounds (kV doc pm : Value) (an : Option Addr) (cdv ct : Value) (us : List Value) (hl : us.length = 3) : bindArgs (PySem.W.fnOf "check_bounds" "check_bounds" (defArgs s_check_bounds) (defBody s_check_bounds) (defScope s_check_bounds) .none kV doc pm an cdv ct) ⟨us, []⟩ = pure ((["low", "high", "most"] : List Str).zip us) := match us, hl with | [_, _, _], _ => rfl
theorem bb_stays (kV doc pm : Value) (an : Option Addr) (cdv ct : Value) (us : List Value) (hl : us.length = 3) : bindArgs (PySem.W.fnOf "stays" "stays" (defArgs s_stays) (defBody s_stays) (defScope s_stays) .none kV doc pm an cdv ct) ⟨us, []⟩ = pure ((["machine", "low", "high"] : List Str).zip us) := match us, hl with | [_, _, _], _ => rfl
theorem bb_tallies (kV doc pm : Value) (an : Option Addr) (cdv ct : Value) (us : List Value) (hl : us.length = 2) : bindArgs (PySem.W.fnOf "tallies" "tallies" (defArgs s_tallies) (defBody s_tallies) (defScope s_tallies) .none kV doc pm an cdv ct) ⟨us, []⟩ = pure ((["machine", "length"] : List Str).zip us) := match us, hl with | [_, _], _ => rfl
theorem bb_check_steps_mends (kV doc pm : Value) (an : Option Addr) (cdv ct : Value) (us : List Value) (hl : us.length = 1) : bindArgs (PySem.W.fnOf "_check_steps" "_check_steps" (defArgs s_check_steps_mends) (defBody s_check_steps_mends) (defScope s_check_steps_mends) .none kV doc pm an cdv ct) ⟨us, []⟩ = pure ((["machine"] : List Str).zip us) := match us, hl with | [_], _ => rfl
theorem bb_mends (kV doc pm : Value) (an : Option Addr) (cdv ct : Value) (us : List Value) (hl : us.length = 1) : bindArgs (PySem.W.fnOf "mends" "mends" (defArgs s_mends) (defBody s_mends) (defScope s_mends) .none kV doc pm an cdv ct) ⟨us, []⟩ = pure ((["machine"] : List Str).zip us) := match us, hl with | [_], _ => rfl
theorem bb_mended (kV doc pm : Value) (an : Option Addr) (cdv ct : Value) (us : List Value) (hl : us.length = 2) : bindArgs (PySem.W.fnOf "mended" "mended" (defArgs s_mended) (defBody s_mended) (defScope s_mended) .none kV doc pm an cdv ct) ⟨us, []⟩ = pure ((["machine", "some"] : List Str).zip us) := match us, hl with | [_, _], _ => rfl
theorem bb_Meter_init (kV doc pm : Value) (an : Option Addr) (cdv ct : Value) (us : List Value) (hl : us.length = 2) : bindArgs (PySem.W.fnOf "__init__" "Meter.__init__" (defArgs s_Meter_init) (defBody s_Meter_init) (defScope s_Meter_init) .none kV doc pm an cdv ct) ⟨us, []⟩ = pure ((["self", "machine"] : List Str).zip us) := match us, hl with | [_, _], _ => rfl
theorem bb_Meter_read (kV doc pm : Value) (an : Option Addr) (cdv ct : Value) (us : List Value) (hl : us.length = 2) : bindArgs (PySem.W.fnOf "read" "Meter.read" (defArgs s_Meter_read) (defBody s_Meter_read) (defScope s_Meter_read) .none kV doc pm an cdv ct) ⟨us, []⟩ = pure ((["self", "letter"] : List Str).zip us) := match us, hl with | [_, _], _ => rfl
theorem bb_LineReader_init (kV doc pm : Value) (an : Option Addr) (cdv ct : Value) (us : List Value) (hl : us.length = 3) : bindArgs (PySem.W.fnOf "__init__" "LineReader.__init__" (defArgs s_LineReader_init) (defBody s_LineReader_init) (defScope s_LineReader_init) .none kV doc pm an cdv ct) ⟨us, []⟩ = pure ((["self", "place", "words"] : List Str).zip us) := match us, hl with | [_, _, _], _ => rfl
theorem bb_LineReader_is_over (kV doc pm : Value) (an : Option Addr) (cdv ct : Value) (us : List Value) (hl : us.length = 1) : bindArgs (PySem.W.fnOf "is_over" "LineReader.is_over" (defArgs s_LineReader_is_over) (defBody s_LineReader_is_over) (defScope s_LineReader_is_over) .none kV doc pm an cdv ct) ⟨us, []⟩ = pure ((["self"] : List Str).zip us) := match us, hl with | [_], _ => rfl
theorem bb_LineReader_fail (kV doc pm : Value) (an : Option Addr) (cdv ct : Value) (us : List Value) (hl : us.length = 1) : bindArgs (PySem.W.fnOf "fail" "LineReader.fail" (defArgs s_LineReader_fail) (defBody s_LineReader_fail) (defScope s_LineReader_fail) .none kV doc pm an cdv ct) ⟨us, []⟩ = pure ((["self"] : List Str).zip us) := match us, hl with | [_], _ => rfl
theorem bb_LineReader_take (kV doc pm : Value) (an : Option Addr) (cdv ct : Value) (us : List Value) (hl : us.length = 2) : bindArgs (PySem.W.fnOf "take" "LineReader.take" (defArgs s_LineReader_take) (defBody s_LineReader_take) (defScope s_LineReader_take) .none kV doc pm an cdv ct) ⟨us, []⟩ = pure ((["self", "words"] : List Str).zip us) := match us, hl with | [_, _], _ => rfl
theorem bb_read_stands (kV doc pm : Value) (an : Option Addr) (cdv ct : Value) (us : List Value) (hl : us.length = 1) : bindArgs (PySem.W.fnOf "_read_stands" "_read_stands" (defArgs s_read_stands) (defBody s_read_stands) (defScope s_read_stands) .none kV doc pm an cdv ct) ⟨us, []⟩ = pure ((["line"] : List Str).zip us) := match us, hl with | [_], _ => rfl
theorem bb_read (kV doc pm : Value) (an : Option Addr) (cdv ct : Value) (us : List Value) (hl : us.length = 1) : bindArgs (PySem.W.fnOf "read" "read" (defArgs s_read) (defBody s_read) (defScope s_read) .none kV doc pm an cdv ct) ⟨us, []⟩ = pure ((["text"] : List Str).zip us) := match us, hl with | [_], _ => rfl
theorem bb_law_taken (kV doc pm : Value) (an : Option Addr) (cdv ct : Value) (us : List Value) (hl : us.length = 2) : bindArgs (PySem.W.fnOf "_law_taken" "_law_taken" (defArgs s_law_taken) (defBody s_law_taken) (defScope s_law_taken) .none kV doc pm an cdv ct) ⟨us, []⟩ = pure ((["_law_row", "_law_many"] : List Str).zip us) := match us, hl with | [_, _], _ => rfl
theorem bb_law_call (kV doc pm : Value) (an : Option Addr) (cdv ct : Value) (us : List Value) (hl : us.length = 1) : bindArgs (PySem.W.fnOf "_law_call" "_law_call" (defArgs s_law_call) (defBody s_law_call) (defScope s_law_call) .none kV doc pm an cdv ct) ⟨us, []⟩ = pure ((["_law_kind"] : List Str).zip us) := match us, hl with | [_], _ => rfl
theorem bb_law_first (kV doc pm : Value) (an : Option Addr) (cdv ct : Value) (us : List Value) (hl : us.length = 1) : bindArgs (PySem.W.fnOf "_law_first" "_law_first" (defArgs s_law_first) (defBody s_law_first) (defScope s_law_first) .none kV doc pm an cdv ct) ⟨us, []⟩ = pure ((["_law_kind"] : List Str).zip us) := match us, hl with | [_], _ => rfl
theorem bb_law_second (kV doc pm : Value) (an : Option Addr) (cdv ct : Value) (us : List Value) (hl : us.length = 1) : bindArgs (PySem.W.fnOf "_law_second" "_law_second" (defArgs s_law_second) (defBody s_law_second) (defScope s_law_second) .none kV doc pm an cdv ct) ⟨us, []⟩ = pure ((["_law_kind"] : List Str).zip us) := match us, hl with | [_], _ => rfl
theorem bb_law (kV doc pm : Value) (an : Option Addr) (cdv ct : Value) (us : List Value) (hl : us.length = 1) : bindArgs (PySem.W.fnOf "law" "law" (defArgs s_law) (defBody s_law) (defScope s_law) .none kV doc pm an cdv ct) ⟨us, []⟩ = pure ((["_law_script"] : List Str).zip us) := match us, hl with | [_], _ => rfl
set_option maxHeartbeats 0 in
def txt_mk {K : PySem.W.Frag} {h : Heap} {mg : Str → Option Value} (X : K.In h) (G : h.Ns mainGlobals mg)
    {a_BadSteps_init : Addr} {od_BadSteps_init an_BadSteps_init : Option Addr} {sl_BadSteps_init : Array (Option Value)} {oc_BadSteps_init kV_BadSteps_init dc_BadSteps_init pm_BadSteps_init cd_BadSteps_init ct_BadSteps_init : Value}
    {a_BadNumber_init : Addr} {od_BadNumber_init an_BadNumber_init : Option Addr} {sl_BadNumber_init : Array (Option Value)} {oc_BadNumber_init kV_BadNumber_init dc_BadNumber_init pm_BadNumber_init cd_BadNumber_init ct_BadNumber_init : Value}
    {a_TooMany_init : Addr} {od_TooMany_init an_TooMany_init : Option Addr} {sl_TooMany_init : Array (Option Value)} {oc_TooMany_init kV_TooMany_init dc_TooMany_init pm_TooMany_init cd_TooMany_init ct_TooMany_init : Value}
    {a_InvalidText_init : Addr} {od_InvalidText_init an_InvalidText_init : Option Addr} {sl_InvalidText_init : Array (Option Value)} {oc_InvalidText_init kV_InvalidText_init dc_InvalidText_init pm_InvalidText_init cd_InvalidText_init ct_InvalidText_init : Value}
    {a_Machine_init : Addr} {od_Machine_init an_Machine_init : Option Addr} {sl_Machine_init : Array (Option Value)} {oc_Machine_init kV_Machine_init dc_Machine_init pm_Machine_init cd_Machine_init ct_Machine_init : Value}
    {a_Machine_stands : Addr} {od_Machine_stands an_Machine_stands : Option Addr} {sl_Machine_stands : Array (Option Value)} {oc_Machine_stands kV_Machine_stands dc_Machine_stands pm_Machine_stands cd_Machine_stands ct_Machine_stands : Value}
    {a_Machine_steps : Addr} {od_Machine_steps an_Machine_steps : Option Addr} {sl_Machine_steps : Array (Option Value)} {oc_Machine_steps kV_Machine_steps dc_Machine_steps pm_Machine_steps cd_Machine_steps ct_Machine_steps : Value}
    {a_is_whole_number : Addr} {od_is_whole_number an_is_whole_number : Option Addr} {sl_is_whole_number : Array (Option Value)} {oc_is_whole_number kV_is_whole_number dc_is_whole_number pm_is_whole_number cd_is_whole_number ct_is_whole_number : Value}
    {a_is_integer_between : Addr} {od_is_integer_between an_is_integer_between : Option Addr} {sl_is_integer_between : Array (Option Value)} {oc_is_integer_between kV_is_integer_between dc_is_integer_between pm_is_integer_between cd_is_integer_between ct_is_integer_between : Value}
    {a_is_stand : Addr} {od_is_stand an_is_stand : Option Addr} {sl_is_stand : Array (Option Value)} {oc_is_stand kV_is_stand dc_is_stand pm_is_stand cd_is_stand ct_is_stand : Value}
    {a_check_stands : Addr} {od_check_stands an_check_stands : Option Addr} {sl_check_stands : Array (Option Value)} {oc_check_stands kV_check_stands dc_check_stands pm_check_stands cd_check_stands ct_check_stands : Value}
    {a_is_step : Addr} {od_is_step an_is_step : Option Addr} {sl_is_step : Array (Option Value)} {oc_is_step kV_is_step dc_is_step pm_is_step cd_is_step ct_is_step : Value}
    {a_check_steps : Addr} {od_check_steps an_check_steps : Option Addr} {sl_check_steps : Array (Option Value)} {oc_check_steps kV_check_steps dc_check_steps pm_check_steps cd_check_steps ct_check_steps : Value}
    {a_is_ascending : Addr} {od_is_ascending an_is_ascending : Option Addr} {sl_is_ascending : Array (Option Value)} {oc_is_ascending kV_is_ascending dc_is_ascending pm_is_ascending cd_is_ascending ct_is_ascending : Value}
    {a_check_ends : Addr} {od_check_ends an_check_ends : Option Addr} {sl_check_ends : Array (Option Value)} {oc_check_ends kV_check_ends dc_check_ends pm_check_ends cd_check_ends ct_check_ends : Value}
    {a_check_machine : Addr} {od_check_machine an_check_machine : Option Addr} {sl_check_machine : Array (Option Value)} {oc_check_machine kV_check_machine dc_check_machine pm_check_machine cd_check_machine ct_check_machine : Value}
    {a_check_stand : Addr} {od_check_stand an_check_stand : Option Addr} {sl_check_stand : Array (Option Value)} {oc_check_stand kV_check_stand dc_check_stand pm_check_stand cd_check_stand ct_check_stand : Value}
    {a_check_number : Addr} {od_check_number an_check_number : Option Addr} {sl_check_number : Array (Option Value)} {oc_check_number kV_check_number dc_check_number pm_check_number cd_check_number ct_check_number : Value}
    {a_moves_of : Addr} {od_moves_of an_moves_of : Option Addr} {sl_moves_of : Array (Option Value)} {oc_moves_of kV_moves_of dc_moves_of pm_moves_of cd_moves_of ct_moves_of : Value}
    {a_way : Addr} {od_way an_way : Option Addr} {sl_way : Array (Option Value)} {oc_way kV_way dc_way pm_way cd_way ct_way : Value}
    {a_behind : Addr} {od_behind an_behind : Option Addr} {sl_behind : Array (Option Value)} {oc_behind kV_behind dc_behind pm_behind cd_behind ct_behind : Value}
    {a_reached : Addr} {od_reached an_reached : Option Addr} {sl_reached : Array (Option Value)} {oc_reached kV_reached dc_reached pm_reached cd_reached ct_reached : Value}
    {a_tally_at : Addr} {od_tally_at an_tally_at : Option Addr} {sl_tally_at : Array (Option Value)} {oc_tally_at kV_tally_at dc_tally_at pm_tally_at cd_tally_at ct_tally_at : Value}
    {a_greatest_at : Addr} {od_greatest_at an_greatest_at : Option Addr} {sl_greatest_at : Array (Option Value)} {oc_greatest_at kV_greatest_at dc_greatest_at pm_greatest_at cd_greatest_at ct_greatest_at : Value}
    {a_check_bounds : Addr} {od_check_bounds an_check_bounds : Option Addr} {sl_check_bounds : Array (Option Value)} {oc_check_bounds kV_check_bounds dc_check_bounds pm_check_bounds cd_check_bounds ct_check_bounds : Value}
    {a_stays : Addr} {od_stays an_stays : Option Addr} {sl_stays : Array (Option Value)} {oc_stays kV_stays dc_stays pm_stays cd_stays ct_stays : Value}
    {a_tallies : Addr} {od_tallies an_tallies : Option Addr} {sl_tallies : Array (Option Value)} {oc_tallies kV_tallies dc_tallies pm_tallies cd_tallies ct_tallies : Value}
    {a_check_steps_mends : Addr} {od_check_steps_mends an_check_steps_mends : Option Addr} {sl_check_steps_mends : Array (Option Value)} {oc_check_steps_mends kV_check_steps_mends dc_check_steps_mends pm_check_steps_mends cd_check_steps_mends ct_check_steps_mends : Value}
    {a_mends : Addr} {od_mends an_mends : Option Addr} {sl_mends : Array (Option Value)} {oc_mends kV_mends dc_mends pm_mends cd_mends ct_mends : Value}
    {a_mended : Addr} {od_mended an_mended : Option Addr} {sl_mended : Array (Option Value)} {oc_mended kV_mended dc_mended pm_mended cd_mended ct_mended : Value}
    {a_Meter_init : Addr} {od_Meter_init an_Meter_init : Option Addr} {sl_Meter_init : Array (Option Value)} {oc_Meter_init kV_Meter_init dc_Meter_init pm_Meter_init cd_Meter_init ct_Meter_init : Value}
    {a_Meter_read : Addr} {od_Meter_read an_Meter_read : Option Addr} {sl_Meter_read : Array (Option Value)} {oc_Meter_read kV_Meter_read dc_Meter_read pm_Meter_read cd_Meter_read ct_Meter_read : Value}
    {a_LineReader_init : Addr} {od_LineReader_init an_LineReader_init : Option Addr} {sl_LineReader_init : Array (Option Value)} {oc_LineReader_init kV_LineReader_init dc_LineReader_init pm_LineReader_init cd_LineReader_init ct_LineReader_init : Value}
    {a_LineReader_is_over : Addr} {od_LineReader_is_over an_LineReader_is_over : Option Addr} {sl_LineReader_is_over : Array (Option Value)} {oc_LineReader_is_over kV_LineReader_is_over dc_LineReader_is_over pm_LineReader_is_over cd_LineReader_is_over ct_LineReader_is_over : Value}
    {a_LineReader_fail : Addr} {od_LineReader_fail an_LineReader_fail : Option Addr} {sl_LineReader_fail : Array (Option Value)} {oc_LineReader_fail kV_LineReader_fail dc_LineReader_fail pm_LineReader_fail cd_LineReader_fail ct_LineReader_fail : Value}
    {a_LineReader_take : Addr} {od_LineReader_take an_LineReader_take : Option Addr} {sl_LineReader_take : Array (Option Value)} {oc_LineReader_take kV_LineReader_take dc_LineReader_take pm_LineReader_take cd_LineReader_take ct_LineReader_take : Value}
    {a_read_stands : Addr} {od_read_stands an_read_stands : Option Addr} {sl_read_stands : Array (Option Value)} {oc_read_stands kV_read_stands dc_read_stands pm_read_stands cd_read_stands ct_read_stands : Value}
    {a_read : Addr} {od_read an_read : Option Addr} {sl_read : Array (Option Value)} {oc_read kV_read dc_read pm_read cd_read ct_read : Value}
    {a_law_taken : Addr} {od_law_taken an_law_taken : Option Addr} {sl_law_taken : Array (Option Value)} {oc_law_taken kV_law_taken dc_law_taken pm_law_taken cd_law_taken ct_law_taken : Value}
    {a_law_call : Addr} {od_law_call an_law_call : Option Addr} {sl_law_call : Array (Option Value)} {oc_law_call kV_law_call dc_law_call pm_law_call cd_law_call ct_law_call : Value}
    {a_law_first : Addr} {od_law_first an_law_first : Option Addr} {sl_law_first : Array (Option Value)} {oc_law_first kV_law_first dc_law_first pm_law_first cd_law_first ct_law_first : Value}
    {a_law_second : Addr} {od_law_second an_law_second : Option Addr} {sl_law_second : Array (Option Value)} {oc_law_second kV_law_second dc_law_second pm_law_second cd_law_second ct_law_second : Value}
    {a_law : Addr} {od_law an_law : Option Addr} {sl_law : Array (Option Value)} {oc_law kV_law dc_law pm_law cd_law ct_law : Value}
    {c_Machine : Addr}
    {q_stands : Addr} {rest_stands : List Value}
    {q_steps : Addr} {rest_steps : List Value}
    {c_Meter : Addr}
    {c_LineReader : Addr}
    {c_BadStands : Addr}
    {c_BadEnds : Addr}
    {c_BadMachine : Addr}
    {c_BadStand : Addr}
    {c_BadRow : Addr}
    {c_BadLetter : Addr}
    {c_BadBounds : Addr}
    {c_BadSet : Addr}
    {c_BadSteps : Addr}
    {c_BadNumber : Addr}
    {c_TooMany : Addr}
    {c_InvalidText : Addr}
    {c_TallyError : Addr}
    {t_MOST_STANDS : Tok}
    {t_MOST_GAIN : Tok}
    {a_LETTERS : Addr}
    {t_MOST_LENGTH : Tok}
    {t_MOST_NUMBER : Tok}
    {t_MOST_STEPS : Tok}
    (g_is_whole_number : PySem.W.nsIn K mainGlobals "is_whole_number" = some (some (.ref a_is_whole_number)))
    (g_is_integer_between : PySem.W.nsIn K mainGlobals "is_integer_between" = some (some (.ref a_is_integer_between)))
    (g_is_stand : PySem.W.nsIn K mainGlobals "_is_stand" = some (some (.ref a_is_stand)))
    (g_check_stands : PySem.W.nsIn K mainGlobals "_check_stands" = some (some (.ref a_check_stands)))
    (g_is_step : PySem.W.nsIn K mainGlobals "_is_step" = some (some (.ref a_is_step)))
    (g_check_steps : PySem.W.nsIn K mainGlobals "check_steps_machines" = some (some (.ref a_check_steps)))
    (g_is_ascending : PySem.W.nsIn K mainGlobals "is_ascending" = some (some (.ref a_is_ascending)))
    (g_check_ends : PySem.W.nsIn K mainGlobals "_check_ends" = some (some (.ref a_check_ends)))
    (g_check_machine : PySem.W.nsIn K mainGlobals "check_machine" = some (some (.ref a_check_machine)))
    (g_check_stand : PySem.W.nsIn K mainGlobals "check_stand" = some (some (.ref a_check_stand)))
    (g_check_number : PySem.W.nsIn K mainGlobals "check_number" = some (some (.ref a_check_number)))
    (g_moves_of : PySem.W.nsIn K mainGlobals "moves_of" = some (some (.ref a_moves_of)))
    (g_way : PySem.W.nsIn K mainGlobals "way" = some (some (.ref a_way)))
    (g_behind : PySem.W.nsIn K mainGlobals "behind" = some (some (.ref a_behind)))
    (g_reached : PySem.W.nsIn K mainGlobals "reached" = some (some (.ref a_reached)))
    (g_tally_at : PySem.W.nsIn K mainGlobals "_tally_at" = some (some (.ref a_tally_at)))
    (g_greatest_at : PySem.W.nsIn K mainGlobals "greatest_at" = some (some (.ref a_greatest_at)))
    (g_check_bounds : PySem.W.nsIn K mainGlobals "check_bounds" = some (some (.ref a_check_bounds)))
    (g_stays : PySem.W.nsIn K mainGlobals "stays" = some (some (.ref a_stays)))
    (g_tallies : PySem.W.nsIn K mainGlobals "tallies" = some (some (.ref a_tallies)))
    (g_check_steps_mends : PySem.W.nsIn K mainGlobals "check_steps_mends" = some (some (.ref a_check_steps_mends)))
    (g_mends : PySem.W.nsIn K mainGlobals "mends" = some (some (.ref a_mends)))
    (g_mended : PySem.W.nsIn K mainGlobals "mended" = some (some (.ref a_mended)))
    (g_read_stands : PySem.W.nsIn K mainGlobals "_read_stands" = some (some (.ref a_read_stands)))
    (g_read : PySem.W.nsIn K mainGlobals "read" = some (some (.ref a_read)))
    (g_law_taken : PySem.W.nsIn K mainGlobals "_law_taken" = some (some (.ref a_law_taken)))
    (g_law_call : PySem.W.nsIn K mainGlobals "_law_call" = some (some (.ref a_law_call)))
    (g_law_first : PySem.W.nsIn K mainGlobals "_law_first" = some (some (.ref a_law_first)))
    (g_law_second : PySem.W.nsIn K mainGlobals "_law_second" = some (some (.ref a_law_second)))
    (g_law : PySem.W.nsIn K mainGlobals "law" = some (some (.ref a_law)))
    (g_Machine : PySem.W.nsIn K mainGlobals "Machine" = some (some (.ref c_Machine)))
    (g_Meter : PySem.W.nsIn K mainGlobals "Meter" = some (some (.ref c_Meter)))
    (g_LineReader : PySem.W.nsIn K mainGlobals "LineReader" = some (some (.ref c_LineReader)))
    (g_BadStands : PySem.W.nsIn K mainGlobals "BadStands" = some (some (.ref c_BadStands)))
    (g_BadEnds : PySem.W.nsIn K mainGlobals "BadEnds" = some (some (.ref c_BadEnds)))
    (g_BadMachine : PySem.W.nsIn K mainGlobals "BadMachine" = some (some (.ref c_BadMachine)))
    (g_BadStand : PySem.W.nsIn K mainGlobals "BadStand" = some (some (.ref c_BadStand)))
    (g_BadRow : PySem.W.nsIn K mainGlobals "BadRow" = some (some (.ref c_BadRow)))
    (g_BadLetter : PySem.W.nsIn K mainGlobals "BadLetter" = some (some (.ref c_BadLetter)))
    (g_BadBounds : PySem.W.nsIn K mainGlobals "BadBounds" = some (some (.ref c_BadBounds)))
    (g_BadSet : PySem.W.nsIn K mainGlobals "BadSet" = some (some (.ref c_BadSet)))
    (g_BadSteps : PySem.W.nsIn K mainGlobals "BadSteps" = some (some (.ref c_BadSteps)))
    (g_BadNumber : PySem.W.nsIn K mainGlobals "BadNumber" = some (some (.ref c_BadNumber)))
    (g_TooMany : PySem.W.nsIn K mainGlobals "TooMany" = some (some (.ref c_TooMany)))
    (g_InvalidText : PySem.W.nsIn K mainGlobals "InvalidText" = some (some (.ref c_InvalidText)))
    (g_TallyError : PySem.W.nsIn K mainGlobals "TallyError" = some (some (.ref c_TallyError)))
    (g_MOST_STANDS : PySem.W.nsIn K mainGlobals "MOST_STANDS" = some (some (.int 8 t_MOST_STANDS)))
    (g_MOST_GAIN : PySem.W.nsIn K mainGlobals "MOST_GAIN" = some (some (.int 1000000000000000000000000000000 t_MOST_GAIN)))
    (g_LETTERS : PySem.W.nsIn K mainGlobals "LETTERS" = some (some (.ref a_LETTERS)))
    (g_MOST_LENGTH : PySem.W.nsIn K mainGlobals "MOST_LENGTH" = some (some (.int 12 t_MOST_LENGTH)))
    (g_MOST_NUMBER : PySem.W.nsIn K mainGlobals "MOST_NUMBER" = some (some (.int 10000000000000000000000000000000000000000 t_MOST_NUMBER)))
    (g_MOST_STEPS : PySem.W.nsIn K mainGlobals "MOST_STEPS" = some (some (.int 12 t_MOST_STEPS)))
    (zz_bool : PySem.W.nsIn K mainGlobals "bool" = some none)
    (zz_enumerate : PySem.W.nsIn K mainGlobals "enumerate" = some none)
    (zz_int : PySem.W.nsIn K mainGlobals "int" = some none)
    (zz_isinstance : PySem.W.nsIn K mainGlobals "isinstance" = some none)
    (zz_len : PySem.W.nsIn K mainGlobals "len" = some none)
    (zz_list : PySem.W.nsIn K mainGlobals "list" = some none)
    (zz_max : PySem.W.nsIn K mainGlobals "max" = some none)
    (zz_min : PySem.W.nsIn K mainGlobals "min" = some none)
    (zz_range : PySem.W.nsIn K mainGlobals "range" = some none)
    (zz_str : PySem.W.nsIn K mainGlobals "str" = some none)
    (zz_tuple : PySem.W.nsIn K mainGlobals "tuple" = some none)
    (l_BadSteps_init : K.lookup a_BadSteps_init = some ⟨oc_BadSteps_init, od_BadSteps_init, .func (PySem.W.fnOf "__init__" "BadSteps.__init__" (defArgs s_BadSteps_init) (defBody s_BadSteps_init) (defScope s_BadSteps_init) .none kV_BadSteps_init dc_BadSteps_init pm_BadSteps_init an_BadSteps_init cd_BadSteps_init ct_BadSteps_init), sl_BadSteps_init⟩)
    (c_BadSteps_init : PySem.W.codeIn K cd_BadSteps_init "BadSteps.__init__" = true)
    (kk_BadSteps_init : PySem.W.keepIn K (.ref a_BadSteps_init) = true)
    (l_BadNumber_init : K.lookup a_BadNumber_init = some ⟨oc_BadNumber_init, od_BadNumber_init, .func (PySem.W.fnOf "__init__" "BadNumber.__init__" (defArgs s_BadNumber_init) (defBody s_BadNumber_init) (defScope s_BadNumber_init) .none kV_BadNumber_init dc_BadNumber_init pm_BadNumber_init an_BadNumber_init cd_BadNumber_init ct_BadNumber_init), sl_BadNumber_init⟩)
    (c_BadNumber_init : PySem.W.codeIn K cd_BadNumber_init "BadNumber.__init__" = true)
    (kk_BadNumber_init : PySem.W.keepIn K (.ref a_BadNumber_init) = true)
    (l_TooMany_init : K.lookup a_TooMany_init = some ⟨oc_TooMany_init, od_TooMany_init, .func (PySem.W.fnOf "__init__" "TooMany.__init__" (defArgs s_TooMany_init) (defBody s_TooMany_init) (defScope s_TooMany_init) .none kV_TooMany_init dc_TooMany_init pm_TooMany_init an_TooMany_init cd_TooMany_init ct_TooMany_init), sl_TooMany_init⟩)
    (c_TooMany_init : PySem.W.codeIn K cd_TooMany_init "TooMany.__init__" = true)
    (kk_TooMany_init : PySem.W.keepIn K (.ref a_TooMany_init) = true)
    (l_InvalidText_init : K.lookup a_InvalidText_init = some ⟨oc_InvalidText_init, od_InvalidText_init, .func (PySem.W.fnOf "__init__" "InvalidText.__init__" (defArgs s_InvalidText_init) (defBody s_InvalidText_init) (defScope s_InvalidText_init) .none kV_InvalidText_init dc_InvalidText_init pm_InvalidText_init an_InvalidText_init cd_InvalidText_init ct_InvalidText_init), sl_InvalidText_init⟩)
    (c_InvalidText_init : PySem.W.codeIn K cd_InvalidText_init "InvalidText.__init__" = true)
    (kk_InvalidText_init : PySem.W.keepIn K (.ref a_InvalidText_init) = true)
    (l_Machine_init : K.lookup a_Machine_init = some ⟨oc_Machine_init, od_Machine_init, .func (PySem.W.fnOf "__init__" "Machine.__init__" (defArgs s_Machine_init) (defBody s_Machine_init) (defScope s_Machine_init) .none kV_Machine_init dc_Machine_init pm_Machine_init an_Machine_init cd_Machine_init ct_Machine_init), sl_Machine_init⟩)
    (c_Machine_init : PySem.W.codeIn K cd_Machine_init "Machine.__init__" = true)
    (kk_Machine_init : PySem.W.keepIn K (.ref a_Machine_init) = true)
    (l_Machine_stands : K.lookup a_Machine_stands = some ⟨oc_Machine_stands, od_Machine_stands, .func (PySem.W.fnOf "stands" "Machine.stands" (defArgs s_Machine_stands) (defBody s_Machine_stands) (defScope s_Machine_stands) .none kV_Machine_stands dc_Machine_stands pm_Machine_stands an_Machine_stands cd_Machine_stands ct_Machine_stands), sl_Machine_stands⟩)
    (c_Machine_stands : PySem.W.codeIn K cd_Machine_stands "Machine.stands" = true)
    (kk_Machine_stands : PySem.W.keepIn K (.ref a_Machine_stands) = true)
    (l_Machine_steps : K.lookup a_Machine_steps = some ⟨oc_Machine_steps, od_Machine_steps, .func (PySem.W.fnOf "steps" "Machine.steps" (defArgs s_Machine_steps) (defBody s_Machine_steps) (defScope s_Machine_steps) .none kV_Machine_steps dc_Machine_steps pm_Machine_steps an_Machine_steps cd_Machine_steps ct_Machine_steps), sl_Machine_steps⟩)
    (c_Machine_steps : PySem.W.codeIn K cd_Machine_steps "Machine.steps" = true)
    (kk_Machine_steps : PySem.W.keepIn K (.ref a_Machine_steps) = true)
    (l_is_whole_number : K.lookup a_is_whole_number = some ⟨oc_is_whole_number, od_is_whole_number, .func (PySem.W.fnOf "is_whole_number" "is_whole_number" (defArgs s_is_whole_number) (defBody s_is_whole_number) (defScope s_is_whole_number) .none kV_is_whole_number dc_is_whole_number pm_is_whole_number an_is_whole_number cd_is_whole_number ct_is_whole_number), sl_is_whole_number⟩)
    (c_is_whole_number : PySem.W.codeIn K cd_is_whole_number "is_whole_number" = true)
    (kk_is_whole_number : PySem.W.keepIn K (.ref a_is_whole_number) = true)
    (l_is_integer_between : K.lookup a_is_integer_between = some ⟨oc_is_integer_between, od_is_integer_between, .func (PySem.W.fnOf "is_integer_between" "is_integer_between" (defArgs s_is_integer_between) (defBody s_is_integer_between) (defScope s_is_integer_between) .none kV_is_integer_between dc_is_integer_between pm_is_integer_between an_is_integer_between cd_is_integer_between ct_is_integer_between), sl_is_integer_between⟩)
    (c_is_integer_between : PySem.W.codeIn K cd_is_integer_between "is_integer_between" = true)
    (kk_is_integer_between : PySem.W.keepIn K (.ref a_is_integer_between) = true)
    (l_is_stand : K.lookup a_is_stand = some ⟨oc_is_stand, od_is_stand, .func (PySem.W.fnOf "_is_stand" "_is_stand" (defArgs s_is_stand) (defBody s_is_stand) (defScope s_is_stand) .none kV_is_stand dc_is_stand pm_is_stand an_is_stand cd_is_stand ct_is_stand), sl_is_stand⟩)
    (c_is_stand : PySem.W.codeIn K cd_is_stand "_is_stand" = true)
    (kk_is_stand : PySem.W.keepIn K (.ref a_is_stand) = true)
    (l_check_stands : K.lookup a_check_stands = some ⟨oc_check_stands, od_check_stands, .func (PySem.W.fnOf "_check_stands" "_check_stands" (defArgs s_check_stands) (defBody s_check_stands) (defScope s_check_stands) .none kV_check_stands dc_check_stands pm_check_stands an_check_stands cd_check_stands ct_check_stands), sl_check_stands⟩)
    (c_check_stands : PySem.W.codeIn K cd_check_stands "_check_stands" = true)
    (kk_check_stands : PySem.W.keepIn K (.ref a_check_stands) = true)
    (l_is_step : K.lookup a_is_step = some ⟨oc_is_step, od_is_step, .func (PySem.W.fnOf "_is_step" "_is_step" (defArgs s_is_step) (defBody s_is_step) (defScope s_is_step) .none kV_is_step dc_is_step pm_is_step an_is_step cd_is_step ct_is_step), sl_is_step⟩)
    (c_is_step : PySem.W.codeIn K cd_is_step "_is_step" = true)
    (kk_is_step : PySem.W.keepIn K (.ref a_is_step) = true)
    (l_check_steps : K.lookup a_check_steps = some ⟨oc_check_steps, od_check_steps, .func (PySem.W.fnOf "_check_steps" "_check_steps" (defArgs s_check_steps) (defBody s_check_steps) (defScope s_check_steps) .none kV_check_steps dc_check_steps pm_check_steps an_check_steps cd_check_steps ct_check_steps), sl_check_steps⟩)
    (c_check_steps : PySem.W.codeIn K cd_check_steps "_check_steps" = true)
    (kk_check_steps : PySem.W.keepIn K (.ref a_check_steps) = true)
    (l_is_ascending : K.lookup a_is_ascending = some ⟨oc_is_ascending, od_is_ascending, .func (PySem.W.fnOf "is_ascending" "is_ascending" (defArgs s_is_ascending) (defBody s_is_ascending) (defScope s_is_ascending) .none kV_is_ascending dc_is_ascending pm_is_ascending an_is_ascending cd_is_ascending ct_is_ascending), sl_is_ascending⟩)
    (c_is_ascending : PySem.W.codeIn K cd_is_ascending "is_ascending" = true)
    (kk_is_ascending : PySem.W.keepIn K (.ref a_is_ascending) = true)
    (l_check_ends : K.lookup a_check_ends = some ⟨oc_check_ends, od_check_ends, .func (PySem.W.fnOf "_check_ends" "_check_ends" (defArgs s_check_ends) (defBody s_check_ends) (defScope s_check_ends) .none kV_check_ends dc_check_ends pm_check_ends an_check_ends cd_check_ends ct_check_ends), sl_check_ends⟩)
    (c_check_ends : PySem.W.codeIn K cd_check_ends "_check_ends" = true)
    (kk_check_ends : PySem.W.keepIn K (.ref a_check_ends) = true)
    (l_check_machine : K.lookup a_check_machine = some ⟨oc_check_machine, od_check_machine, .func (PySem.W.fnOf "check_machine" "check_machine" (defArgs s_check_machine) (defBody s_check_machine) (defScope s_check_machine) .none kV_check_machine dc_check_machine pm_check_machine an_check_machine cd_check_machine ct_check_machine), sl_check_machine⟩)
    (c_check_machine : PySem.W.codeIn K cd_check_machine "check_machine" = true)
    (kk_check_machine : PySem.W.keepIn K (.ref a_check_machine) = true)
    (l_check_stand : K.lookup a_check_stand = some ⟨oc_check_stand, od_check_stand, .func (PySem.W.fnOf "check_stand" "check_stand" (defArgs s_check_stand) (defBody s_check_stand) (defScope s_check_stand) .none kV_check_stand dc_check_stand pm_check_stand an_check_stand cd_check_stand ct_check_stand), sl_check_stand⟩)
    (c_check_stand : PySem.W.codeIn K cd_check_stand "check_stand" = true)
    (kk_check_stand : PySem.W.keepIn K (.ref a_check_stand) = true)
    (l_check_number : K.lookup a_check_number = some ⟨oc_check_number, od_check_number, .func (PySem.W.fnOf "check_number" "check_number" (defArgs s_check_number) (defBody s_check_number) (defScope s_check_number) .none kV_check_number dc_check_number pm_check_number an_check_number cd_check_number ct_check_number), sl_check_number⟩)
    (c_check_number : PySem.W.codeIn K cd_check_number "check_number" = true)
    (kk_check_number : PySem.W.keepIn K (.ref a_check_number) = true)
    (l_moves_of : K.lookup a_moves_of = some ⟨oc_moves_of, od_moves_of, .func (PySem.W.fnOf "moves_of" "moves_of" (defArgs s_moves_of) (defBody s_moves_of) (defScope s_moves_of) .none kV_moves_of dc_moves_of pm_moves_of an_moves_of cd_moves_of ct_moves_of), sl_moves_of⟩)
    (c_moves_of : PySem.W.codeIn K cd_moves_of "moves_of" = true)
    (kk_moves_of : PySem.W.keepIn K (.ref a_moves_of) = true)
    (l_way : K.lookup a_way = some ⟨oc_way, od_way, .func (PySem.W.fnOf "way" "way" (defArgs s_way) (defBody s_way) (defScope s_way) .none kV_way dc_way pm_way an_way cd_way ct_way), sl_way⟩)
    (c_way : PySem.W.codeIn K cd_way "way" = true)
    (kk_way : PySem.W.keepIn K (.ref a_way) = true)
    (l_behind : K.lookup a_behind = some ⟨oc_behind, od_behind, .func (PySem.W.fnOf "behind" "behind" (defArgs s_behind) (defBody s_behind) (defScope s_behind) .none kV_behind dc_behind pm_behind an_behind cd_behind ct_behind), sl_behind⟩)
    (c_behind : PySem.W.codeIn K cd_behind "behind" = true)
    (kk_behind : PySem.W.keepIn K (.ref a_behind) = true)
    (l_reached : K.lookup a_reached = some ⟨oc_reached, od_reached, .func (PySem.W.fnOf "reached" "reached" (defArgs s_reached) (defBody s_reached) (defScope s_reached) .none kV_reached dc_reached pm_reached an_reached cd_reached ct_reached), sl_reached⟩)
    (c_reached : PySem.W.codeIn K cd_reached "reached" = true)
    (kk_reached : PySem.W.keepIn K (.ref a_reached) = true)
    (l_tally_at : K.lookup a_tally_at = some ⟨oc_tally_at, od_tally_at, .func (PySem.W.fnOf "_tally_at" "_tally_at" (defArgs s_tally_at) (defBody s_tally_at) (defScope s_tally_at) .none kV_tally_at dc_tally_at pm_tally_at an_tally_at cd_tally_at ct_tally_at), sl_tally_at⟩)
    (c_tally_at : PySem.W.codeIn K cd_tally_at "_tally_at" = true)
    (kk_tally_at : PySem.W.keepIn K (.ref a_tally_at) = true)
    (l_greatest_at : K.lookup a_greatest_at = some ⟨oc_greatest_at, od_greatest_at, .func (PySem.W.fnOf "greatest_at" "greatest_at" (defArgs s_greatest_at) (defBody s_greatest_at) (defScope s_greatest_at) .none kV_greatest_at dc_greatest_at pm_greatest_at an_greatest_at cd_greatest_at ct_greatest_at), sl_greatest_at⟩)
    (c_greatest_at : PySem.W.codeIn K cd_greatest_at "greatest_at" = true)
    (kk_greatest_at : PySem.W.keepIn K (.ref a_greatest_at) = true)
    (l_check_bounds : K.lookup a_check_bounds = some ⟨oc_check_bounds, od_check_bounds, .func (PySem.W.fnOf "check_bounds" "check_bounds" (defArgs s_check_bounds) (defBody s_check_bounds) (defScope s_check_bounds) .none kV_check_bounds dc_check_bounds pm_check_bounds an_check_bounds cd_check_bounds ct_check_bounds), sl_check_bounds⟩)
    (c_check_bounds : PySem.W.codeIn K cd_check_bounds "check_bounds" = true)
    (kk_check_bounds : PySem.W.keepIn K (.ref a_check_bounds) = true)
    (l_stays : K.lookup a_stays = some ⟨oc_stays, od_stays, .func (PySem.W.fnOf "stays" "stays" (defArgs s_stays) (defBody s_stays) (defScope s_stays) .none kV_stays dc_stays pm_stays an_stays cd_stays ct_stays), sl_stays⟩)
    (c_stays : PySem.W.codeIn K cd_stays "stays" = true)
    (kk_stays : PySem.W.keepIn K (.ref a_stays) = true)
    (l_tallies : K.lookup a_tallies = some ⟨oc_tallies, od_tallies, .func (PySem.W.fnOf "tallies" "tallies" (defArgs s_tallies) (defBody s_tallies) (defScope s_tallies) .none kV_tallies dc_tallies pm_tallies an_tallies cd_tallies ct_tallies), sl_tallies⟩)
    (c_tallies : PySem.W.codeIn K cd_tallies "tallies" = true)
    (kk_tallies : PySem.W.keepIn K (.ref a_tallies) = true)
    (l_check_steps_mends : K.lookup a_check_steps_mends = some ⟨oc_check_steps_mends, od_check_steps_mends, .func (PySem.W.fnOf "_check_steps" "_check_steps" (defArgs s_check_steps_mends) (defBody s_check_steps_mends) (defScope s_check_steps_mends) .none kV_check_steps_mends dc_check_steps_mends pm_check_steps_mends an_check_steps_mends cd_check_steps_mends ct_check_steps_mends), sl_check_steps_mends⟩)
    (c_check_steps_mends : PySem.W.codeIn K cd_check_steps_mends "_check_steps" = true)
    (kk_check_steps_mends : PySem.W.keepIn K (.ref a_check_steps_mends) = true)
    (l_mends : K.lookup a_mends = some ⟨oc_mends, od_mends, .func (PySem.W.fnOf "mends" "mends" (defArgs s_mends) (defBody s_mends) (defScope s_mends) .none kV_mends dc_mends pm_mends an_mends cd_mends ct_mends), sl_mends⟩)
    (c_mends : PySem.W.codeIn K cd_mends "mends" = true)
    (kk_mends : PySem.W.keepIn K (.ref a_mends) = true)
    (l_mended : K.lookup a_mended = some ⟨oc_mended, od_mended, .func (PySem.W.fnOf "mended" "mended" (defArgs s_mended) (defBody s_mended) (defScope s_mended) .none kV_mended dc_mended pm_mended an_mended cd_mended ct_mended), sl_mended⟩)
    (c_mended : PySem.W.codeIn K cd_mended "mended" = true)
    (kk_mended : PySem.W.keepIn K (.ref a_mended) = true)
    (l_Meter_init : K.lookup a_Meter_init = some ⟨oc_Meter_init, od_Meter_init, .func (PySem.W.fnOf "__init__" "Meter.__init__" (defArgs s_Meter_init) (defBody s_Meter_init) (defScope s_Meter_init) .none kV_Meter_init dc_Meter_init pm_Meter_init an_Meter_init cd_Meter_init ct_Meter_init), sl_Meter_init⟩)
    (c_Meter_init : PySem.W.codeIn K cd_Meter_init "Meter.__init__" = true)
    (kk_Meter_init : PySem.W.keepIn K (.ref a_Meter_init) = true)
    (l_Meter_read : K.lookup a_Meter_read = some ⟨oc_Meter_read, od_Meter_read, .func (PySem.W.fnOf "read" "Meter.read" (defArgs s_Meter_read) (defBody s_Meter_read) (defScope s_Meter_read) .none kV_Meter_read dc_Meter_read pm_Meter_read an_Meter_read cd_Meter_read ct_Meter_read), sl_Meter_read⟩)
    (c_Meter_read : PySem.W.codeIn K cd_Meter_read "Meter.read" = true)
    (kk_Meter_read : PySem.W.keepIn K (.ref a_Meter_read) = true)
    (l_LineReader_init : K.lookup a_LineReader_init = some ⟨oc_LineReader_init, od_LineReader_init, .func (PySem.W.fnOf "__init__" "LineReader.__init__" (defArgs s_LineReader_init) (defBody s_LineReader_init) (defScope s_LineReader_init) .none kV_LineReader_init dc_LineReader_init pm_LineReader_init an_LineReader_init cd_LineReader_init ct_LineReader_init), sl_LineReader_init⟩)
    (c_LineReader_init : PySem.W.codeIn K cd_LineReader_init "LineReader.__init__" = true)
    (kk_LineReader_init : PySem.W.keepIn K (.ref a_LineReader_init) = true)
    (l_LineReader_is_over : K.lookup a_LineReader_is_over = some ⟨oc_LineReader_is_over, od_LineReader_is_over, .func (PySem.W.fnOf "is_over" "LineReader.is_over" (defArgs s_LineReader_is_over) (defBody s_LineReader_is_over) (defScope s_LineReader_is_over) .none kV_LineReader_is_over dc_LineReader_is_over pm_LineReader_is_over an_LineReader_is_over cd_LineReader_is_over ct_LineReader_is_over), sl_LineReader_is_over⟩)
    (c_LineReader_is_over : PySem.W.codeIn K cd_LineReader_is_over "LineReader.is_over" = true)
    (kk_LineReader_is_over : PySem.W.keepIn K (.ref a_LineReader_is_over) = true)
    (l_LineReader_fail : K.lookup a_LineReader_fail = some ⟨oc_LineReader_fail, od_LineReader_fail, .func (PySem.W.fnOf "fail" "LineReader.fail" (defArgs s_LineReader_fail) (defBody s_LineReader_fail) (defScope s_LineReader_fail) .none kV_LineReader_fail dc_LineReader_fail pm_LineReader_fail an_LineReader_fail cd_LineReader_fail ct_LineReader_fail), sl_LineReader_fail⟩)
    (c_LineReader_fail : PySem.W.codeIn K cd_LineReader_fail "LineReader.fail" = true)
    (kk_LineReader_fail : PySem.W.keepIn K (.ref a_LineReader_fail) = true)
    (l_LineReader_take : K.lookup a_LineReader_take = some ⟨oc_LineReader_take, od_LineReader_take, .func (PySem.W.fnOf "take" "LineReader.take" (defArgs s_LineReader_take) (defBody s_LineReader_take) (defScope s_LineReader_take) .none kV_LineReader_take dc_LineReader_take pm_LineReader_take an_LineReader_take cd_LineReader_take ct_LineReader_take), sl_LineReader_take⟩)
    (c_LineReader_take : PySem.W.codeIn K cd_LineReader_take "LineReader.take" = true)
    (kk_LineReader_take : PySem.W.keepIn K (.ref a_LineReader_take) = true)
    (l_read_stands : K.lookup a_read_stands = some ⟨oc_read_stands, od_read_stands, .func (PySem.W.fnOf "_read_stands" "_read_stands" (defArgs s_read_stands) (defBody s_read_stands) (defScope s_read_stands) .none kV_read_stands dc_read_stands pm_read_stands an_read_stands cd_read_stands ct_read_stands), sl_read_stands⟩)
    (c_read_stands : PySem.W.codeIn K cd_read_stands "_read_stands" = true)
    (kk_read_stands : PySem.W.keepIn K (.ref a_read_stands) = true)
    (l_read : K.lookup a_read = some ⟨oc_read, od_read, .func (PySem.W.fnOf "read" "read" (defArgs s_read) (defBody s_read) (defScope s_read) .none kV_read dc_read pm_read an_read cd_read ct_read), sl_read⟩)
    (c_read : PySem.W.codeIn K cd_read "read" = true)
    (kk_read : PySem.W.keepIn K (.ref a_read) = true)
    (l_law_taken : K.lookup a_law_taken = some ⟨oc_law_taken, od_law_taken, .func (PySem.W.fnOf "_law_taken" "_law_taken" (defArgs s_law_taken) (defBody s_law_taken) (defScope s_law_taken) .none kV_law_taken dc_law_taken pm_law_taken an_law_taken cd_law_taken ct_law_taken), sl_law_taken⟩)
    (c_law_taken : PySem.W.codeIn K cd_law_taken "_law_taken" = true)
    (kk_law_taken : PySem.W.keepIn K (.ref a_law_taken) = true)
    (l_law_call : K.lookup a_law_call = some ⟨oc_law_call, od_law_call, .func (PySem.W.fnOf "_law_call" "_law_call" (defArgs s_law_call) (defBody s_law_call) (defScope s_law_call) .none kV_law_call dc_law_call pm_law_call an_law_call cd_law_call ct_law_call), sl_law_call⟩)
    (c_law_call : PySem.W.codeIn K cd_law_call "_law_call" = true)
    (kk_law_call : PySem.W.keepIn K (.ref a_law_call) = true)
    (l_law_first : K.lookup a_law_first = some ⟨oc_law_first, od_law_first, .func (PySem.W.fnOf "_law_first" "_law_first" (defArgs s_law_first) (defBody s_law_first) (defScope s_law_first) .none kV_law_first dc_law_first pm_law_first an_law_first cd_law_first ct_law_first), sl_law_first⟩)
    (c_law_first : PySem.W.codeIn K cd_law_first "_law_first" = true)
    (kk_law_first : PySem.W.keepIn K (.ref a_law_first) = true)
    (l_law_second : K.lookup a_law_second = some ⟨oc_law_second, od_law_second, .func (PySem.W.fnOf "_law_second" "_law_second" (defArgs s_law_second) (defBody s_law_second) (defScope s_law_second) .none kV_law_second dc_law_second pm_law_second an_law_second cd_law_second ct_law_second), sl_law_second⟩)
    (c_law_second : PySem.W.codeIn K cd_law_second "_law_second" = true)
    (kk_law_second : PySem.W.keepIn K (.ref a_law_second) = true)
    (l_law : K.lookup a_law = some ⟨oc_law, od_law, .func (PySem.W.fnOf "law" "law" (defArgs s_law) (defBody s_law) (defScope s_law) .none kV_law dc_law pm_law an_law cd_law ct_law), sl_law⟩)
    (c_law : PySem.W.codeIn K cd_law "law" = true)
    (kk_law : PySem.W.keepIn K (.ref a_law) = true)
    (pg_Machine : PySem.W.plainGet K c_Machine Str.empty = true)
    (hd_Machine : PySem.W.hasDictIn K c_Machine = true)
    (po_Machine : PySem.W.plainOver K c_Machine = true)
    (sa_Machine : PySem.W.findIn K (.ref c_Machine) "__setattr__" = some (some (.builtin "object.__setattr__")))
    (mi_Machine : PySem.W.makesIn K c_Machine = true)
    (kc_Machine : PySem.W.keepIn K (.ref c_Machine) = true)
    (fi_Machine : PySem.W.findIn K (.ref c_Machine) "__init__" = some (some (.ref a_Machine_init)))
    (if_Machine : PySem.W.isFn K (.ref a_Machine_init) = true)
    (nf_stands : PySem.W.findIn K (.ref c_Machine) "_stands" = some none)
    (nf_steps : PySem.W.findIn K (.ref c_Machine) "_steps" = some none)
    (nf_ends : PySem.W.findIn K (.ref c_Machine) "_ends" = some none)
    (pf_stands : PySem.W.findIn K (.ref c_Machine) "stands" = some (some (.ref q_stands)))
    (pt_stands : PySem.W.specialIn K (.ref q_stands) "__get__" = some (some (.builtin "property.__get__")))
    (pk_stands : PySem.W.takesIn K (.ref q_stands) = some true)
    (pr_stands : PySem.W.recIn K q_stands "property" = some (.ref a_Machine_stands :: rest_stands))
    (pf_steps : PySem.W.findIn K (.ref c_Machine) "steps" = some (some (.ref q_steps)))
    (pt_steps : PySem.W.specialIn K (.ref q_steps) "__get__" = some (some (.builtin "property.__get__")))
    (pk_steps : PySem.W.takesIn K (.ref q_steps) = some true)
    (pr_steps : PySem.W.recIn K q_steps "property" = some (.ref a_Machine_steps :: rest_steps))
    (x_i1_Machine : PySem.W.findIn K (.ref c_Machine) "__class__" = some (some (.builtin "object.__class__")))
    (x_i2_Machine : PySem.W.specialIn K (.builtin "object.__class__") "__get__" = some (some (.builtin "getset_descriptor.__get__")))
    (x_i3_Machine : PySem.W.takesIn K (.builtin "object.__class__") = some true)
    (x_i4_Machine : PySem.W.mroIn K c_Machine (.type "object") = some true)
    (x_j1_Machine : PySem.W.isClsIn K c_Machine = true)
    (x_j2_Machine : PySem.W.typeIn K (.ref c_Machine) = some (.type "type"))
    (pg_Meter : PySem.W.plainGet K c_Meter Str.empty = true)
    (hd_Meter : PySem.W.hasDictIn K c_Meter = true)
    (po_Meter : PySem.W.plainOver K c_Meter = true)
    (sa_Meter : PySem.W.findIn K (.ref c_Meter) "__setattr__" = some (some (.builtin "object.__setattr__")))
    (mi_Meter : PySem.W.makesIn K c_Meter = true)
    (kc_Meter : PySem.W.keepIn K (.ref c_Meter) = true)
    (fi_Meter : PySem.W.findIn K (.ref c_Meter) "__init__" = some (some (.ref a_Meter_init)))
    (if_Meter : PySem.W.isFn K (.ref a_Meter_init) = true)
    (nf_machine : PySem.W.findIn K (.ref c_Meter) "_machine" = some none)
    (nf_moves : PySem.W.findIn K (.ref c_Meter) "_moves" = some none)
    (nf_row : PySem.W.findIn K (.ref c_Meter) "_row" = some none)
    (nf_places : PySem.W.findIn K (.ref c_Meter) "_places" = some none)
    (hm_Meter_read : PySem.W.findIn K (.ref c_Meter) "read" = some (some (.ref a_Meter_read)))
    (hn_Meter_read : PySem.W.isFn K (.ref a_Meter_read) = true)
    (pg_LineReader : PySem.W.plainGet K c_LineReader Str.empty = true)
    (hd_LineReader : PySem.W.hasDictIn K c_LineReader = true)
    (po_LineReader : PySem.W.plainOver K c_LineReader = true)
    (sa_LineReader : PySem.W.findIn K (.ref c_LineReader) "__setattr__" = some (some (.builtin "object.__setattr__")))
    (mi_LineReader : PySem.W.makesIn K c_LineReader = true)
    (kc_LineReader : PySem.W.keepIn K (.ref c_LineReader) = true)
    (fi_LineReader : PySem.W.findIn K (.ref c_LineReader) "__init__" = some (some (.ref a_LineReader_init)))
    (if_LineReader : PySem.W.isFn K (.ref a_LineReader_init) = true)
    (nf_place : PySem.W.findIn K (.ref c_LineReader) "_place" = some none)
    (nf_words : PySem.W.findIn K (.ref c_LineReader) "_words" = some none)
    (nf_taken : PySem.W.findIn K (.ref c_LineReader) "_taken" = some none)
    (hm_LineReader_is_over : PySem.W.findIn K (.ref c_LineReader) "is_over" = some (some (.ref a_LineReader_is_over)))
    (hn_LineReader_is_over : PySem.W.isFn K (.ref a_LineReader_is_over) = true)
    (hm_LineReader_fail : PySem.W.findIn K (.ref c_LineReader) "fail" = some (some (.ref a_LineReader_fail)))
    (hn_LineReader_fail : PySem.W.isFn K (.ref a_LineReader_fail) = true)
    (hm_LineReader_take : PySem.W.findIn K (.ref c_LineReader) "take" = some (some (.ref a_LineReader_take)))
    (hn_LineReader_take : PySem.W.isFn K (.ref a_LineReader_take) = true)
    (xx_BadStands : PySem.W.excIn K c_BadStands [.type "ValueError", .type "Exception", .type "BaseException", .type "object"] "ValueError.__new__" = true)
    (xk_BadStands : PySem.W.keepIn K (.ref c_BadStands) = true)
    (xb_BadStands : PySem.W.subIn K (.ref c_BadStands) (.type "BaseException") = some true)
    (xt_BadStands : PySem.W.typeIn K (.ref c_BadStands) = some (.type "type"))
    (xi_BadStands : PySem.W.isClsIn K c_BadStands = true)
    (xs_BadStands : PySem.W.subIn K (.ref c_BadStands) (.ref c_BadStands) = some true)
    (xx_BadEnds : PySem.W.excIn K c_BadEnds [.type "ValueError", .type "Exception", .type "BaseException", .type "object"] "ValueError.__new__" = true)
    (xk_BadEnds : PySem.W.keepIn K (.ref c_BadEnds) = true)
    (xb_BadEnds : PySem.W.subIn K (.ref c_BadEnds) (.type "BaseException") = some true)
    (xt_BadEnds : PySem.W.typeIn K (.ref c_BadEnds) = some (.type "type"))
    (xi_BadEnds : PySem.W.isClsIn K c_BadEnds = true)
    (xs_BadEnds : PySem.W.subIn K (.ref c_BadEnds) (.ref c_BadEnds) = some true)
    (xx_BadMachine : PySem.W.excIn K c_BadMachine [.type "ValueError", .type "Exception", .type "BaseException", .type "object"] "ValueError.__new__" = true)
    (xk_BadMachine : PySem.W.keepIn K (.ref c_BadMachine) = true)
    (xb_BadMachine : PySem.W.subIn K (.ref c_BadMachine) (.type "BaseException") = some true)
    (xt_BadMachine : PySem.W.typeIn K (.ref c_BadMachine) = some (.type "type"))
    (xi_BadMachine : PySem.W.isClsIn K c_BadMachine = true)
    (xs_BadMachine : PySem.W.subIn K (.ref c_BadMachine) (.ref c_BadMachine) = some true)
    (xx_BadStand : PySem.W.excIn K c_BadStand [.type "ValueError", .type "Exception", .type "BaseException", .type "object"] "ValueError.__new__" = true)
    (xk_BadStand : PySem.W.keepIn K (.ref c_BadStand) = true)
    (xb_BadStand : PySem.W.subIn K (.ref c_BadStand) (.type "BaseException") = some true)
    (xt_BadStand : PySem.W.typeIn K (.ref c_BadStand) = some (.type "type"))
    (xi_BadStand : PySem.W.isClsIn K c_BadStand = true)
    (xs_BadStand : PySem.W.subIn K (.ref c_BadStand) (.ref c_BadStand) = some true)
    (xx_BadRow : PySem.W.excIn K c_BadRow [.type "ValueError", .type "Exception", .type "BaseException", .type "object"] "ValueError.__new__" = true)
    (xk_BadRow : PySem.W.keepIn K (.ref c_BadRow) = true)
    (xb_BadRow : PySem.W.subIn K (.ref c_BadRow) (.type "BaseException") = some true)
    (xt_BadRow : PySem.W.typeIn K (.ref c_BadRow) = some (.type "type"))
    (xi_BadRow : PySem.W.isClsIn K c_BadRow = true)
    (xs_BadRow : PySem.W.subIn K (.ref c_BadRow) (.ref c_BadRow) = some true)
    (xx_BadLetter : PySem.W.excIn K c_BadLetter [.type "ValueError", .type "Exception", .type "BaseException", .type "object"] "ValueError.__new__" = true)
    (xk_BadLetter : PySem.W.keepIn K (.ref c_BadLetter) = true)
    (xb_BadLetter : PySem.W.subIn K (.ref c_BadLetter) (.type "BaseException") = some true)
    (xt_BadLetter : PySem.W.typeIn K (.ref c_BadLetter) = some (.type "type"))
    (xi_BadLetter : PySem.W.isClsIn K c_BadLetter = true)
    (xs_BadLetter : PySem.W.subIn K (.ref c_BadLetter) (.ref c_BadLetter) = some true)
    (xx_BadBounds : PySem.W.excIn K c_BadBounds [.type "ValueError", .type "Exception", .type "BaseException", .type "object"] "ValueError.__new__" = true)
    (xk_BadBounds : PySem.W.keepIn K (.ref c_BadBounds) = true)
    (xb_BadBounds : PySem.W.subIn K (.ref c_BadBounds) (.type "BaseException") = some true)
    (xt_BadBounds : PySem.W.typeIn K (.ref c_BadBounds) = some (.type "type"))
    (xi_BadBounds : PySem.W.isClsIn K c_BadBounds = true)
    (xs_BadBounds : PySem.W.subIn K (.ref c_BadBounds) (.ref c_BadBounds) = some true)
    (xx_BadSet : PySem.W.excIn K c_BadSet [.type "ValueError", .type "Exception", .type "BaseException", .type "object"] "ValueError.__new__" = true)
    (xk_BadSet : PySem.W.keepIn K (.ref c_BadSet) = true)
    (xb_BadSet : PySem.W.subIn K (.ref c_BadSet) (.type "BaseException") = some true)
    (xt_BadSet : PySem.W.typeIn K (.ref c_BadSet) = some (.type "type"))
    (xi_BadSet : PySem.W.isClsIn K c_BadSet = true)
    (xs_BadSet : PySem.W.subIn K (.ref c_BadSet) (.ref c_BadSet) = some true)
    (lk_BadSteps : ∃ nm q N bs bm sn sub ab col dd k0 k1 k2 k3 k5, K.lookup c_BadSteps = some (excClassObj nm q c_BadSteps N bs bm true sn sub ab col dd k0 k1 k2 k3 k5 "ValueError.__new__") ∧ PySem.HandSPX.refsVE bm = true)
    (sa_BadSteps : PySem.W.findIn K (.ref c_BadSteps) "__setattr__" = some (some (.builtin "object.__setattr__")))
    (xk_BadSteps : PySem.W.keepIn K (.ref c_BadSteps) = true)
    (xb_BadSteps : PySem.W.subIn K (.ref c_BadSteps) (.type "BaseException") = some true)
    (xt_BadSteps : PySem.W.typeIn K (.ref c_BadSteps) = some (.type "type"))
    (xi_BadSteps : PySem.W.isClsIn K c_BadSteps = true)
    (xs_BadSteps : PySem.W.subIn K (.ref c_BadSteps) (.ref c_BadSteps) = some true)
    (ga_BadSteps : PySem.W.findIn K (.ref c_BadSteps) "__getattribute__" = some (some (.builtin "BaseException.__getattribute__")))
    (gg_BadSteps : PySem.W.findIn K (.ref c_BadSteps) "__getattr__" = some none)
    (hx_BadSteps : PySem.W.hasDictIn K c_BadSteps = true)
    (ie_BadSteps : PySem.W.findIn K (.ref c_BadSteps) "__init__" = some (some (.ref a_BadSteps_init)))
    (ti_BadSteps : PySem.W.typeIn K (.ref a_BadSteps_init) = some (.type "function"))
    (no_BadSteps_index : PySem.W.findIn K (.ref c_BadSteps) "index" = some none)
    (lk_BadNumber : ∃ nm q N bs bm sn sub ab col dd k0 k1 k2 k3 k5, K.lookup c_BadNumber = some (excClassObj nm q c_BadNumber N bs bm true sn sub ab col dd k0 k1 k2 k3 k5 "ValueError.__new__") ∧ PySem.HandSPX.refsVE bm = true)
    (sa_BadNumber : PySem.W.findIn K (.ref c_BadNumber) "__setattr__" = some (some (.builtin "object.__setattr__")))
    (xk_BadNumber : PySem.W.keepIn K (.ref c_BadNumber) = true)
    (xb_BadNumber : PySem.W.subIn K (.ref c_BadNumber) (.type "BaseException") = some true)
    (xt_BadNumber : PySem.W.typeIn K (.ref c_BadNumber) = some (.type "type"))
    (xi_BadNumber : PySem.W.isClsIn K c_BadNumber = true)
    (xs_BadNumber : PySem.W.subIn K (.ref c_BadNumber) (.ref c_BadNumber) = some true)
    (ga_BadNumber : PySem.W.findIn K (.ref c_BadNumber) "__getattribute__" = some (some (.builtin "BaseException.__getattribute__")))
    (gg_BadNumber : PySem.W.findIn K (.ref c_BadNumber) "__getattr__" = some none)
    (hx_BadNumber : PySem.W.hasDictIn K c_BadNumber = true)
    (ie_BadNumber : PySem.W.findIn K (.ref c_BadNumber) "__init__" = some (some (.ref a_BadNumber_init)))
    (ti_BadNumber : PySem.W.typeIn K (.ref a_BadNumber_init) = some (.type "function"))
    (no_BadNumber_n : PySem.W.findIn K (.ref c_BadNumber) "n" = some none)
    (lk_TooMany : ∃ nm q N bs bm sn sub ab col dd k0 k1 k2 k3 k5, K.lookup c_TooMany = some (excClassObj nm q c_TooMany N bs bm true sn sub ab col dd k0 k1 k2 k3 k5 "ValueError.__new__") ∧ PySem.HandSPX.refsVE bm = true)
    (sa_TooMany : PySem.W.findIn K (.ref c_TooMany) "__setattr__" = some (some (.builtin "object.__setattr__")))
    (xk_TooMany : PySem.W.keepIn K (.ref c_TooMany) = true)
    (xb_TooMany : PySem.W.subIn K (.ref c_TooMany) (.type "BaseException") = some true)
    (xt_TooMany : PySem.W.typeIn K (.ref c_TooMany) = some (.type "type"))
    (xi_TooMany : PySem.W.isClsIn K c_TooMany = true)
    (xs_TooMany : PySem.W.subIn K (.ref c_TooMany) (.ref c_TooMany) = some true)
    (ga_TooMany : PySem.W.findIn K (.ref c_TooMany) "__getattribute__" = some (some (.builtin "BaseException.__getattribute__")))
    (gg_TooMany : PySem.W.findIn K (.ref c_TooMany) "__getattr__" = some none)
    (hx_TooMany : PySem.W.hasDictIn K c_TooMany = true)
    (ie_TooMany : PySem.W.findIn K (.ref c_TooMany) "__init__" = some (some (.ref a_TooMany_init)))
    (ti_TooMany : PySem.W.typeIn K (.ref a_TooMany_init) = some (.type "function"))
    (no_TooMany_most : PySem.W.findIn K (.ref c_TooMany) "most" = some none)
    (lk_InvalidText : ∃ nm q N bs bm sn sub ab col dd k0 k1 k2 k3 k5, K.lookup c_InvalidText = some (excClassObj nm q c_InvalidText N bs bm true sn sub ab col dd k0 k1 k2 k3 k5 "ValueError.__new__") ∧ PySem.HandSPX.refsVE bm = true)
    (sa_InvalidText : PySem.W.findIn K (.ref c_InvalidText) "__setattr__" = some (some (.builtin "object.__setattr__")))
    (xk_InvalidText : PySem.W.keepIn K (.ref c_InvalidText) = true)
    (xb_InvalidText : PySem.W.subIn K (.ref c_InvalidText) (.type "BaseException") = some true)
    (xt_InvalidText : PySem.W.typeIn K (.ref c_InvalidText) = some (.type "type"))
    (xi_InvalidText : PySem.W.isClsIn K c_InvalidText = true)
    (xs_InvalidText : PySem.W.subIn K (.ref c_InvalidText) (.ref c_InvalidText) = some true)
    (ga_InvalidText : PySem.W.findIn K (.ref c_InvalidText) "__getattribute__" = some (some (.builtin "BaseException.__getattribute__")))
    (gg_InvalidText : PySem.W.findIn K (.ref c_InvalidText) "__getattr__" = some none)
    (hx_InvalidText : PySem.W.hasDictIn K c_InvalidText = true)
    (ie_InvalidText : PySem.W.findIn K (.ref c_InvalidText) "__init__" = some (some (.ref a_InvalidText_init)))
    (ti_InvalidText : PySem.W.typeIn K (.ref a_InvalidText_init) = some (.type "function"))
    (no_InvalidText_line : PySem.W.findIn K (.ref c_InvalidText) "line" = some none)
    (no_InvalidText_word : PySem.W.findIn K (.ref c_InvalidText) "word" = some none)
    (xb_TallyError : PySem.W.subIn K (.ref c_TallyError) (.type "BaseException") = some true)
    (xt_TallyError : PySem.W.typeIn K (.ref c_TallyError) = some (.type "type"))
    (xi_TallyError : PySem.W.isClsIn K c_TallyError = true)
    (rd_TallyError : PySem.W.readsIn K c_TallyError (.type "type") = true)
    (fv_TallyError : PySem.W.findCls K (.ref c_TallyError) (.type "type") "__init__" = some (.val (.builtin "ValueError.__init__")))
    (sg_TallyError : PySem.W.specialIn K (.ref c_TallyError) "__getattribute__" = some (some (.builtin "type.__getattribute__")))
    (xs_BadBounds_BadEnds : PySem.W.subIn K (.ref c_BadBounds) (.ref c_BadEnds) = some false)
    (xs_BadBounds_BadLetter : PySem.W.subIn K (.ref c_BadBounds) (.ref c_BadLetter) = some false)
    (xs_BadBounds_BadMachine : PySem.W.subIn K (.ref c_BadBounds) (.ref c_BadMachine) = some false)
    (xs_BadBounds_BadNumber : PySem.W.subIn K (.ref c_BadBounds) (.ref c_BadNumber) = some false)
    (xs_BadBounds_BadRow : PySem.W.subIn K (.ref c_BadBounds) (.ref c_BadRow) = some false)
    (xs_BadBounds_BadStand : PySem.W.subIn K (.ref c_BadBounds) (.ref c_BadStand) = some false)
    (xs_BadBounds_BadStands : PySem.W.subIn K (.ref c_BadBounds) (.ref c_BadStands) = some false)
    (xs_BadBounds_BadSteps : PySem.W.subIn K (.ref c_BadBounds) (.ref c_BadSteps) = some false)
    (xs_BadBounds_TallyError : PySem.W.subIn K (.ref c_BadBounds) (.ref c_TallyError) = some true)
    (xs_BadEnds_BadBounds : PySem.W.subIn K (.ref c_BadEnds) (.ref c_BadBounds) = some false)
    (xs_BadEnds_BadLetter : PySem.W.subIn K (.ref c_BadEnds) (.ref c_BadLetter) = some false)
    (xs_BadEnds_BadNumber : PySem.W.subIn K (.ref c_BadEnds) (.ref c_BadNumber) = some false)
    (xs_BadEnds_BadSet : PySem.W.subIn K (.ref c_BadEnds) (.ref c_BadSet) = some false)
    (xs_BadEnds_BadStands : PySem.W.subIn K (.ref c_BadEnds) (.ref c_BadStands) = some false)
    (xs_BadEnds_BadSteps : PySem.W.subIn K (.ref c_BadEnds) (.ref c_BadSteps) = some false)
    (xs_BadEnds_InvalidText : PySem.W.subIn K (.ref c_BadEnds) (.ref c_InvalidText) = some false)
    (xs_BadEnds_TallyError : PySem.W.subIn K (.ref c_BadEnds) (.ref c_TallyError) = some true)
    (xs_BadEnds_TooMany : PySem.W.subIn K (.ref c_BadEnds) (.ref c_TooMany) = some false)
    (xs_BadLetter_BadEnds : PySem.W.subIn K (.ref c_BadLetter) (.ref c_BadEnds) = some false)
    (xs_BadLetter_BadMachine : PySem.W.subIn K (.ref c_BadLetter) (.ref c_BadMachine) = some false)
    (xs_BadLetter_BadRow : PySem.W.subIn K (.ref c_BadLetter) (.ref c_BadRow) = some false)
    (xs_BadLetter_BadStand : PySem.W.subIn K (.ref c_BadLetter) (.ref c_BadStand) = some false)
    (xs_BadLetter_BadStands : PySem.W.subIn K (.ref c_BadLetter) (.ref c_BadStands) = some false)
    (xs_BadLetter_BadSteps : PySem.W.subIn K (.ref c_BadLetter) (.ref c_BadSteps) = some false)
    (xs_BadLetter_TallyError : PySem.W.subIn K (.ref c_BadLetter) (.ref c_TallyError) = some true)
    (xs_BadMachine_BadBounds : PySem.W.subIn K (.ref c_BadMachine) (.ref c_BadBounds) = some false)
    (xs_BadMachine_BadEnds : PySem.W.subIn K (.ref c_BadMachine) (.ref c_BadEnds) = some false)
    (xs_BadMachine_BadLetter : PySem.W.subIn K (.ref c_BadMachine) (.ref c_BadLetter) = some false)
    (xs_BadMachine_BadNumber : PySem.W.subIn K (.ref c_BadMachine) (.ref c_BadNumber) = some false)
    (xs_BadMachine_BadSet : PySem.W.subIn K (.ref c_BadMachine) (.ref c_BadSet) = some false)
    (xs_BadMachine_BadStands : PySem.W.subIn K (.ref c_BadMachine) (.ref c_BadStands) = some false)
    (xs_BadMachine_BadSteps : PySem.W.subIn K (.ref c_BadMachine) (.ref c_BadSteps) = some false)
    (xs_BadMachine_InvalidText : PySem.W.subIn K (.ref c_BadMachine) (.ref c_InvalidText) = some false)
    (xs_BadMachine_TallyError : PySem.W.subIn K (.ref c_BadMachine) (.ref c_TallyError) = some true)
    (xs_BadMachine_TooMany : PySem.W.subIn K (.ref c_BadMachine) (.ref c_TooMany) = some false)
    (xs_BadNumber_BadEnds : PySem.W.subIn K (.ref c_BadNumber) (.ref c_BadEnds) = some false)
    (xs_BadNumber_BadLetter : PySem.W.subIn K (.ref c_BadNumber) (.ref c_BadLetter) = some false)
    (xs_BadNumber_BadMachine : PySem.W.subIn K (.ref c_BadNumber) (.ref c_BadMachine) = some false)
    (xs_BadNumber_BadRow : PySem.W.subIn K (.ref c_BadNumber) (.ref c_BadRow) = some false)
    (xs_BadNumber_BadStand : PySem.W.subIn K (.ref c_BadNumber) (.ref c_BadStand) = some false)
    (xs_BadNumber_BadStands : PySem.W.subIn K (.ref c_BadNumber) (.ref c_BadStands) = some false)
    (xs_BadNumber_BadSteps : PySem.W.subIn K (.ref c_BadNumber) (.ref c_BadSteps) = some false)
    (xs_BadNumber_TallyError : PySem.W.subIn K (.ref c_BadNumber) (.ref c_TallyError) = some true)
    (xs_BadRow_BadBounds : PySem.W.subIn K (.ref c_BadRow) (.ref c_BadBounds) = some false)
    (xs_BadRow_BadEnds : PySem.W.subIn K (.ref c_BadRow) (.ref c_BadEnds) = some false)
    (xs_BadRow_BadLetter : PySem.W.subIn K (.ref c_BadRow) (.ref c_BadLetter) = some false)
    (xs_BadRow_BadMachine : PySem.W.subIn K (.ref c_BadRow) (.ref c_BadMachine) = some false)
    (xs_BadRow_BadNumber : PySem.W.subIn K (.ref c_BadRow) (.ref c_BadNumber) = some false)
    (xs_BadRow_BadSet : PySem.W.subIn K (.ref c_BadRow) (.ref c_BadSet) = some false)
    (xs_BadRow_BadStand : PySem.W.subIn K (.ref c_BadRow) (.ref c_BadStand) = some false)
    (xs_BadRow_BadStands : PySem.W.subIn K (.ref c_BadRow) (.ref c_BadStands) = some false)
    (xs_BadRow_BadSteps : PySem.W.subIn K (.ref c_BadRow) (.ref c_BadSteps) = some false)
    (xs_BadRow_InvalidText : PySem.W.subIn K (.ref c_BadRow) (.ref c_InvalidText) = some false)
    (xs_BadRow_TallyError : PySem.W.subIn K (.ref c_BadRow) (.ref c_TallyError) = some true)
    (xs_BadRow_TooMany : PySem.W.subIn K (.ref c_BadRow) (.ref c_TooMany) = some false)
    (xs_BadSet_BadBounds : PySem.W.subIn K (.ref c_BadSet) (.ref c_BadBounds) = some false)
    (xs_BadSet_BadEnds : PySem.W.subIn K (.ref c_BadSet) (.ref c_BadEnds) = some false)
    (xs_BadSet_BadLetter : PySem.W.subIn K (.ref c_BadSet) (.ref c_BadLetter) = some false)
    (xs_BadSet_BadMachine : PySem.W.subIn K (.ref c_BadSet) (.ref c_BadMachine) = some false)
    (xs_BadSet_BadNumber : PySem.W.subIn K (.ref c_BadSet) (.ref c_BadNumber) = some false)
    (xs_BadSet_BadRow : PySem.W.subIn K (.ref c_BadSet) (.ref c_BadRow) = some false)
    (xs_BadSet_BadStand : PySem.W.subIn K (.ref c_BadSet) (.ref c_BadStand) = some false)
    (xs_BadSet_BadStands : PySem.W.subIn K (.ref c_BadSet) (.ref c_BadStands) = some false)
    (xs_BadSet_BadSteps : PySem.W.subIn K (.ref c_BadSet) (.ref c_BadSteps) = some false)
    (xs_BadSet_TallyError : PySem.W.subIn K (.ref c_BadSet) (.ref c_TallyError) = some true)
    (xs_BadStand_BadBounds : PySem.W.subIn K (.ref c_BadStand) (.ref c_BadBounds) = some false)
    (xs_BadStand_BadEnds : PySem.W.subIn K (.ref c_BadStand) (.ref c_BadEnds) = some false)
    (xs_BadStand_BadLetter : PySem.W.subIn K (.ref c_BadStand) (.ref c_BadLetter) = some false)
    (xs_BadStand_BadMachine : PySem.W.subIn K (.ref c_BadStand) (.ref c_BadMachine) = some false)
    (xs_BadStand_BadNumber : PySem.W.subIn K (.ref c_BadStand) (.ref c_BadNumber) = some false)
    (xs_BadStand_BadSet : PySem.W.subIn K (.ref c_BadStand) (.ref c_BadSet) = some false)
    (xs_BadStand_BadStands : PySem.W.subIn K (.ref c_BadStand) (.ref c_BadStands) = some false)
    (xs_BadStand_BadSteps : PySem.W.subIn K (.ref c_BadStand) (.ref c_BadSteps) = some false)
    (xs_BadStand_InvalidText : PySem.W.subIn K (.ref c_BadStand) (.ref c_InvalidText) = some false)
    (xs_BadStand_TallyError : PySem.W.subIn K (.ref c_BadStand) (.ref c_TallyError) = some true)
    (xs_BadStand_TooMany : PySem.W.subIn K (.ref c_BadStand) (.ref c_TooMany) = some false)
    (xs_BadStands_BadBounds : PySem.W.subIn K (.ref c_BadStands) (.ref c_BadBounds) = some false)
    (xs_BadStands_BadLetter : PySem.W.subIn K (.ref c_BadStands) (.ref c_BadLetter) = some false)
    (xs_BadStands_BadNumber : PySem.W.subIn K (.ref c_BadStands) (.ref c_BadNumber) = some false)
    (xs_BadStands_BadSet : PySem.W.subIn K (.ref c_BadStands) (.ref c_BadSet) = some false)
    (xs_BadStands_InvalidText : PySem.W.subIn K (.ref c_BadStands) (.ref c_InvalidText) = some false)
    (xs_BadStands_TallyError : PySem.W.subIn K (.ref c_BadStands) (.ref c_TallyError) = some true)
    (xs_BadStands_TooMany : PySem.W.subIn K (.ref c_BadStands) (.ref c_TooMany) = some false)
    (xs_BadSteps_BadBounds : PySem.W.subIn K (.ref c_BadSteps) (.ref c_BadBounds) = some false)
    (xs_BadSteps_BadLetter : PySem.W.subIn K (.ref c_BadSteps) (.ref c_BadLetter) = some false)
    (xs_BadSteps_BadNumber : PySem.W.subIn K (.ref c_BadSteps) (.ref c_BadNumber) = some false)
    (xs_BadSteps_BadSet : PySem.W.subIn K (.ref c_BadSteps) (.ref c_BadSet) = some false)
    (xs_BadSteps_BadStands : PySem.W.subIn K (.ref c_BadSteps) (.ref c_BadStands) = some false)
    (xs_BadSteps_InvalidText : PySem.W.subIn K (.ref c_BadSteps) (.ref c_InvalidText) = some false)
    (xs_BadSteps_TallyError : PySem.W.subIn K (.ref c_BadSteps) (.ref c_TallyError) = some true)
    (xs_BadSteps_TooMany : PySem.W.subIn K (.ref c_BadSteps) (.ref c_TooMany) = some false)
    (xs_InvalidText_BadBounds : PySem.W.subIn K (.ref c_InvalidText) (.ref c_BadBounds) = some false)
    (xs_InvalidText_BadEnds : PySem.W.subIn K (.ref c_InvalidText) (.ref c_BadEnds) = some false)
    (xs_InvalidText_BadLetter : PySem.W.subIn K (.ref c_InvalidText) (.ref c_BadLetter) = some false)
    (xs_InvalidText_BadMachine : PySem.W.subIn K (.ref c_InvalidText) (.ref c_BadMachine) = some false)
    (xs_InvalidText_BadNumber : PySem.W.subIn K (.ref c_InvalidText) (.ref c_BadNumber) = some false)
    (xs_InvalidText_BadRow : PySem.W.subIn K (.ref c_InvalidText) (.ref c_BadRow) = some false)
    (xs_InvalidText_BadSet : PySem.W.subIn K (.ref c_InvalidText) (.ref c_BadSet) = some false)
    (xs_InvalidText_BadStand : PySem.W.subIn K (.ref c_InvalidText) (.ref c_BadStand) = some false)
    (xs_InvalidText_BadStands : PySem.W.subIn K (.ref c_InvalidText) (.ref c_BadStands) = some false)
    (xs_InvalidText_BadSteps : PySem.W.subIn K (.ref c_InvalidText) (.ref c_BadSteps) = some false)
    (xs_InvalidText_TallyError : PySem.W.subIn K (.ref c_InvalidText) (.ref c_TallyError) = some true)
    (xs_InvalidText_TooMany : PySem.W.subIn K (.ref c_InvalidText) (.ref c_TooMany) = some false)
    (xs_TooMany_BadBounds : PySem.W.subIn K (.ref c_TooMany) (.ref c_BadBounds) = some false)
    (xs_TooMany_BadEnds : PySem.W.subIn K (.ref c_TooMany) (.ref c_BadEnds) = some false)
    (xs_TooMany_BadLetter : PySem.W.subIn K (.ref c_TooMany) (.ref c_BadLetter) = some false)
    (xs_TooMany_BadMachine : PySem.W.subIn K (.ref c_TooMany) (.ref c_BadMachine) = some false)
    (xs_TooMany_BadNumber : PySem.W.subIn K (.ref c_TooMany) (.ref c_BadNumber) = some false)
    (xs_TooMany_BadRow : PySem.W.subIn K (.ref c_TooMany) (.ref c_BadRow) = some false)
    (xs_TooMany_BadSet : PySem.W.subIn K (.ref c_TooMany) (.ref c_BadSet) = some false)
    (xs_TooMany_BadStand : PySem.W.subIn K (.ref c_TooMany) (.ref c_BadStand) = some false)
    (xs_TooMany_BadStands : PySem.W.subIn K (.ref c_TooMany) (.ref c_BadStands) = some false)
    (xs_TooMany_BadSteps : PySem.W.subIn K (.ref c_TooMany) (.ref c_BadSteps) = some false)
    (xs_TooMany_TallyError : PySem.W.subIn K (.ref c_TooMany) (.ref c_TallyError) = some true)
    (l_LETTERS : ∀ H : Hp, SqT K H a_LETTERS [V.str "a", V.str "b", V.str "c", V.str "d"]) : Txt K mg :=
  Txt.mk (K := K) (mg := mg)
    (a_BadSteps_init)
    (_)
    (fun_mk (st := s_BadSteps_init) l_BadSteps_init c_BadSteps_init kk_BadSteps_init)
    ((fun_mk (st := s_BadSteps_init) l_BadSteps_init c_BadSteps_init kk_BadSteps_init).binds (ps := ["self", "index"]) bb_BadSteps_init)
    (kk_BadSteps_init)
    (a_BadNumber_init)
    (_)
    (fun_mk (st := s_BadNumber_init) l_BadNumber_init c_BadNumber_init kk_BadNumber_init)
    ((fun_mk (st := s_BadNumber_init) l_BadNumber_init c_BadNumber_init kk_BadNumber_init).binds (ps := ["self", "n"]) bb_BadNumber_init)
    (kk_BadNumber_init)
    (a_TooMany_init)
    (_)
    (fun_mk (st := s_TooMany_init) l_TooMany_init c_TooMany_init kk_TooMany_init)
    ((fun_mk (st := s_TooMany_init) l_TooMany_init c_TooMany_init kk_TooMany_init).binds (ps := ["self", "most"]) bb_TooMany_init)
    (kk_TooMany_init)
    (a_InvalidText_init)
    (_)
    (fun_mk (st := s_InvalidText_init) l_InvalidText_init c_InvalidText_init kk_InvalidText_init)
    ((fun_mk (st := s_InvalidText_init) l_InvalidText_init c_InvalidText_init kk_InvalidText_init).binds (ps := ["self", "line", "word"]) bb_InvalidText_init)
    (kk_InvalidText_init)
    (a_Machine_init)
    (_)
    (fun_mk (st := s_Machine_init) l_Machine_init c_Machine_init kk_Machine_init)
    ((fun_mk (st := s_Machine_init) l_Machine_init c_Machine_init kk_Machine_init).binds (ps := ["self", "stands", "steps", "ends"]) bb_Machine_init)
    (kk_Machine_init)
    (a_Machine_stands)
    (_)
    (fun_mk (st := s_Machine_stands) l_Machine_stands c_Machine_stands kk_Machine_stands)
    ((fun_mk (st := s_Machine_stands) l_Machine_stands c_Machine_stands kk_Machine_stands).binds (ps := ["self"]) bb_Machine_stands)
    (kk_Machine_stands)
    (a_Machine_steps)
    (_)
    (fun_mk (st := s_Machine_steps) l_Machine_steps c_Machine_steps kk_Machine_steps)
    ((fun_mk (st := s_Machine_steps) l_Machine_steps c_Machine_steps kk_Machine_steps).binds (ps := ["self"]) bb_Machine_steps)
    (kk_Machine_steps)
    (a_is_whole_number)
    (_)
    (fun_mk (st := s_is_whole_number) l_is_whole_number c_is_whole_number kk_is_whole_number)
    ((fun_mk (st := s_is_whole_number) l_is_whole_number c_is_whole_number kk_is_whole_number).binds (ps := ["value"]) bb_is_whole_number)
    (kk_is_whole_number)
    (PySem.W.mg_of X G g_is_whole_number)
    (a_is_integer_between)
    (_)
    (fun_mk (st := s_is_integer_between) l_is_integer_between c_is_integer_between kk_is_integer_between)
    ((fun_mk (st := s_is_integer_between) l_is_integer_between c_is_integer_between kk_is_integer_between).binds (ps := ["value", "least", "most"]) bb_is_integer_between)
    (kk_is_integer_between)
    (PySem.W.mg_of X G g_is_integer_between)
    (a_is_stand)
    (_)
    (fun_mk (st := s_is_stand) l_is_stand c_is_stand kk_is_stand)
    ((fun_mk (st := s_is_stand) l_is_stand c_is_stand kk_is_stand).binds (ps := ["stands", "value"]) bb_is_stand)
    (kk_is_stand)
    (PySem.W.mg_of X G g_is_stand)
    (a_check_stands)
    (_)
    (fun_mk (st := s_check_stands) l_check_stands c_check_stands kk_check_stands)
    ((fun_mk (st := s_check_stands) l_check_stands c_check_stands kk_check_stands).binds (ps := ["stands"]) bb_check_stands)
    (kk_check_stands)
    (PySem.W.mg_of X G g_check_stands)
    (a_is_step)
    (_)
    (fun_mk (st := s_is_step) l_is_step c_is_step kk_is_step)
    ((fun_mk (st := s_is_step) l_is_step c_is_step kk_is_step).binds (ps := ["stands", "value"]) bb_is_step)
    (kk_is_step)
    (PySem.W.mg_of X G g_is_step)
    (a_check_steps)
    (_)
    (fun_mk (st := s_check_steps) l_check_steps c_check_steps kk_check_steps)
    ((fun_mk (st := s_check_steps) l_check_steps c_check_steps kk_check_steps).binds (ps := ["stands", "steps"]) bb_check_steps)
    (kk_check_steps)
    (PySem.W.mg_of X G g_check_steps)
    (a_is_ascending)
    (_)
    (fun_mk (st := s_is_ascending) l_is_ascending c_is_ascending kk_is_ascending)
    ((fun_mk (st := s_is_ascending) l_is_ascending c_is_ascending kk_is_ascending).binds (ps := ["value", "many"]) bb_is_ascending)
    (kk_is_ascending)
    (PySem.W.mg_of X G g_is_ascending)
    (a_check_ends)
    (_)
    (fun_mk (st := s_check_ends) l_check_ends c_check_ends kk_check_ends)
    ((fun_mk (st := s_check_ends) l_check_ends c_check_ends kk_check_ends).binds (ps := ["stands", "ends"]) bb_check_ends)
    (kk_check_ends)
    (PySem.W.mg_of X G g_check_ends)
    (a_check_machine)
    (_)
    (fun_mk (st := s_check_machine) l_check_machine c_check_machine kk_check_machine)
    ((fun_mk (st := s_check_machine) l_check_machine c_check_machine kk_check_machine).binds (ps := ["value"]) bb_check_machine)
    (kk_check_machine)
    (PySem.W.mg_of X G g_check_machine)
    (a_check_stand)
    (_)
    (fun_mk (st := s_check_stand) l_check_stand c_check_stand kk_check_stand)
    ((fun_mk (st := s_check_stand) l_check_stand c_check_stand kk_check_stand).binds (ps := ["machine", "value"]) bb_check_stand)
    (kk_check_stand)
    (PySem.W.mg_of X G g_check_stand)
    (a_check_number)
    (_)
    (fun_mk (st := s_check_number) l_check_number c_check_number kk_check_number)
    ((fun_mk (st := s_check_number) l_check_number c_check_number kk_check_number).binds (ps := ["value", "least", "most"]) bb_check_number)
    (kk_check_number)
    (PySem.W.mg_of X G g_check_number)
    (a_moves_of)
    (_)
    (fun_mk (st := s_moves_of) l_moves_of c_moves_of kk_moves_of)
    ((fun_mk (st := s_moves_of) l_moves_of c_moves_of kk_moves_of).binds (ps := ["machine"]) bb_moves_of)
    (kk_moves_of)
    (PySem.W.mg_of X G g_moves_of)
    (a_way)
    (_)
    (fun_mk (st := s_way) l_way c_way kk_way)
    ((fun_mk (st := s_way) l_way c_way kk_way).binds (ps := ["machine", "stand", "value"]) bb_way)
    (kk_way)
    (PySem.W.mg_of X G g_way)
    (a_behind)
    (_)
    (fun_mk (st := s_behind) l_behind c_behind kk_behind)
    ((fun_mk (st := s_behind) l_behind c_behind kk_behind).binds (ps := ["machine", "row"]) bb_behind)
    (kk_behind)
    (PySem.W.mg_of X G g_behind)
    (a_reached)
    (_)
    (fun_mk (st := s_reached) l_reached c_reached kk_reached)
    ((fun_mk (st := s_reached) l_reached c_reached kk_reached).binds (ps := ["machine"]) bb_reached)
    (kk_reached)
    (PySem.W.mg_of X G g_reached)
    (a_tally_at)
    (_)
    (fun_mk (st := s_tally_at) l_tally_at c_tally_at kk_tally_at)
    ((fun_mk (st := s_tally_at) l_tally_at c_tally_at kk_tally_at).binds (ps := ["machine", "stand", "sign"]) bb_tally_at)
    (kk_tally_at)
    (PySem.W.mg_of X G g_tally_at)
    (a_greatest_at)
    (_)
    (fun_mk (st := s_greatest_at) l_greatest_at c_greatest_at kk_greatest_at)
    ((fun_mk (st := s_greatest_at) l_greatest_at c_greatest_at kk_greatest_at).binds (ps := ["machine", "stand"]) bb_greatest_at)
    (kk_greatest_at)
    (PySem.W.mg_of X G g_greatest_at)
    (a_check_bounds)
    (_)
    (fun_mk (st := s_check_bounds) l_check_bounds c_check_bounds kk_check_bounds)
    ((fun_mk (st := s_check_bounds) l_check_bounds c_check_bounds kk_check_bounds).binds (ps := ["low", "high", "most"]) bb_check_bounds)
    (kk_check_bounds)
    (PySem.W.mg_of X G g_check_bounds)
    (a_stays)
    (_)
    (fun_mk (st := s_stays) l_stays c_stays kk_stays)
    ((fun_mk (st := s_stays) l_stays c_stays kk_stays).binds (ps := ["machine", "low", "high"]) bb_stays)
    (kk_stays)
    (PySem.W.mg_of X G g_stays)
    (a_tallies)
    (_)
    (fun_mk (st := s_tallies) l_tallies c_tallies kk_tallies)
    ((fun_mk (st := s_tallies) l_tallies c_tallies kk_tallies).binds (ps := ["machine", "length"]) bb_tallies)
    (kk_tallies)
    (PySem.W.mg_of X G g_tallies)
    (a_check_steps_mends)
    (_)
    (fun_mk (st := s_check_steps_mends) l_check_steps_mends c_check_steps_mends kk_check_steps_mends)
    ((fun_mk (st := s_check_steps_mends) l_check_steps_mends c_check_steps_mends kk_check_steps_mends).binds (ps := ["machine"]) bb_check_steps_mends)
    (kk_check_steps_mends)
    (PySem.W.mg_of X G g_check_steps_mends)
    (a_mends)
    (_)
    (fun_mk (st := s_mends) l_mends c_mends kk_mends)
    ((fun_mk (st := s_mends) l_mends c_mends kk_mends).binds (ps := ["machine"]) bb_mends)
    (kk_mends)
    (PySem.W.mg_of X G g_mends)
    (a_mended)
    (_)
    (fun_mk (st := s_mended) l_mended c_mended kk_mended)
    ((fun_mk (st := s_mended) l_mended c_mended kk_mended).binds (ps := ["machine", "some"]) bb_mended)
    (kk_mended)
    (PySem.W.mg_of X G g_mended)
    (a_Meter_init)
    (_)
    (fun_mk (st := s_Meter_init) l_Meter_init c_Meter_init kk_Meter_init)
    ((fun_mk (st := s_Meter_init) l_Meter_init c_Meter_init kk_Meter_init).binds (ps := ["self", "machine"]) bb_Meter_init)
    (kk_Meter_init)
    (a_Meter_read)
    (_)
    (fun_mk (st := s_Meter_read) l_Meter_read c_Meter_read kk_Meter_read)
    ((fun_mk (st := s_Meter_read) l_Meter_read c_Meter_read kk_Meter_read).binds (ps := ["self", "letter"]) bb_Meter_read)
    (kk_Meter_read)
    (a_LineReader_init)
    (_)
    (fun_mk (st := s_LineReader_init) l_LineReader_init c_LineReader_init kk_LineReader_init)
    ((fun_mk (st := s_LineReader_init) l_LineReader_init c_LineReader_init kk_LineReader_init).binds (ps := ["self", "place", "words"]) bb_LineReader_init)
    (kk_LineReader_init)
    (a_LineReader_is_over)
    (_)
    (fun_mk (st := s_LineReader_is_over) l_LineReader_is_over c_LineReader_is_over kk_LineReader_is_over)
    ((fun_mk (st := s_LineReader_is_over) l_LineReader_is_over c_LineReader_is_over kk_LineReader_is_over).binds (ps := ["self"]) bb_LineReader_is_over)
    (kk_LineReader_is_over)
    (a_LineReader_fail)
    (_)
    (fun_mk (st := s_LineReader_fail) l_LineReader_fail c_LineReader_fail kk_LineReader_fail)
    ((fun_mk (st := s_LineReader_fail) l_LineReader_fail c_LineReader_fail kk_LineReader_fail).binds (ps := ["self"]) bb_LineReader_fail)
    (kk_LineReader_fail)
    (a_LineReader_take)
    (_)
    (fun_mk (st := s_LineReader_take) l_LineReader_take c_LineReader_take kk_LineReader_take)
    ((fun_mk (st := s_LineReader_take) l_LineReader_take c_LineReader_take kk_LineReader_take).binds (ps := ["self", "words"]) bb_LineReader_take)
    (kk_LineReader_take)
    (a_read_stands)
    (_)
    (fun_mk (st := s_read_stands) l_read_stands c_read_stands kk_read_stands)
    ((fun_mk (st := s_read_stands) l_read_stands c_read_stands kk_read_stands).binds (ps := ["line"]) bb_read_stands)
    (kk_read_stands)
    (PySem.W.mg_of X G g_read_stands)
    (a_read)
    (_)
    (fun_mk (st := s_read) l_read c_read kk_read)
    ((fun_mk (st := s_read) l_read c_read kk_read).binds (ps := ["text"]) bb_read)
    (kk_read)
    (PySem.W.mg_of X G g_read)
    (a_law_taken)
    (_)
    (fun_mk (st := s_law_taken) l_law_taken c_law_taken kk_law_taken)
    ((fun_mk (st := s_law_taken) l_law_taken c_law_taken kk_law_taken).binds (ps := ["_law_row", "_law_many"]) bb_law_taken)
    (kk_law_taken)
    (PySem.W.mg_of X G g_law_taken)
    (a_law_call)
    (_)
    (fun_mk (st := s_law_call) l_law_call c_law_call kk_law_call)
    ((fun_mk (st := s_law_call) l_law_call c_law_call kk_law_call).binds (ps := ["_law_kind"]) bb_law_call)
    (kk_law_call)
    (PySem.W.mg_of X G g_law_call)
    (a_law_first)
    (_)
    (fun_mk (st := s_law_first) l_law_first c_law_first kk_law_first)
    ((fun_mk (st := s_law_first) l_law_first c_law_first kk_law_first).binds (ps := ["_law_kind"]) bb_law_first)
    (kk_law_first)
    (PySem.W.mg_of X G g_law_first)
    (a_law_second)
    (_)
    (fun_mk (st := s_law_second) l_law_second c_law_second kk_law_second)
    ((fun_mk (st := s_law_second) l_law_second c_law_second kk_law_second).binds (ps := ["_law_kind"]) bb_law_second)
    (kk_law_second)
    (PySem.W.mg_of X G g_law_second)
    (a_law)
    (_)
    (fun_mk (st := s_law) l_law c_law kk_law)
    ((fun_mk (st := s_law) l_law c_law kk_law).binds (ps := ["_law_script"]) bb_law)
    (kk_law)
    (PySem.W.mg_of X G g_law)
    (c_Machine)
    (⟨pg_Machine, hd_Machine, po_Machine, sa_Machine⟩)
    (PySem.W.mg_of X G g_Machine)
    (⟨mi_Machine, fi_Machine, if_Machine, kc_Machine⟩)
    (nf_stands)
    (nf_steps)
    (nf_ends)
    (q_stands)
    (⟨pf_stands, pt_stands, pk_stands, ⟨_, pr_stands⟩⟩)
    (q_steps)
    (⟨pf_steps, pt_steps, pk_steps, ⟨_, pr_steps⟩⟩)
    (x_i1_Machine)
    (x_i2_Machine)
    (x_i3_Machine)
    (x_i4_Machine)
    (x_j1_Machine)
    (x_j2_Machine)
    (c_Meter)
    (⟨pg_Meter, hd_Meter, po_Meter, sa_Meter⟩)
    (PySem.W.mg_of X G g_Meter)
    (⟨mi_Meter, fi_Meter, if_Meter, kc_Meter⟩)
    (nf_machine)
    (nf_moves)
    (nf_row)
    (nf_places)
    (⟨hm_Meter_read, hn_Meter_read, kk_Meter_read⟩)
    (c_LineReader)
    (⟨pg_LineReader, hd_LineReader, po_LineReader, sa_LineReader⟩)
    (PySem.W.mg_of X G g_LineReader)
    (⟨mi_LineReader, fi_LineReader, if_LineReader, kc_LineReader⟩)
    (nf_place)
    (nf_words)
    (nf_taken)
    (⟨hm_LineReader_is_over, hn_LineReader_is_over, kk_LineReader_is_over⟩)
    (⟨hm_LineReader_fail, hn_LineReader_fail, kk_LineReader_fail⟩)
    (⟨hm_LineReader_take, hn_LineReader_take, kk_LineReader_take⟩)
    (c_BadStands)
    (PySem.W.mg_of X G g_BadStands)
    (xx_BadStands)
    (xk_BadStands)
    (xb_BadStands)
    (xt_BadStands)
    (exc_self xb_BadStands xi_BadStands xt_BadStands xs_BadStands)
    (c_BadEnds)
    (PySem.W.mg_of X G g_BadEnds)
    (xx_BadEnds)
    (xk_BadEnds)
    (xb_BadEnds)
    (xt_BadEnds)
    (exc_self xb_BadEnds xi_BadEnds xt_BadEnds xs_BadEnds)
    (c_BadMachine)
    (PySem.W.mg_of X G g_BadMachine)
    (xx_BadMachine)
    (xk_BadMachine)
    (xb_BadMachine)
    (xt_BadMachine)
    (exc_self xb_BadMachine xi_BadMachine xt_BadMachine xs_BadMachine)
    (c_BadStand)
    (PySem.W.mg_of X G g_BadStand)
    (xx_BadStand)
    (xk_BadStand)
    (xb_BadStand)
    (xt_BadStand)
    (exc_self xb_BadStand xi_BadStand xt_BadStand xs_BadStand)
    (c_BadRow)
    (PySem.W.mg_of X G g_BadRow)
    (xx_BadRow)
    (xk_BadRow)
    (xb_BadRow)
    (xt_BadRow)
    (exc_self xb_BadRow xi_BadRow xt_BadRow xs_BadRow)
    (c_BadLetter)
    (PySem.W.mg_of X G g_BadLetter)
    (xx_BadLetter)
    (xk_BadLetter)
    (xb_BadLetter)
    (xt_BadLetter)
    (exc_self xb_BadLetter xi_BadLetter xt_BadLetter xs_BadLetter)
    (c_BadBounds)
    (PySem.W.mg_of X G g_BadBounds)
    (xx_BadBounds)
    (xk_BadBounds)
    (xb_BadBounds)
    (xt_BadBounds)
    (exc_self xb_BadBounds xi_BadBounds xt_BadBounds xs_BadBounds)
    (c_BadSet)
    (PySem.W.mg_of X G g_BadSet)
    (xx_BadSet)
    (xk_BadSet)
    (xb_BadSet)
    (xt_BadSet)
    (exc_self xb_BadSet xi_BadSet xt_BadSet xs_BadSet)
    (c_BadSteps)
    (PySem.W.mg_of X G g_BadSteps)
    (⟨lk_BadSteps, sa_BadSteps, xb_BadSteps, xt_BadSteps, xk_BadSteps⟩)
    (⟨ga_BadSteps, gg_BadSteps, xb_BadSteps, hx_BadSteps⟩)
    (ie_BadSteps)
    (ti_BadSteps)
    (exc_self xb_BadSteps xi_BadSteps xt_BadSteps xs_BadSteps)
    (no_BadSteps_index)
    (c_BadNumber)
    (PySem.W.mg_of X G g_BadNumber)
    (⟨lk_BadNumber, sa_BadNumber, xb_BadNumber, xt_BadNumber, xk_BadNumber⟩)
    (⟨ga_BadNumber, gg_BadNumber, xb_BadNumber, hx_BadNumber⟩)
    (ie_BadNumber)
    (ti_BadNumber)
    (exc_self xb_BadNumber xi_BadNumber xt_BadNumber xs_BadNumber)
    (no_BadNumber_n)
    (c_TooMany)
    (PySem.W.mg_of X G g_TooMany)
    (⟨lk_TooMany, sa_TooMany, xb_TooMany, xt_TooMany, xk_TooMany⟩)
    (⟨ga_TooMany, gg_TooMany, xb_TooMany, hx_TooMany⟩)
    (ie_TooMany)
    (ti_TooMany)
    (exc_self xb_TooMany xi_TooMany xt_TooMany xs_TooMany)
    (no_TooMany_most)
    (c_InvalidText)
    (PySem.W.mg_of X G g_InvalidText)
    (⟨lk_InvalidText, sa_InvalidText, xb_InvalidText, xt_InvalidText, xk_InvalidText⟩)
    (⟨ga_InvalidText, gg_InvalidText, xb_InvalidText, hx_InvalidText⟩)
    (ie_InvalidText)
    (ti_InvalidText)
    (exc_self xb_InvalidText xi_InvalidText xt_InvalidText xs_InvalidText)
    (no_InvalidText_line)
    (no_InvalidText_word)
    (c_TallyError)
    (PySem.W.mg_of X G g_TallyError)
    (rd_TallyError)
    (fv_TallyError)
    (sg_TallyError)
    (exc_rel xb_BadEnds xi_BadEnds xt_BadEnds xs_BadBounds_BadEnds)
    (exc_rel xb_BadLetter xi_BadLetter xt_BadLetter xs_BadBounds_BadLetter)
    (exc_rel xb_BadMachine xi_BadMachine xt_BadMachine xs_BadBounds_BadMachine)
    (exc_rel xb_BadNumber xi_BadNumber xt_BadNumber xs_BadBounds_BadNumber)
    (exc_rel xb_BadRow xi_BadRow xt_BadRow xs_BadBounds_BadRow)
    (exc_rel xb_BadStand xi_BadStand xt_BadStand xs_BadBounds_BadStand)
    (exc_rel xb_BadStands xi_BadStands xt_BadStands xs_BadBounds_BadStands)
    (exc_rel xb_BadSteps xi_BadSteps xt_BadSteps xs_BadBounds_BadSteps)
    (exc_rel xb_TallyError xi_TallyError xt_TallyError xs_BadBounds_TallyError)
    (exc_rel xb_BadBounds xi_BadBounds xt_BadBounds xs_BadEnds_BadBounds)
    (exc_rel xb_BadLetter xi_BadLetter xt_BadLetter xs_BadEnds_BadLetter)
    (exc_rel xb_BadNumber xi_BadNumber xt_BadNumber xs_BadEnds_BadNumber)
    (exc_rel xb_BadSet xi_BadSet xt_BadSet xs_BadEnds_BadSet)
    (exc_rel xb_BadStands xi_BadStands xt_BadStands xs_BadEnds_BadStands)
    (exc_rel xb_BadSteps xi_BadSteps xt_BadSteps xs_BadEnds_BadSteps)
    (exc_rel xb_InvalidText xi_InvalidText xt_InvalidText xs_BadEnds_InvalidText)
    (exc_rel xb_TallyError xi_TallyError xt_TallyError xs_BadEnds_TallyError)
    (exc_rel xb_TooMany xi_TooMany xt_TooMany xs_BadEnds_TooMany)
    (exc_rel xb_BadEnds xi_BadEnds xt_BadEnds xs_BadLetter_BadEnds)
    (exc_rel xb_BadMachine xi_BadMachine xt_BadMachine xs_BadLetter_BadMachine)
    (exc_rel xb_BadRow xi_BadRow xt_BadRow xs_BadLetter_BadRow)
    (exc_rel xb_BadStand xi_BadStand xt_BadStand xs_BadLetter_BadStand)
    (exc_rel xb_BadStands xi_BadStands xt_BadStands xs_BadLetter_BadStands)
    (exc_rel xb_BadSteps xi_BadSteps xt_BadSteps xs_BadLetter_BadSteps)
    (exc_rel xb_TallyError xi_TallyError xt_TallyError xs_BadLetter_TallyError)
    (exc_rel xb_BadBounds xi_BadBounds xt_BadBounds xs_BadMachine_BadBounds)
    (exc_rel xb_BadEnds xi_BadEnds xt_BadEnds xs_BadMachine_BadEnds)
    (exc_rel xb_BadLetter xi_BadLetter xt_BadLetter xs_BadMachine_BadLetter)
    (exc_rel xb_BadNumber xi_BadNumber xt_BadNumber xs_BadMachine_BadNumber)
    (exc_rel xb_BadSet xi_BadSet xt_BadSet xs_BadMachine_BadSet)
    (exc_rel xb_BadStands xi_BadStands xt_BadStands xs_BadMachine_BadStands)
    (exc_rel xb_BadSteps xi_BadSteps xt_BadSteps xs_BadMachine_BadSteps)
    (exc_rel xb_InvalidText xi_InvalidText xt_InvalidText xs_BadMachine_InvalidText)
    (exc_rel xb_TallyError xi_TallyError xt_TallyError xs_BadMachine_TallyError)
    (exc_rel xb_TooMany xi_TooMany xt_TooMany xs_BadMachine_TooMany)
    (exc_rel xb_BadEnds xi_BadEnds xt_BadEnds xs_BadNumber_BadEnds)
    (exc_rel xb_BadLetter xi_BadLetter xt_BadLetter xs_BadNumber_BadLetter)
    (exc_rel xb_BadMachine xi_BadMachine xt_BadMachine xs_BadNumber_BadMachine)
    (exc_rel xb_BadRow xi_BadRow xt_BadRow xs_BadNumber_BadRow)
    (exc_rel xb_BadStand xi_BadStand xt_BadStand xs_BadNumber_BadStand)
    (exc_rel xb_BadStands xi_BadStands xt_BadStands xs_BadNumber_BadStands)
    (exc_rel xb_BadSteps xi_BadSteps xt_BadSteps xs_BadNumber_BadSteps)
    (exc_rel xb_TallyError xi_TallyError xt_TallyError xs_BadNumber_TallyError)
    (exc_rel xb_BadBounds xi_BadBounds xt_BadBounds xs_BadRow_BadBounds)
    (exc_rel xb_BadEnds xi_BadEnds xt_BadEnds xs_BadRow_BadEnds)
    (exc_rel xb_BadLetter xi_BadLetter xt_BadLetter xs_BadRow_BadLetter)
    (exc_rel xb_BadMachine xi_BadMachine xt_BadMachine xs_BadRow_BadMachine)
    (exc_rel xb_BadNumber xi_BadNumber xt_BadNumber xs_BadRow_BadNumber)
    (exc_rel xb_BadSet xi_BadSet xt_BadSet xs_BadRow_BadSet)
    (exc_rel xb_BadStand xi_BadStand xt_BadStand xs_BadRow_BadStand)
    (exc_rel xb_BadStands xi_BadStands xt_BadStands xs_BadRow_BadStands)
    (exc_rel xb_BadSteps xi_BadSteps xt_BadSteps xs_BadRow_BadSteps)
    (exc_rel xb_InvalidText xi_InvalidText xt_InvalidText xs_BadRow_InvalidText)
    (exc_rel xb_TallyError xi_TallyError xt_TallyError xs_BadRow_TallyError)
    (exc_rel xb_TooMany xi_TooMany xt_TooMany xs_BadRow_TooMany)
    (exc_rel xb_BadBounds xi_BadBounds xt_BadBounds xs_BadSet_BadBounds)
    (exc_rel xb_BadEnds xi_BadEnds xt_BadEnds xs_BadSet_BadEnds)
    (exc_rel xb_BadLetter xi_BadLetter xt_BadLetter xs_BadSet_BadLetter)
    (exc_rel xb_BadMachine xi_BadMachine xt_BadMachine xs_BadSet_BadMachine)
    (exc_rel xb_BadNumber xi_BadNumber xt_BadNumber xs_BadSet_BadNumber)
    (exc_rel xb_BadRow xi_BadRow xt_BadRow xs_BadSet_BadRow)
    (exc_rel xb_BadStand xi_BadStand xt_BadStand xs_BadSet_BadStand)
    (exc_rel xb_BadStands xi_BadStands xt_BadStands xs_BadSet_BadStands)
    (exc_rel xb_BadSteps xi_BadSteps xt_BadSteps xs_BadSet_BadSteps)
    (exc_rel xb_TallyError xi_TallyError xt_TallyError xs_BadSet_TallyError)
    (exc_rel xb_BadBounds xi_BadBounds xt_BadBounds xs_BadStand_BadBounds)
    (exc_rel xb_BadEnds xi_BadEnds xt_BadEnds xs_BadStand_BadEnds)
    (exc_rel xb_BadLetter xi_BadLetter xt_BadLetter xs_BadStand_BadLetter)
    (exc_rel xb_BadMachine xi_BadMachine xt_BadMachine xs_BadStand_BadMachine)
    (exc_rel xb_BadNumber xi_BadNumber xt_BadNumber xs_BadStand_BadNumber)
    (exc_rel xb_BadSet xi_BadSet xt_BadSet xs_BadStand_BadSet)
    (exc_rel xb_BadStands xi_BadStands xt_BadStands xs_BadStand_BadStands)
    (exc_rel xb_BadSteps xi_BadSteps xt_BadSteps xs_BadStand_BadSteps)
    (exc_rel xb_InvalidText xi_InvalidText xt_InvalidText xs_BadStand_InvalidText)
    (exc_rel xb_TallyError xi_TallyError xt_TallyError xs_BadStand_TallyError)
    (exc_rel xb_TooMany xi_TooMany xt_TooMany xs_BadStand_TooMany)
    (exc_rel xb_BadBounds xi_BadBounds xt_BadBounds xs_BadStands_BadBounds)
    (exc_rel xb_BadLetter xi_BadLetter xt_BadLetter xs_BadStands_BadLetter)
    (exc_rel xb_BadNumber xi_BadNumber xt_BadNumber xs_BadStands_BadNumber)
    (exc_rel xb_BadSet xi_BadSet xt_BadSet xs_BadStands_BadSet)
    (exc_rel xb_InvalidText xi_InvalidText xt_InvalidText xs_BadStands_InvalidText)
    (exc_rel xb_TallyError xi_TallyError xt_TallyError xs_BadStands_TallyError)
    (exc_rel xb_TooMany xi_TooMany xt_TooMany xs_BadStands_TooMany)
    (exc_rel xb_BadBounds xi_BadBounds xt_BadBounds xs_BadSteps_BadBounds)
    (exc_rel xb_BadLetter xi_BadLetter xt_BadLetter xs_BadSteps_BadLetter)
    (exc_rel xb_BadNumber xi_BadNumber xt_BadNumber xs_BadSteps_BadNumber)
    (exc_rel xb_BadSet xi_BadSet xt_BadSet xs_BadSteps_BadSet)
    (exc_rel xb_BadStands xi_BadStands xt_BadStands xs_BadSteps_BadStands)
    (exc_rel xb_InvalidText xi_InvalidText xt_InvalidText xs_BadSteps_InvalidText)
    (exc_rel xb_TallyError xi_TallyError xt_TallyError xs_BadSteps_TallyError)
    (exc_rel xb_TooMany xi_TooMany xt_TooMany xs_BadSteps_TooMany)
    (exc_rel xb_BadBounds xi_BadBounds xt_BadBounds xs_InvalidText_BadBounds)
    (exc_rel xb_BadEnds xi_BadEnds xt_BadEnds xs_InvalidText_BadEnds)
    (exc_rel xb_BadLetter xi_BadLetter xt_BadLetter xs_InvalidText_BadLetter)
    (exc_rel xb_BadMachine xi_BadMachine xt_BadMachine xs_InvalidText_BadMachine)
    (exc_rel xb_BadNumber xi_BadNumber xt_BadNumber xs_InvalidText_BadNumber)
    (exc_rel xb_BadRow xi_BadRow xt_BadRow xs_InvalidText_BadRow)
    (exc_rel xb_BadSet xi_BadSet xt_BadSet xs_InvalidText_BadSet)
    (exc_rel xb_BadStand xi_BadStand xt_BadStand xs_InvalidText_BadStand)
    (exc_rel xb_BadStands xi_BadStands xt_BadStands xs_InvalidText_BadStands)
    (exc_rel xb_BadSteps xi_BadSteps xt_BadSteps xs_InvalidText_BadSteps)
    (exc_rel xb_TallyError xi_TallyError xt_TallyError xs_InvalidText_TallyError)
    (exc_rel xb_TooMany xi_TooMany xt_TooMany xs_InvalidText_TooMany)
    (exc_rel xb_BadBounds xi_BadBounds xt_BadBounds xs_TooMany_BadBounds)
    (exc_rel xb_BadEnds xi_BadEnds xt_BadEnds xs_TooMany_BadEnds)
    (exc_rel xb_BadLetter xi_BadLetter xt_BadLetter xs_TooMany_BadLetter)
    (exc_rel xb_BadMachine xi_BadMachine xt_BadMachine xs_TooMany_BadMachine)
    (exc_rel xb_BadNumber xi_BadNumber xt_BadNumber xs_TooMany_BadNumber)
    (exc_rel xb_BadRow xi_BadRow xt_BadRow xs_TooMany_BadRow)
    (exc_rel xb_BadSet xi_BadSet xt_BadSet xs_TooMany_BadSet)
    (exc_rel xb_BadStand xi_BadStand xt_BadStand xs_TooMany_BadStand)
    (exc_rel xb_BadStands xi_BadStands xt_BadStands xs_TooMany_BadStands)
    (exc_rel xb_BadSteps xi_BadSteps xt_BadSteps xs_TooMany_BadSteps)
    (exc_rel xb_TallyError xi_TallyError xt_TallyError xs_TooMany_TallyError)
    (.int 8 t_MOST_STANDS)
    (PySem.W.mg_of X G g_MOST_STANDS)
    (⟨_, rfl⟩)
    (.int 1000000000000000000000000000000 t_MOST_GAIN)
    (PySem.W.mg_of X G g_MOST_GAIN)
    (⟨_, rfl⟩)
    (a_LETTERS)
    (PySem.W.mg_of X G g_LETTERS)
    (rfl)
    (l_LETTERS)
    (.int 12 t_MOST_LENGTH)
    (PySem.W.mg_of X G g_MOST_LENGTH)
    (⟨_, rfl⟩)
    (.int 10000000000000000000000000000000000000000 t_MOST_NUMBER)
    (PySem.W.mg_of X G g_MOST_NUMBER)
    (⟨_, rfl⟩)
    (.int 12 t_MOST_STEPS)
    (PySem.W.mg_of X G g_MOST_STEPS)
    (⟨_, rfl⟩)
    (PySem.W.mg_none_of X G zz_bool)
    (PySem.W.mg_none_of X G zz_enumerate)
    (PySem.W.mg_none_of X G zz_int)
    (PySem.W.mg_none_of X G zz_isinstance)
    (PySem.W.mg_none_of X G zz_len)
    (PySem.W.mg_none_of X G zz_list)
    (PySem.W.mg_none_of X G zz_max)
    (PySem.W.mg_none_of X G zz_min)
    (PySem.W.mg_none_of X G zz_range)
    (PySem.W.mg_none_of X G zz_str)
    (PySem.W.mg_none_of X G zz_tuple)
    (fun s v => .of_eq rfl)
theorem all_mk {l : PySem.W.OpenLaw} {w : World} {K : PySem.W.Frag} {mg : Str → Option Value} {fa : Addr} (T : Txt K mg) (hfa : mg "law" = some (.ref fa)) :
    ∃ fd : FuncData, (∀ (s : Shared) (v : Value), BindsTo s fd ⟨[v], []⟩ [("_law_script", v)]) ∧ ∀ base : Heap, K.In base → base.Ns mainGlobals mg → FnOk l.prog w K mg base (L2.CX l.prog w) 30 fa fd ["_law_script"] (sp_law K) := by
  have e := hfa.symm.trans T.m_law
  cases e
  exact ⟨T.fd_law, T.bs_law, fun _ _ _ => ok_law T⟩
/-! ### the head by facts: the names that the law comes to, read off the run's end -/
section
open He
theorem map_join {α β γ δ : Type} {o : Option α} {a : α → β} {b : α → γ} {c : α → δ} {A : β} {B : γ} {C : δ} (h1 : o.map (fun x => a x) = some A) (h2 : o.map (fun x => b x) = some B) (h3 : o.map (fun x => c x) = some C) : o.map (fun x => (a x, b x, c x)) = some (A, B, C) := by
  cases o with
  | none => cases h1
  | some x =>
    have e1 : a x = A := Option.some.inj h1
    have e2 : b x = B := Option.some.inj h2
    have e3 : c x = C := Option.some.inj h3
    show some (a x, b x, c x) = _
    rw [e1, e2, e3]
def asN (g : Addr → Option Obj) (names : List Str) : List Addr := names.filterMap fun x => match PySem.W.nsIn (frG g [mainGlobals]) mainGlobals x with
  | some (some (.ref a)) => some a
  | _ => none
/-- what a function, a class, a table, a property names: a code object's own things are not looked at -/
def refsS (o : Obj) : List Addr := match o.data with
  | .seq its _ => its.toList.flatMap refV
  | .dict es _ => es.toList.flatMap fun e => refV e.val
  | .func fd => refV fd.code
  | .cls cd => cd.ns :: cd.mro.flatMap refV
  | .fields vs => (match o.cls with
    | .type c => (match decide (c = "property") with
      | true => vs.toList.flatMap refV
      | false => [])
    | _ => [])
  | _ => []
def newS (g : Addr → Option Obj) (as : List Addr) : List Addr := as.flatMap fun a => match g a with
  | some o => refsS o
  | none => []
/-- what is new at each step alone goes on -/
def grN (g : Addr → Option Obj) : Nat → List Addr → List Addr
  | 0, as => as
  | n + 1, as => as ++ grN g n (newS g as)
def frK (names : List Str) (n : Nat) (g : Addr → Option Obj) : PySem.W.Frag := frG g (mainGlobals :: cStatics :: grN g n (asN g names))
/-- a def of the text: its function's address as the written part tells it, what it must hold -/
structure FnA where
  ad : PySem.W.Frag → Addr
  name : Str
  qual : Str
  params : Arguments
  body : List Stmt
  scope : Scope
def FnSaid (K : PySem.W.Frag) (d : FnA) : Prop := ∃ oc od osl kV doc pm an cdv ct, K.lookup (d.ad K) = some ⟨oc, od, .func (PySem.W.fnOf d.name d.qual d.params d.body d.scope .none kV doc pm an cdv ct), osl⟩ ∧ PySem.W.codeIn K cdv d.qual = true
abbrev FnT : Type := Str × Str × Arguments × FuncBody × Scope × Addr × List (Str × Addr) × Value × Addr × Bool
def seenA (K : PySem.W.Frag) (d : FnA) : Option FnT := (K.lookup (d.ad K)).bind fun o => match o.data with
  | .func u => some (u.name, u.qualname, u.params, u.body, u.scope, u.globals, u.closure, u.defaults, u.builtins, PySem.W.codeIn K u.code d.qual)
  | _ => none
def wishA (d : FnA) : Option FnT := some (d.name, d.qual, d.params, .stmts d.body, d.scope, mainGlobals, [], .none, builtinsNs, true)
theorem seenA_ok {K : PySem.W.Frag} {d : FnA} (e : seenA K d = wishA d) : FnSaid K d := by
  obtain ⟨o, ho, e2⟩ := Option.bind_eq_some_iff.mp e
  obtain ⟨oc, od, dt, osl⟩ := o
  cases dt with
  | func u =>
    obtain ⟨u1, u2, u3, u4, u5, u6, u7, u8, u9, u10, u11, u12, u13, u14, u15⟩ := u
    have e3 := Option.some.inj e2
    simp only [Prod.mk.injEq] at e3
    obtain ⟨h1, h2, h3, h4, h5, h6, h7, h8, h9, h10⟩ := e3
    subst h1 h2 h3 h4 h5 h6 h7 h8 h9
    exact ⟨oc, od, osl, u9, u10, u11, u12, u13, u14, ho, h10⟩
  | _ => cases e2
abbrev AlF : Type := Bool × List (Option FnT)
def obsF (names : List Str) (n : Nat) (fn : List FnA) (ex : PySem.W.Frag → List Bool) (g : Addr → Option Obj) : AlF := ((ex (frK names n g)).all (fun b => b), fn.map (seenA (frK names n g)))
def valF (fn : List FnA) : AlF := (true, fn.map wishA)
theorem said_of {names : List Str} {n : Nat} {fn : List FnA} {ex : PySem.W.Frag → List Bool} {g : Addr → Option Obj} (e : obsF names n fn ex g = valF fn) : (ex (frK names n g)).all (fun b => b) = true ∧ ∀ (i : Nat) (d : FnA), fn[i]? = some d → FnSaid (frK names n g) d := by
  refine ⟨congrArg (fun z : AlF => z.1) e, fun i d h => ?_⟩
  have e3 : fn.map (seenA (frK names n g)) = fn.map wishA := congrArg (fun z : AlF => z.2) e
  have e2 : (fn.map (seenA (frK names n g)))[i]? = (fn.map wishA)[i]? := by rw [e3]
  rw [List.getElem?_map, List.getElem?_map, h] at e2
  exact seenA_ok (Option.some.inj e2)
def hookF (names : List Str) (n : Nat) (fn : List FnA) (ex : PySem.W.Frag → List Bool) : PySem.W.Hook where
  α := AlF
  obs := fun s => obsF names n fn ex s.heap.get?
  val := fun _ => valF fn
  says := fun _ h => ∃ K : PySem.W.Frag, K.In h ∧ (ex K).all (fun b => b) = true ∧ ∀ (i : Nat) (d : FnA), fn[i]? = some d → FnSaid K d
  of := fun _ _ e => ⟨_, frG_in, said_of e⟩
  keeps := fun _ _ _ ⟨K, hK, c⟩ k => ⟨K, PySem.W.Frag.In.keeps hK k, c⟩
theorem row_ok {l : List Bool} (h : l.all (fun b => b) = true) (i : Nat) {b : Bool} (e : l[i]? = some b) : b = true := List.all_eq_true.mp h b (List.mem_of_getElem? e)
theorem int_k {K : PySem.W.Frag} {x : Str} {i : Int} (c : (Fa.int x i).ok K = true) : ∃ t, PySem.W.nsIn K mainGlobals x = some (some (.int i t)) := by
  have c2 : (match PySem.W.nsIn K mainGlobals x with
    | some (some (.int j _)) => decide (j = i)
    | _ => false) = true := c
  cases e : PySem.W.nsIn K mainGlobals x with
  | none => rw [e] at c2; cases c2
  | some o =>
    rw [e] at c2
    cases o with
    | none => cases c2
    | some v =>
      cases v with
      | int j t =>
        have ej : j = i := of_decide_eq_true c2
        rw [ej]
        exact ⟨t, rfl⟩
      | _ => cases c2
theorem str_k {K : PySem.W.Frag} {x z : Str} (c : (Fa.str x z).ok K = true) : ∃ t, PySem.W.nsIn K mainGlobals x = some (some (.str z t)) := by
  have c2 : (match PySem.W.nsIn K mainGlobals x with
    | some (some (.str y _)) => decide (y = z)
    | _ => false) = true := c
  cases e : PySem.W.nsIn K mainGlobals x with
  | none => rw [e] at c2; cases c2
  | some o =>
    rw [e] at c2
    cases o with
    | none => cases c2
    | some v =>
      cases v with
      | str y t =>
        have ej : y = z := of_decide_eq_true c2
        rw [ej]
        exact ⟨t, rfl⟩
      | _ => cases c2
/-- the getter's function of a property, the base behind an exception's class -/
def pgA (K : PySem.W.Frag) (C p : Str) : Addr := match PySem.W.recIn K (ma K (ga K C) p) "property" with
  | some (.ref a :: _) => a
  | _ => 0
def pgB (K : PySem.W.Frag) (C p : Str) : Bool := match PySem.W.recIn K (ma K (ga K C) p) "property" with
  | some (.ref _ :: _) => true
  | _ => false
theorem pgB_ok {K : PySem.W.Frag} {C p : Str} (h : pgB K C p = true) : ∃ rest, PySem.W.recIn K (ma K (ga K C) p) "property" = some (.ref (pgA K C p) :: rest) := by
  unfold pgB at h
  unfold pgA
  cases e : PySem.W.recIn K (ma K (ga K C) p) "property" with
  | none => rw [e] at h; cases h
  | some l =>
    cases l with
    | nil => rw [e] at h; cases h
    | cons v r =>
      cases v with
      | ref a => exact ⟨r, rfl⟩
      | _ => rw [e] at h; cases h
def fvB (K : PySem.W.Frag) (C : Addr) : Bool := match PySem.W.findCls K (.ref C) (.type "type") "__init__" with
  | some (.val (.builtin b)) => decide (b = "ValueError.__init__")
  | _ => false
theorem fvB_ok {K : PySem.W.Frag} {C : Addr} (h : fvB K C = true) : PySem.W.findCls K (.ref C) (.type "type") "__init__" = some (.val (.builtin "ValueError.__init__")) := by
  unfold fvB at h
  split at h
  · rename_i b e
    rw [e, of_decide_eq_true h]
  · cases h
def exclB (K : PySem.W.Frag) (C : Addr) : Bool := match K.lookup C with
  | some ⟨.type t, _, .cls cd, sl⟩ => (match cd.mro, sl.toList with
    | .ref D :: bm, [_, _, _, _, some (.builtin b), _] => decide (t = "type") && (decide (D = C) && (decide (b = "ValueError.__new__") && (decide (cd.hasDel = false) && (decide (cd.hasDict = true) && PySem.HandSPX.refsVE bm))))
    | _, _ => false)
  | _ => false
theorem exclB_ok {K : PySem.W.Frag} {C : Addr} (h : exclB K C = true) : ∃ nm q N bs bm sn sub ab col dd k0 k1 k2 k3 k5, K.lookup C = some (excClassObj nm q C N bs bm true sn sub ab col dd k0 k1 k2 k3 k5 "ValueError.__new__") ∧ PySem.HandSPX.refsVE bm = true := by
  unfold exclB at h
  split at h
  · rename_i t dd cd sl ho
    split at h
    · rename_i D bm k0 k1 k2 k3 b k5 hm hs
      obtain ⟨h1, h⟩ := ba h
      obtain ⟨h2, h⟩ := ba h
      obtain ⟨h3, h⟩ := ba h
      obtain ⟨h4, h⟩ := ba h
      obtain ⟨h5, h6⟩ := ba h
      obtain ⟨nm, bs, mro, ns, qn, hd, sn, sub, ab, col, del⟩ := cd
      have q1 := of_decide_eq_true h1
      have q2 := of_decide_eq_true h2
      have q3 := of_decide_eq_true h3
      have q4 : del = false := of_decide_eq_true h4
      have q5 : hd = true := of_decide_eq_true h5
      have q6 : mro = .ref D :: bm := hm
      clear h1 h2 h3 h4 h5 hm
      have hsl : sl = #[k0, k1, k2, k3, some (.builtin b), k5] := by
        obtain ⟨l⟩ := sl
        have hs : l = [k0, k1, k2, k3, some (.builtin b), k5] := hs
        rw [hs]
      clear hs
      subst q1 q2 q3 q4 q5 q6 hsl
      exact ⟨nm, qn, ns, bs, bm, sn, sub, ab, col, dd, k0, k1, k2, k3, k5, ho, h6⟩
    · cases h
  · cases h
def nm_0 : List Str := ["is_whole_number", "is_integer_between", "_is_stand", "_check_stands", "_is_step", "check_steps_machines", "is_ascending", "_check_ends", "check_machine", "check_stand", "check_number", "moves_of", "way", "behind", "reached", "_tally_at", "greatest_at", "check_bounds", "stays", "tallies", "check_steps_mends", "mends", "mended", "_read_stands", "read", "_law_taken", "_law_call", "_law_first", "_law_second", "law"]
def nm_1 : List Str := ["Machine", "Meter", "LineReader", "BadStands", "BadEnds", "BadMachine", "BadStand", "BadRow", "BadLetter", "BadBounds", "BadSet", "BadSteps", "BadNumber", "TooMany", "InvalidText", "TallyError", "LETTERS"]
def nms : List Str := nm_0 ++ nm_1
def fd_BadSteps_init : FnA := ⟨fun K => fAd K ("BadSteps", some "__init__"), "__init__", "BadSteps.__init__", defArgs s_BadSteps_init, defBody s_BadSteps_init, defScope s_BadSteps_init⟩
def fd_BadNumber_init : FnA := ⟨fun K => fAd K ("BadNumber", some "__init__"), "__init__", "BadNumber.__init__", defArgs s_BadNumber_init, defBody s_BadNumber_init, defScope s_BadNumber_init⟩
def fd_TooMany_init : FnA := ⟨fun K => fAd K ("TooMany", some "__init__"), "__init__", "TooMany.__init__", defArgs s_TooMany_init, defBody s_TooMany_init, defScope s_TooMany_init⟩
def fd_InvalidText_init : FnA := ⟨fun K => fAd K ("InvalidText", some "__init__"), "__init__", "InvalidText.__init__", defArgs s_InvalidText_init, defBody s_InvalidText_init, defScope s_InvalidText_init⟩
def fd_Machine_init : FnA := ⟨fun K => fAd K ("Machine", some "__init__"), "__init__", "Machine.__init__", defArgs s_Machine_init, defBody s_Machine_init, defScope s_Machine_init⟩
def fd_Machine_stands : FnA := ⟨fun K => pgA K "Machine" "stands", "stands", "Machine.stands", defArgs s_Machine_stands, defBody s_Machine_stands, defScope s_Machine_stands⟩
def fd_Machine_steps : FnA := ⟨fun K => pgA K "Machine" "steps", "steps", "Machine.steps", defArgs s_Machine_steps, defBody s_Machine_steps, defScope s_Machine_steps⟩
def fd_is_whole_number : FnA := ⟨fun K => fAd K ("is_whole_number", none), "is_whole_number", "is_whole_number", defArgs s_is_whole_number, defBody s_is_whole_number, defScope s_is_whole_number⟩
def fd_is_integer_between : FnA := ⟨fun K => fAd K ("is_integer_between", none), "is_integer_between", "is_integer_between", defArgs s_is_integer_between, defBody s_is_integer_between, defScope s_is_integer_between⟩
def fd_is_stand : FnA := ⟨fun K => fAd K ("_is_stand", none), "_is_stand", "_is_stand", defArgs s_is_stand, defBody s_is_stand, defScope s_is_stand⟩
def fd_check_stands : FnA := ⟨fun K => fAd K ("_check_stands", none), "_check_stands", "_check_stands", defArgs s_check_stands, defBody s_check_stands, defScope s_check_stands⟩
def fd_is_step : FnA := ⟨fun K => fAd K ("_is_step", none), "_is_step", "_is_step", defArgs s_is_step, defBody s_is_step, defScope s_is_step⟩
def fd_check_steps : FnA := ⟨fun K => fAd K ("check_steps_machines", none), "_check_steps", "_check_steps", defArgs s_check_steps, defBody s_check_steps, defScope s_check_steps⟩
def fd_is_ascending : FnA := ⟨fun K => fAd K ("is_ascending", none), "is_ascending", "is_ascending", defArgs s_is_ascending, defBody s_is_ascending, defScope s_is_ascending⟩
def fd_check_ends : FnA := ⟨fun K => fAd K ("_check_ends", none), "_check_ends", "_check_ends", defArgs s_check_ends, defBody s_check_ends, defScope s_check_ends⟩
def fd_check_machine : FnA := ⟨fun K => fAd K ("check_machine", none), "check_machine", "check_machine", defArgs s_check_machine, defBody s_check_machine, defScope s_check_machine⟩
def fd_check_stand : FnA := ⟨fun K => fAd K ("check_stand", none), "check_stand", "check_stand", defArgs s_check_stand, defBody s_check_stand, defScope s_check_stand⟩
def fd_check_number : FnA := ⟨fun K => fAd K ("check_number", none), "check_number", "check_number", defArgs s_check_number, defBody s_check_number, defScope s_check_number⟩
def fd_moves_of : FnA := ⟨fun K => fAd K ("moves_of", none), "moves_of", "moves_of", defArgs s_moves_of, defBody s_moves_of, defScope s_moves_of⟩
def fd_way : FnA := ⟨fun K => fAd K ("way", none), "way", "way", defArgs s_way, defBody s_way, defScope s_way⟩
def fd_behind : FnA := ⟨fun K => fAd K ("behind", none), "behind", "behind", defArgs s_behind, defBody s_behind, defScope s_behind⟩
def fd_reached : FnA := ⟨fun K => fAd K ("reached", none), "reached", "reached", defArgs s_reached, defBody s_reached, defScope s_reached⟩
def fd_tally_at : FnA := ⟨fun K => fAd K ("_tally_at", none), "_tally_at", "_tally_at", defArgs s_tally_at, defBody s_tally_at, defScope s_tally_at⟩
def fd_greatest_at : FnA := ⟨fun K => fAd K ("greatest_at", none), "greatest_at", "greatest_at", defArgs s_greatest_at, defBody s_greatest_at, defScope s_greatest_at⟩
def fd_check_bounds : FnA := ⟨fun K => fAd K ("check_bounds", none), "check_bounds", "check_bounds", defArgs s_check_bounds, defBody s_check_bounds, defScope s_check_bounds⟩
def fd_stays : FnA := ⟨fun K => fAd K ("stays", none), "stays", "stays", defArgs s_stays, defBody s_stays, defScope s_stays⟩
def fd_tallies : FnA := ⟨fun K => fAd K ("tallies", none), "tallies", "tallies", defArgs s_tallies, defBody s_tallies, defScope s_tallies⟩
def fd_check_steps_mends : FnA := ⟨fun K => fAd K ("check_steps_mends", none), "_check_steps", "_check_steps", defArgs s_check_steps_mends, defBody s_check_steps_mends, defScope s_check_steps_mends⟩
def fd_mends : FnA := ⟨fun K => fAd K ("mends", none), "mends", "mends", defArgs s_mends, defBody s_mends, defScope s_mends⟩
def fd_mended : FnA := ⟨fun K => fAd K ("mended", none), "mended", "mended", defArgs s_mended, defBody s_mended, defScope s_mended⟩
def fd_Meter_init : FnA := ⟨fun K => fAd K ("Meter", some "__init__"), "__init__", "Meter.__init__", defArgs s_Meter_init, defBody s_Meter_init, defScope s_Meter_init⟩
def fd_Meter_read : FnA := ⟨fun K => fAd K ("Meter", some "read"), "read", "Meter.read", defArgs s_Meter_read, defBody s_Meter_read, defScope s_Meter_read⟩
def fd_LineReader_init : FnA := ⟨fun K => fAd K ("LineReader", some "__init__"), "__init__", "LineReader.__init__", defArgs s_LineReader_init, defBody s_LineReader_init, defScope s_LineReader_init⟩
def fd_LineReader_is_over : FnA := ⟨fun K => fAd K ("LineReader", some "is_over"), "is_over", "LineReader.is_over", defArgs s_LineReader_is_over, defBody s_LineReader_is_over, defScope s_LineReader_is_over⟩
def fd_LineReader_fail : FnA := ⟨fun K => fAd K ("LineReader", some "fail"), "fail", "LineReader.fail", defArgs s_LineReader_fail, defBody s_LineReader_fail, defScope s_LineReader_fail⟩
def fd_LineReader_take : FnA := ⟨fun K => fAd K ("LineReader", some "take"), "take", "LineReader.take", defArgs s_LineReader_take, defBody s_LineReader_take, defScope s_LineReader_take⟩
def fd_read_stands : FnA := ⟨fun K => fAd K ("_read_stands", none), "_read_stands", "_read_stands", defArgs s_read_stands, defBody s_read_stands, defScope s_read_stands⟩
def fd_read : FnA := ⟨fun K => fAd K ("read", none), "read", "read", defArgs s_read, defBody s_read, defScope s_read⟩
def fd_law_taken : FnA := ⟨fun K => fAd K ("_law_taken", none), "_law_taken", "_law_taken", defArgs s_law_taken, defBody s_law_taken, defScope s_law_taken⟩
def fd_law_call : FnA := ⟨fun K => fAd K ("_law_call", none), "_law_call", "_law_call", defArgs s_law_call, defBody s_law_call, defScope s_law_call⟩
def fd_law_first : FnA := ⟨fun K => fAd K ("_law_first", none), "_law_first", "_law_first", defArgs s_law_first, defBody s_law_first, defScope s_law_first⟩
def fd_law_second : FnA := ⟨fun K => fAd K ("_law_second", none), "_law_second", "_law_second", defArgs s_law_second, defBody s_law_second, defScope s_law_second⟩
def fd_law : FnA := ⟨fun K => fAd K ("law", none), "law", "law", defArgs s_law, defBody s_law, defScope s_law⟩
def fn_0 : List FnA := [fd_BadSteps_init, fd_BadNumber_init, fd_TooMany_init, fd_InvalidText_init, fd_Machine_init, fd_Machine_stands, fd_Machine_steps, fd_is_whole_number, fd_is_integer_between, fd_is_stand, fd_check_stands, fd_is_step, fd_check_steps, fd_is_ascending, fd_check_ends, fd_check_machine, fd_check_stand, fd_check_number, fd_moves_of, fd_way, fd_behind, fd_reached, fd_tally_at, fd_greatest_at, fd_check_bounds, fd_stays, fd_tallies, fd_check_steps_mends, fd_mends, fd_mended]
def fn_1 : List FnA := [fd_Meter_init, fd_Meter_read, fd_LineReader_init, fd_LineReader_is_over, fd_LineReader_fail, fd_LineReader_take, fd_read_stands, fd_read, fd_law_taken, fd_law_call, fd_law_first, fd_law_second, fd_law]
def fns : List FnA := fn_0 ++ fn_1
def ex_0 (K : PySem.W.Frag) : List Bool := [
    decide (PySem.W.nsIn K mainGlobals "is_whole_number" = some (some (.ref (fAd K ("is_whole_number", none))))),
    decide (PySem.W.nsIn K mainGlobals "is_integer_between" = some (some (.ref (fAd K ("is_integer_between", none))))),
    decide (PySem.W.nsIn K mainGlobals "_is_stand" = some (some (.ref (fAd K ("_is_stand", none))))),
    decide (PySem.W.nsIn K mainGlobals "_check_stands" = some (some (.ref (fAd K ("_check_stands", none))))),
    decide (PySem.W.nsIn K mainGlobals "_is_step" = some (some (.ref (fAd K ("_is_step", none))))),
    decide (PySem.W.nsIn K mainGlobals "check_steps_machines" = some (some (.ref (fAd K ("check_steps_machines", none))))),
    decide (PySem.W.nsIn K mainGlobals "is_ascending" = some (some (.ref (fAd K ("is_ascending", none))))),
    decide (PySem.W.nsIn K mainGlobals "_check_ends" = some (some (.ref (fAd K ("_check_ends", none))))),
    decide (PySem.W.nsIn K mainGlobals "check_machine" = some (some (.ref (fAd K ("check_machine", none))))),
    decide (PySem.W.nsIn K mainGlobals "check_stand" = some (some (.ref (fAd K ("check_stand", none))))),
    decide (PySem.W.nsIn K mainGlobals "check_number" = some (some (.ref (fAd K ("check_number", none))))),
    decide (PySem.W.nsIn K mainGlobals "moves_of" = some (some (.ref (fAd K ("moves_of", none))))),
    decide (PySem.W.nsIn K mainGlobals "way" = some (some (.ref (fAd K ("way", none))))),
    decide (PySem.W.nsIn K mainGlobals "behind" = some (some (.ref (fAd K ("behind", none))))),
    decide (PySem.W.nsIn K mainGlobals "reached" = some (some (.ref (fAd K ("reached", none))))),
    decide (PySem.W.nsIn K mainGlobals "_tally_at" = some (some (.ref (fAd K ("_tally_at", none))))),
    decide (PySem.W.nsIn K mainGlobals "greatest_at" = some (some (.ref (fAd K ("greatest_at", none))))),
    decide (PySem.W.nsIn K mainGlobals "check_bounds" = some (some (.ref (fAd K ("check_bounds", none))))),
    decide (PySem.W.nsIn K mainGlobals "stays" = some (some (.ref (fAd K ("stays", none))))),
    decide (PySem.W.nsIn K mainGlobals "tallies" = some (some (.ref (fAd K ("tallies", none))))),
    decide (PySem.W.nsIn K mainGlobals "check_steps_mends" = some (some (.ref (fAd K ("check_steps_mends", none))))),
    decide (PySem.W.nsIn K mainGlobals "mends" = some (some (.ref (fAd K ("mends", none))))),
    decide (PySem.W.nsIn K mainGlobals "mended" = some (some (.ref (fAd K ("mended", none))))),
    decide (PySem.W.nsIn K mainGlobals "_read_stands" = some (some (.ref (fAd K ("_read_stands", none))))),
    decide (PySem.W.nsIn K mainGlobals "read" = some (some (.ref (fAd K ("read", none)))))]
def ex_1 (K : PySem.W.Frag) : List Bool := [
    decide (PySem.W.nsIn K mainGlobals "_law_taken" = some (some (.ref (fAd K ("_law_taken", none))))),
    decide (PySem.W.nsIn K mainGlobals "_law_call" = some (some (.ref (fAd K ("_law_call", none))))),
    decide (PySem.W.nsIn K mainGlobals "_law_first" = some (some (.ref (fAd K ("_law_first", none))))),
    decide (PySem.W.nsIn K mainGlobals "_law_second" = some (some (.ref (fAd K ("_law_second", none))))),
    decide (PySem.W.nsIn K mainGlobals "law" = some (some (.ref (fAd K ("law", none))))),
    decide (PySem.W.nsIn K mainGlobals "Machine" = some (some (.ref (ga K "Machine")))),
    decide (PySem.W.nsIn K mainGlobals "Meter" = some (some (.ref (ga K "Meter")))),
    decide (PySem.W.nsIn K mainGlobals "LineReader" = some (some (.ref (ga K "LineReader")))),
    decide (PySem.W.nsIn K mainGlobals "BadStands" = some (some (.ref (ga K "BadStands")))),
    decide (PySem.W.nsIn K mainGlobals "BadEnds" = some (some (.ref (ga K "BadEnds")))),
    decide (PySem.W.nsIn K mainGlobals "BadMachine" = some (some (.ref (ga K "BadMachine")))),
    decide (PySem.W.nsIn K mainGlobals "BadStand" = some (some (.ref (ga K "BadStand")))),
    decide (PySem.W.nsIn K mainGlobals "BadRow" = some (some (.ref (ga K "BadRow")))),
    decide (PySem.W.nsIn K mainGlobals "BadLetter" = some (some (.ref (ga K "BadLetter")))),
    decide (PySem.W.nsIn K mainGlobals "BadBounds" = some (some (.ref (ga K "BadBounds")))),
    decide (PySem.W.nsIn K mainGlobals "BadSet" = some (some (.ref (ga K "BadSet")))),
    decide (PySem.W.nsIn K mainGlobals "BadSteps" = some (some (.ref (ga K "BadSteps")))),
    decide (PySem.W.nsIn K mainGlobals "BadNumber" = some (some (.ref (ga K "BadNumber")))),
    decide (PySem.W.nsIn K mainGlobals "TooMany" = some (some (.ref (ga K "TooMany")))),
    decide (PySem.W.nsIn K mainGlobals "InvalidText" = some (some (.ref (ga K "InvalidText")))),
    decide (PySem.W.nsIn K mainGlobals "TallyError" = some (some (.ref (ga K "TallyError")))),
    (Fa.int "MOST_STANDS" (8)).ok K,
    (Fa.int "MOST_GAIN" (1000000000000000000000000000000)).ok K,
    decide (PySem.W.nsIn K mainGlobals "LETTERS" = some (some (.ref (ga K "LETTERS")))),
    (Fa.int "MOST_LENGTH" (12)).ok K]
def ex_2 (K : PySem.W.Frag) : List Bool := [
    (Fa.int "MOST_NUMBER" (10000000000000000000000000000000000000000)).ok K,
    (Fa.int "MOST_STEPS" (12)).ok K,
    decide (PySem.W.nsIn K mainGlobals "bool" = some none),
    decide (PySem.W.nsIn K mainGlobals "enumerate" = some none),
    decide (PySem.W.nsIn K mainGlobals "int" = some none),
    decide (PySem.W.nsIn K mainGlobals "isinstance" = some none),
    decide (PySem.W.nsIn K mainGlobals "len" = some none),
    decide (PySem.W.nsIn K mainGlobals "list" = some none),
    decide (PySem.W.nsIn K mainGlobals "max" = some none),
    decide (PySem.W.nsIn K mainGlobals "min" = some none),
    decide (PySem.W.nsIn K mainGlobals "range" = some none),
    decide (PySem.W.nsIn K mainGlobals "str" = some none),
    decide (PySem.W.nsIn K mainGlobals "tuple" = some none),
    decide (PySem.W.keepIn K (.ref (fAd K ("BadSteps", some "__init__"))) = true),
    decide (PySem.W.keepIn K (.ref (fAd K ("BadNumber", some "__init__"))) = true),
    decide (PySem.W.keepIn K (.ref (fAd K ("TooMany", some "__init__"))) = true),
    decide (PySem.W.keepIn K (.ref (fAd K ("InvalidText", some "__init__"))) = true),
    decide (PySem.W.keepIn K (.ref (fAd K ("Machine", some "__init__"))) = true),
    decide (PySem.W.keepIn K (.ref (pgA K "Machine" "stands")) = true),
    decide (PySem.W.keepIn K (.ref (pgA K "Machine" "steps")) = true),
    decide (PySem.W.keepIn K (.ref (fAd K ("is_whole_number", none))) = true),
    decide (PySem.W.keepIn K (.ref (fAd K ("is_integer_between", none))) = true),
    decide (PySem.W.keepIn K (.ref (fAd K ("_is_stand", none))) = true),
    decide (PySem.W.keepIn K (.ref (fAd K ("_check_stands", none))) = true),
    decide (PySem.W.keepIn K (.ref (fAd K ("_is_step", none))) = true)]
def ex_3 (K : PySem.W.Frag) : List Bool := [
    decide (PySem.W.keepIn K (.ref (fAd K ("check_steps_machines", none))) = true),
    decide (PySem.W.keepIn K (.ref (fAd K ("is_ascending", none))) = true),
    decide (PySem.W.keepIn K (.ref (fAd K ("_check_ends", none))) = true),
    decide (PySem.W.keepIn K (.ref (fAd K ("check_machine", none))) = true),
    decide (PySem.W.keepIn K (.ref (fAd K ("check_stand", none))) = true),
    decide (PySem.W.keepIn K (.ref (fAd K ("check_number", none))) = true),
    decide (PySem.W.keepIn K (.ref (fAd K ("moves_of", none))) = true),
    decide (PySem.W.keepIn K (.ref (fAd K ("way", none))) = true),
    decide (PySem.W.keepIn K (.ref (fAd K ("behind", none))) = true),
    decide (PySem.W.keepIn K (.ref (fAd K ("reached", none))) = true),
    decide (PySem.W.keepIn K (.ref (fAd K ("_tally_at", none))) = true),
    decide (PySem.W.keepIn K (.ref (fAd K ("greatest_at", none))) = true),
    decide (PySem.W.keepIn K (.ref (fAd K ("check_bounds", none))) = true),
    decide (PySem.W.keepIn K (.ref (fAd K ("stays", none))) = true),
    decide (PySem.W.keepIn K (.ref (fAd K ("tallies", none))) = true),
    decide (PySem.W.keepIn K (.ref (fAd K ("check_steps_mends", none))) = true),
    decide (PySem.W.keepIn K (.ref (fAd K ("mends", none))) = true),
    decide (PySem.W.keepIn K (.ref (fAd K ("mended", none))) = true),
    decide (PySem.W.keepIn K (.ref (fAd K ("Meter", some "__init__"))) = true),
    decide (PySem.W.keepIn K (.ref (fAd K ("Meter", some "read"))) = true),
    decide (PySem.W.keepIn K (.ref (fAd K ("LineReader", some "__init__"))) = true),
    decide (PySem.W.keepIn K (.ref (fAd K ("LineReader", some "is_over"))) = true),
    decide (PySem.W.keepIn K (.ref (fAd K ("LineReader", some "fail"))) = true),
    decide (PySem.W.keepIn K (.ref (fAd K ("LineReader", some "take"))) = true),
    decide (PySem.W.keepIn K (.ref (fAd K ("_read_stands", none))) = true)]
def ex_4 (K : PySem.W.Frag) : List Bool := [
    decide (PySem.W.keepIn K (.ref (fAd K ("read", none))) = true),
    decide (PySem.W.keepIn K (.ref (fAd K ("_law_taken", none))) = true),
    decide (PySem.W.keepIn K (.ref (fAd K ("_law_call", none))) = true),
    decide (PySem.W.keepIn K (.ref (fAd K ("_law_first", none))) = true),
    decide (PySem.W.keepIn K (.ref (fAd K ("_law_second", none))) = true),
    decide (PySem.W.keepIn K (.ref (fAd K ("law", none))) = true),
    decide (PySem.W.plainGet K (ga K "Machine") Str.empty = true),
    decide (PySem.W.hasDictIn K (ga K "Machine") = true),
    decide (PySem.W.plainOver K (ga K "Machine") = true),
    decide (PySem.W.findIn K (.ref (ga K "Machine")) "__setattr__" = some (some (.builtin "object.__setattr__"))),
    decide (PySem.W.makesIn K (ga K "Machine") = true),
    decide (PySem.W.keepIn K (.ref (ga K "Machine")) = true),
    decide (PySem.W.findIn K (.ref (ga K "Machine")) "__init__" = some (some (.ref (fAd K ("Machine", some "__init__"))))),
    decide (PySem.W.isFn K (.ref (fAd K ("Machine", some "__init__"))) = true),
    decide (PySem.W.findIn K (.ref (ga K "Machine")) "_stands" = some none),
    decide (PySem.W.findIn K (.ref (ga K "Machine")) "_steps" = some none),
    decide (PySem.W.findIn K (.ref (ga K "Machine")) "_ends" = some none),
    decide (PySem.W.findIn K (.ref (ga K "Machine")) "stands" = some (some (.ref (ma K (ga K "Machine") "stands")))),
    decide (PySem.W.specialIn K (.ref (ma K (ga K "Machine") "stands")) "__get__" = some (some (.builtin "property.__get__"))),
    decide (PySem.W.takesIn K (.ref (ma K (ga K "Machine") "stands")) = some true),
    pgB K "Machine" "stands",
    decide (PySem.W.findIn K (.ref (ga K "Machine")) "steps" = some (some (.ref (ma K (ga K "Machine") "steps")))),
    decide (PySem.W.specialIn K (.ref (ma K (ga K "Machine") "steps")) "__get__" = some (some (.builtin "property.__get__"))),
    decide (PySem.W.takesIn K (.ref (ma K (ga K "Machine") "steps")) = some true),
    pgB K "Machine" "steps"]
def ex_5 (K : PySem.W.Frag) : List Bool := [
    decide (PySem.W.findIn K (.ref (ga K "Machine")) "__class__" = some (some (.builtin "object.__class__"))),
    decide (PySem.W.specialIn K (.builtin "object.__class__") "__get__" = some (some (.builtin "getset_descriptor.__get__"))),
    decide (PySem.W.takesIn K (.builtin "object.__class__") = some true),
    decide (PySem.W.mroIn K (ga K "Machine") (.type "object") = some true),
    decide (PySem.W.isClsIn K (ga K "Machine") = true),
    decide (PySem.W.typeIn K (.ref (ga K "Machine")) = some (.type "type")),
    decide (PySem.W.plainGet K (ga K "Meter") Str.empty = true),
    decide (PySem.W.hasDictIn K (ga K "Meter") = true),
    decide (PySem.W.plainOver K (ga K "Meter") = true),
    decide (PySem.W.findIn K (.ref (ga K "Meter")) "__setattr__" = some (some (.builtin "object.__setattr__"))),
    decide (PySem.W.makesIn K (ga K "Meter") = true),
    decide (PySem.W.keepIn K (.ref (ga K "Meter")) = true),
    decide (PySem.W.findIn K (.ref (ga K "Meter")) "__init__" = some (some (.ref (fAd K ("Meter", some "__init__"))))),
    decide (PySem.W.isFn K (.ref (fAd K ("Meter", some "__init__"))) = true),
    decide (PySem.W.findIn K (.ref (ga K "Meter")) "_machine" = some none),
    decide (PySem.W.findIn K (.ref (ga K "Meter")) "_moves" = some none),
    decide (PySem.W.findIn K (.ref (ga K "Meter")) "_row" = some none),
    decide (PySem.W.findIn K (.ref (ga K "Meter")) "_places" = some none),
    decide (PySem.W.findIn K (.ref (ga K "Meter")) "read" = some (some (.ref (fAd K ("Meter", some "read"))))),
    decide (PySem.W.isFn K (.ref (fAd K ("Meter", some "read"))) = true),
    decide (PySem.W.plainGet K (ga K "LineReader") Str.empty = true),
    decide (PySem.W.hasDictIn K (ga K "LineReader") = true),
    decide (PySem.W.plainOver K (ga K "LineReader") = true),
    decide (PySem.W.findIn K (.ref (ga K "LineReader")) "__setattr__" = some (some (.builtin "object.__setattr__"))),
    decide (PySem.W.makesIn K (ga K "LineReader") = true)]
def ex_6 (K : PySem.W.Frag) : List Bool := [
    decide (PySem.W.keepIn K (.ref (ga K "LineReader")) = true),
    decide (PySem.W.findIn K (.ref (ga K "LineReader")) "__init__" = some (some (.ref (fAd K ("LineReader", some "__init__"))))),
    decide (PySem.W.isFn K (.ref (fAd K ("LineReader", some "__init__"))) = true),
    decide (PySem.W.findIn K (.ref (ga K "LineReader")) "_place" = some none),
    decide (PySem.W.findIn K (.ref (ga K "LineReader")) "_words" = some none),
    decide (PySem.W.findIn K (.ref (ga K "LineReader")) "_taken" = some none),
    decide (PySem.W.findIn K (.ref (ga K "LineReader")) "is_over" = some (some (.ref (fAd K ("LineReader", some "is_over"))))),
    decide (PySem.W.isFn K (.ref (fAd K ("LineReader", some "is_over"))) = true),
    decide (PySem.W.findIn K (.ref (ga K "LineReader")) "fail" = some (some (.ref (fAd K ("LineReader", some "fail"))))),
    decide (PySem.W.isFn K (.ref (fAd K ("LineReader", some "fail"))) = true),
    decide (PySem.W.findIn K (.ref (ga K "LineReader")) "take" = some (some (.ref (fAd K ("LineReader", some "take"))))),
    decide (PySem.W.isFn K (.ref (fAd K ("LineReader", some "take"))) = true),
    decide (PySem.W.excIn K (ga K "BadStands") [.type "ValueError", .type "Exception", .type "BaseException", .type "object"] "ValueError.__new__" = true),
    decide (PySem.W.keepIn K (.ref (ga K "BadStands")) = true),
    decide (PySem.W.subIn K (.ref (ga K "BadStands")) (.type "BaseException") = some true),
    decide (PySem.W.typeIn K (.ref (ga K "BadStands")) = some (.type "type")),
    decide (PySem.W.isClsIn K (ga K "BadStands") = true),
    decide (PySem.W.subIn K (.ref (ga K "BadStands")) (.ref (ga K "BadStands")) = some true),
    decide (PySem.W.excIn K (ga K "BadEnds") [.type "ValueError", .type "Exception", .type "BaseException", .type "object"] "ValueError.__new__" = true),
    decide (PySem.W.keepIn K (.ref (ga K "BadEnds")) = true),
    decide (PySem.W.subIn K (.ref (ga K "BadEnds")) (.type "BaseException") = some true),
    decide (PySem.W.typeIn K (.ref (ga K "BadEnds")) = some (.type "type")),
    decide (PySem.W.isClsIn K (ga K "BadEnds") = true),
    decide (PySem.W.subIn K (.ref (ga K "BadEnds")) (.ref (ga K "BadEnds")) = some true),
    decide (PySem.W.excIn K (ga K "BadMachine") [.type "ValueError", .type "Exception", .type "BaseException", .type "object"] "ValueError.__new__" = true)]
def ex_7 (K : PySem.W.Frag) : List Bool := [
    decide (PySem.W.keepIn K (.ref (ga K "BadMachine")) = true),
    decide (PySem.W.subIn K (.ref (ga K "BadMachine")) (.type "BaseException") = some true),
    decide (PySem.W.typeIn K (.ref (ga K "BadMachine")) = some (.type "type")),
    decide (PySem.W.isClsIn K (ga K "BadMachine") = true),
    decide (PySem.W.subIn K (.ref (ga K "BadMachine")) (.ref (ga K "BadMachine")) = some true),
    decide (PySem.W.excIn K (ga K "BadStand") [.type "ValueError", .type "Exception", .type "BaseException", .type "object"] "ValueError.__new__" = true),
    decide (PySem.W.keepIn K (.ref (ga K "BadStand")) = true),
    decide (PySem.W.subIn K (.ref (ga K "BadStand")) (.type "BaseException") = some true),
    decide (PySem.W.typeIn K (.ref (ga K "BadStand")) = some (.type "type")),
    decide (PySem.W.isClsIn K (ga K "BadStand") = true),
    decide (PySem.W.subIn K (.ref (ga K "BadStand")) (.ref (ga K "BadStand")) = some true),
    decide (PySem.W.excIn K (ga K "BadRow") [.type "ValueError", .type "Exception", .type "BaseException", .type "object"] "ValueError.__new__" = true),
    decide (PySem.W.keepIn K (.ref (ga K "BadRow")) = true),
    decide (PySem.W.subIn K (.ref (ga K "BadRow")) (.type "BaseException") = some true),
    decide (PySem.W.typeIn K (.ref (ga K "BadRow")) = some (.type "type")),
    decide (PySem.W.isClsIn K (ga K "BadRow") = true),
    decide (PySem.W.subIn K (.ref (ga K "BadRow")) (.ref (ga K "BadRow")) = some true),
    decide (PySem.W.excIn K (ga K "BadLetter") [.type "ValueError", .type "Exception", .type "BaseException", .type "object"] "ValueError.__new__" = true),
    decide (PySem.W.keepIn K (.ref (ga K "BadLetter")) = true),
    decide (PySem.W.subIn K (.ref (ga K "BadLetter")) (.type "BaseException") = some true),
    decide (PySem.W.typeIn K (.ref (ga K "BadLetter")) = some (.type "type")),
    decide (PySem.W.isClsIn K (ga K "BadLetter") = true),
    decide (PySem.W.subIn K (.ref (ga K "BadLetter")) (.ref (ga K "BadLetter")) = some true),
    decide (PySem.W.excIn K (ga K "BadBounds") [.type "ValueError", .type "Exception", .type "BaseException", .type "object"] "ValueError.__new__" = true),
    decide (PySem.W.keepIn K (.ref (ga K "BadBounds")) = true)]
def ex_8 (K : PySem.W.Frag) : List Bool := [
    decide (PySem.W.subIn K (.ref (ga K "BadBounds")) (.type "BaseException") = some true),
    decide (PySem.W.typeIn K (.ref (ga K "BadBounds")) = some (.type "type")),
    decide (PySem.W.isClsIn K (ga K "BadBounds") = true),
    decide (PySem.W.subIn K (.ref (ga K "BadBounds")) (.ref (ga K "BadBounds")) = some true),
    decide (PySem.W.excIn K (ga K "BadSet") [.type "ValueError", .type "Exception", .type "BaseException", .type "object"] "ValueError.__new__" = true),
    decide (PySem.W.keepIn K (.ref (ga K "BadSet")) = true),
    decide (PySem.W.subIn K (.ref (ga K "BadSet")) (.type "BaseException") = some true),
    decide (PySem.W.typeIn K (.ref (ga K "BadSet")) = some (.type "type")),
    decide (PySem.W.isClsIn K (ga K "BadSet") = true),
    decide (PySem.W.subIn K (.ref (ga K "BadSet")) (.ref (ga K "BadSet")) = some true),
    exclB K (ga K "BadSteps"),
    decide (PySem.W.findIn K (.ref (ga K "BadSteps")) "__setattr__" = some (some (.builtin "object.__setattr__"))),
    decide (PySem.W.keepIn K (.ref (ga K "BadSteps")) = true),
    decide (PySem.W.subIn K (.ref (ga K "BadSteps")) (.type "BaseException") = some true),
    decide (PySem.W.typeIn K (.ref (ga K "BadSteps")) = some (.type "type")),
    decide (PySem.W.isClsIn K (ga K "BadSteps") = true),
    decide (PySem.W.subIn K (.ref (ga K "BadSteps")) (.ref (ga K "BadSteps")) = some true),
    decide (PySem.W.findIn K (.ref (ga K "BadSteps")) "__getattribute__" = some (some (.builtin "BaseException.__getattribute__"))),
    decide (PySem.W.findIn K (.ref (ga K "BadSteps")) "__getattr__" = some none),
    decide (PySem.W.hasDictIn K (ga K "BadSteps") = true),
    decide (PySem.W.findIn K (.ref (ga K "BadSteps")) "__init__" = some (some (.ref (fAd K ("BadSteps", some "__init__"))))),
    decide (PySem.W.typeIn K (.ref (fAd K ("BadSteps", some "__init__"))) = some (.type "function")),
    decide (PySem.W.findIn K (.ref (ga K "BadSteps")) "index" = some none),
    exclB K (ga K "BadNumber"),
    decide (PySem.W.findIn K (.ref (ga K "BadNumber")) "__setattr__" = some (some (.builtin "object.__setattr__")))]
def ex_9 (K : PySem.W.Frag) : List Bool := [
    decide (PySem.W.keepIn K (.ref (ga K "BadNumber")) = true),
    decide (PySem.W.subIn K (.ref (ga K "BadNumber")) (.type "BaseException") = some true),
    decide (PySem.W.typeIn K (.ref (ga K "BadNumber")) = some (.type "type")),
    decide (PySem.W.isClsIn K (ga K "BadNumber") = true),
    decide (PySem.W.subIn K (.ref (ga K "BadNumber")) (.ref (ga K "BadNumber")) = some true),
    decide (PySem.W.findIn K (.ref (ga K "BadNumber")) "__getattribute__" = some (some (.builtin "BaseException.__getattribute__"))),
    decide (PySem.W.findIn K (.ref (ga K "BadNumber")) "__getattr__" = some none),
    decide (PySem.W.hasDictIn K (ga K "BadNumber") = true),
    decide (PySem.W.findIn K (.ref (ga K "BadNumber")) "__init__" = some (some (.ref (fAd K ("BadNumber", some "__init__"))))),
    decide (PySem.W.typeIn K (.ref (fAd K ("BadNumber", some "__init__"))) = some (.type "function")),
    decide (PySem.W.findIn K (.ref (ga K "BadNumber")) "n" = some none),
    exclB K (ga K "TooMany"),
    decide (PySem.W.findIn K (.ref (ga K "TooMany")) "__setattr__" = some (some (.builtin "object.__setattr__"))),
    decide (PySem.W.keepIn K (.ref (ga K "TooMany")) = true),
    decide (PySem.W.subIn K (.ref (ga K "TooMany")) (.type "BaseException") = some true),
    decide (PySem.W.typeIn K (.ref (ga K "TooMany")) = some (.type "type")),
    decide (PySem.W.isClsIn K (ga K "TooMany") = true),
    decide (PySem.W.subIn K (.ref (ga K "TooMany")) (.ref (ga K "TooMany")) = some true),
    decide (PySem.W.findIn K (.ref (ga K "TooMany")) "__getattribute__" = some (some (.builtin "BaseException.__getattribute__"))),
    decide (PySem.W.findIn K (.ref (ga K "TooMany")) "__getattr__" = some none),
    decide (PySem.W.hasDictIn K (ga K "TooMany") = true),
    decide (PySem.W.findIn K (.ref (ga K "TooMany")) "__init__" = some (some (.ref (fAd K ("TooMany", some "__init__"))))),
    decide (PySem.W.typeIn K (.ref (fAd K ("TooMany", some "__init__"))) = some (.type "function")),
    decide (PySem.W.findIn K (.ref (ga K "TooMany")) "most" = some none),
    exclB K (ga K "InvalidText")]
def ex_10 (K : PySem.W.Frag) : List Bool := [
    decide (PySem.W.findIn K (.ref (ga K "InvalidText")) "__setattr__" = some (some (.builtin "object.__setattr__"))),
    decide (PySem.W.keepIn K (.ref (ga K "InvalidText")) = true),
    decide (PySem.W.subIn K (.ref (ga K "InvalidText")) (.type "BaseException") = some true),
    decide (PySem.W.typeIn K (.ref (ga K "InvalidText")) = some (.type "type")),
    decide (PySem.W.isClsIn K (ga K "InvalidText") = true),
    decide (PySem.W.subIn K (.ref (ga K "InvalidText")) (.ref (ga K "InvalidText")) = some true),
    decide (PySem.W.findIn K (.ref (ga K "InvalidText")) "__getattribute__" = some (some (.builtin "BaseException.__getattribute__"))),
    decide (PySem.W.findIn K (.ref (ga K "InvalidText")) "__getattr__" = some none),
    decide (PySem.W.hasDictIn K (ga K "InvalidText") = true),
    decide (PySem.W.findIn K (.ref (ga K "InvalidText")) "__init__" = some (some (.ref (fAd K ("InvalidText", some "__init__"))))),
    decide (PySem.W.typeIn K (.ref (fAd K ("InvalidText", some "__init__"))) = some (.type "function")),
    decide (PySem.W.findIn K (.ref (ga K "InvalidText")) "line" = some none),
    decide (PySem.W.findIn K (.ref (ga K "InvalidText")) "word" = some none),
    decide (PySem.W.subIn K (.ref (ga K "TallyError")) (.type "BaseException") = some true),
    decide (PySem.W.typeIn K (.ref (ga K "TallyError")) = some (.type "type")),
    decide (PySem.W.isClsIn K (ga K "TallyError") = true),
    decide (PySem.W.readsIn K (ga K "TallyError") (.type "type") = true),
    fvB K (ga K "TallyError"),
    decide (PySem.W.specialIn K (.ref (ga K "TallyError")) "__getattribute__" = some (some (.builtin "type.__getattribute__"))),
    decide (PySem.W.subIn K (.ref (ga K "BadBounds")) (.ref (ga K "BadEnds")) = some false),
    decide (PySem.W.subIn K (.ref (ga K "BadBounds")) (.ref (ga K "BadLetter")) = some false),
    decide (PySem.W.subIn K (.ref (ga K "BadBounds")) (.ref (ga K "BadMachine")) = some false),
    decide (PySem.W.subIn K (.ref (ga K "BadBounds")) (.ref (ga K "BadNumber")) = some false),
    decide (PySem.W.subIn K (.ref (ga K "BadBounds")) (.ref (ga K "BadRow")) = some false),
    decide (PySem.W.subIn K (.ref (ga K "BadBounds")) (.ref (ga K "BadStand")) = some false)]
def ex_11 (K : PySem.W.Frag) : List Bool := [
    decide (PySem.W.subIn K (.ref (ga K "BadBounds")) (.ref (ga K "BadStands")) = some false),
    decide (PySem.W.subIn K (.ref (ga K "BadBounds")) (.ref (ga K "BadSteps")) = some false),
    decide (PySem.W.subIn K (.ref (ga K "BadBounds")) (.ref (ga K "TallyError")) = some true),
    decide (PySem.W.subIn K (.ref (ga K "BadEnds")) (.ref (ga K "BadBounds")) = some false),
    decide (PySem.W.subIn K (.ref (ga K "BadEnds")) (.ref (ga K "BadLetter")) = some false),
    decide (PySem.W.subIn K (.ref (ga K "BadEnds")) (.ref (ga K "BadNumber")) = some false),
    decide (PySem.W.subIn K (.ref (ga K "BadEnds")) (.ref (ga K "BadSet")) = some false),
    decide (PySem.W.subIn K (.ref (ga K "BadEnds")) (.ref (ga K "BadStands")) = some false),
    decide (PySem.W.subIn K (.ref (ga K "BadEnds")) (.ref (ga K "BadSteps")) = some false),
    decide (PySem.W.subIn K (.ref (ga K "BadEnds")) (.ref (ga K "InvalidText")) = some false),
    decide (PySem.W.subIn K (.ref (ga K "BadEnds")) (.ref (ga K "TallyError")) = some true),
    decide (PySem.W.subIn K (.ref (ga K "BadEnds")) (.ref (ga K "TooMany")) = some false),
    decide (PySem.W.subIn K (.ref (ga K "BadLetter")) (.ref (ga K "BadEnds")) = some false),
    decide (PySem.W.subIn K (.ref (ga K "BadLetter")) (.ref (ga K "BadMachine")) = some false),
    decide (PySem.W.subIn K (.ref (ga K "BadLetter")) (.ref (ga K "BadRow")) = some false),
    decide (PySem.W.subIn K (.ref (ga K "BadLetter")) (.ref (ga K "BadStand")) = some false),
    decide (PySem.W.subIn K (.ref (ga K "BadLetter")) (.ref (ga K "BadStands")) = some false),
    decide (PySem.W.subIn K (.ref (ga K "BadLetter")) (.ref (ga K "BadSteps")) = some false),
    decide (PySem.W.subIn K (.ref (ga K "BadLetter")) (.ref (ga K "TallyError")) = some true),
    decide (PySem.W.subIn K (.ref (ga K "BadMachine")) (.ref (ga K "BadBounds")) = some false),
    decide (PySem.W.subIn K (.ref (ga K "BadMachine")) (.ref (ga K "BadEnds")) = some false),
    decide (PySem.W.subIn K (.ref (ga K "BadMachine")) (.ref (ga K "BadLetter")) = some false),
    decide (PySem.W.subIn K (.ref (ga K "BadMachine")) (.ref (ga K "BadNumber")) = some false),
    decide (PySem.W.subIn K (.ref (ga K "BadMachine")) (.ref (ga K "BadSet")) = some false),
    decide (PySem.W.subIn K (.ref (ga K "BadMachine")) (.ref (ga K "BadStands")) = some false)]
def ex_12 (K : PySem.W.Frag) : List Bool := [
    decide (PySem.W.subIn K (.ref (ga K "BadMachine")) (.ref (ga K "BadSteps")) = some false),
    decide (PySem.W.subIn K (.ref (ga K "BadMachine")) (.ref (ga K "InvalidText")) = some false),
    decide (PySem.W.subIn K (.ref (ga K "BadMachine")) (.ref (ga K "TallyError")) = some true),
    decide (PySem.W.subIn K (.ref (ga K "BadMachine")) (.ref (ga K "TooMany")) = some false),
    decide (PySem.W.subIn K (.ref (ga K "BadNumber")) (.ref (ga K "BadEnds")) = some false),
    decide (PySem.W.subIn K (.ref (ga K "BadNumber")) (.ref (ga K "BadLetter")) = some false),
    decide (PySem.W.subIn K (.ref (ga K "BadNumber")) (.ref (ga K "BadMachine")) = some false),
    decide (PySem.W.subIn K (.ref (ga K "BadNumber")) (.ref (ga K "BadRow")) = some false),
    decide (PySem.W.subIn K (.ref (ga K "BadNumber")) (.ref (ga K "BadStand")) = some false),
    decide (PySem.W.subIn K (.ref (ga K "BadNumber")) (.ref (ga K "BadStands")) = some false),
    decide (PySem.W.subIn K (.ref (ga K "BadNumber")) (.ref (ga K "BadSteps")) = some false),
    decide (PySem.W.subIn K (.ref (ga K "BadNumber")) (.ref (ga K "TallyError")) = some true),
    decide (PySem.W.subIn K (.ref (ga K "BadRow")) (.ref (ga K "BadBounds")) = some false),
    decide (PySem.W.subIn K (.ref (ga K "BadRow")) (.ref (ga K "BadEnds")) = some false),
    decide (PySem.W.subIn K (.ref (ga K "BadRow")) (.ref (ga K "BadLetter")) = some false),
    decide (PySem.W.subIn K (.ref (ga K "BadRow")) (.ref (ga K "BadMachine")) = some false),
    decide (PySem.W.subIn K (.ref (ga K "BadRow")) (.ref (ga K "BadNumber")) = some false),
    decide (PySem.W.subIn K (.ref (ga K "BadRow")) (.ref (ga K "BadSet")) = some false),
    decide (PySem.W.subIn K (.ref (ga K "BadRow")) (.ref (ga K "BadStand")) = some false),
    decide (PySem.W.subIn K (.ref (ga K "BadRow")) (.ref (ga K "BadStands")) = some false),
    decide (PySem.W.subIn K (.ref (ga K "BadRow")) (.ref (ga K "BadSteps")) = some false),
    decide (PySem.W.subIn K (.ref (ga K "BadRow")) (.ref (ga K "InvalidText")) = some false),
    decide (PySem.W.subIn K (.ref (ga K "BadRow")) (.ref (ga K "TallyError")) = some true),
    decide (PySem.W.subIn K (.ref (ga K "BadRow")) (.ref (ga K "TooMany")) = some false),
    decide (PySem.W.subIn K (.ref (ga K "BadSet")) (.ref (ga K "BadBounds")) = some false)]
def ex_13 (K : PySem.W.Frag) : List Bool := [
    decide (PySem.W.subIn K (.ref (ga K "BadSet")) (.ref (ga K "BadEnds")) = some false),
    decide (PySem.W.subIn K (.ref (ga K "BadSet")) (.ref (ga K "BadLetter")) = some false),
    decide (PySem.W.subIn K (.ref (ga K "BadSet")) (.ref (ga K "BadMachine")) = some false),
    decide (PySem.W.subIn K (.ref (ga K "BadSet")) (.ref (ga K "BadNumber")) = some false),
    decide (PySem.W.subIn K (.ref (ga K "BadSet")) (.ref (ga K "BadRow")) = some false),
    decide (PySem.W.subIn K (.ref (ga K "BadSet")) (.ref (ga K "BadStand")) = some false),
    decide (PySem.W.subIn K (.ref (ga K "BadSet")) (.ref (ga K "BadStands")) = some false),
    decide (PySem.W.subIn K (.ref (ga K "BadSet")) (.ref (ga K "BadSteps")) = some false),
    decide (PySem.W.subIn K (.ref (ga K "BadSet")) (.ref (ga K "TallyError")) = some true),
    decide (PySem.W.subIn K (.ref (ga K "BadStand")) (.ref (ga K "BadBounds")) = some false),
    decide (PySem.W.subIn K (.ref (ga K "BadStand")) (.ref (ga K "BadEnds")) = some false),
    decide (PySem.W.subIn K (.ref (ga K "BadStand")) (.ref (ga K "BadLetter")) = some false),
    decide (PySem.W.subIn K (.ref (ga K "BadStand")) (.ref (ga K "BadMachine")) = some false),
    decide (PySem.W.subIn K (.ref (ga K "BadStand")) (.ref (ga K "BadNumber")) = some false),
    decide (PySem.W.subIn K (.ref (ga K "BadStand")) (.ref (ga K "BadSet")) = some false),
    decide (PySem.W.subIn K (.ref (ga K "BadStand")) (.ref (ga K "BadStands")) = some false),
    decide (PySem.W.subIn K (.ref (ga K "BadStand")) (.ref (ga K "BadSteps")) = some false),
    decide (PySem.W.subIn K (.ref (ga K "BadStand")) (.ref (ga K "InvalidText")) = some false),
    decide (PySem.W.subIn K (.ref (ga K "BadStand")) (.ref (ga K "TallyError")) = some true),
    decide (PySem.W.subIn K (.ref (ga K "BadStand")) (.ref (ga K "TooMany")) = some false),
    decide (PySem.W.subIn K (.ref (ga K "BadStands")) (.ref (ga K "BadBounds")) = some false),
    decide (PySem.W.subIn K (.ref (ga K "BadStands")) (.ref (ga K "BadLetter")) = some false),
    decide (PySem.W.subIn K (.ref (ga K "BadStands")) (.ref (ga K "BadNumber")) = some false),
    decide (PySem.W.subIn K (.ref (ga K "BadStands")) (.ref (ga K "BadSet")) = some false),
    decide (PySem.W.subIn K (.ref (ga K "BadStands")) (.ref (ga K "InvalidText")) = some false)]
def ex_14 (K : PySem.W.Frag) : List Bool := [
    decide (PySem.W.subIn K (.ref (ga K "BadStands")) (.ref (ga K "TallyError")) = some true),
    decide (PySem.W.subIn K (.ref (ga K "BadStands")) (.ref (ga K "TooMany")) = some false),
    decide (PySem.W.subIn K (.ref (ga K "BadSteps")) (.ref (ga K "BadBounds")) = some false),
    decide (PySem.W.subIn K (.ref (ga K "BadSteps")) (.ref (ga K "BadLetter")) = some false),
    decide (PySem.W.subIn K (.ref (ga K "BadSteps")) (.ref (ga K "BadNumber")) = some false),
    decide (PySem.W.subIn K (.ref (ga K "BadSteps")) (.ref (ga K "BadSet")) = some false),
    decide (PySem.W.subIn K (.ref (ga K "BadSteps")) (.ref (ga K "BadStands")) = some false),
    decide (PySem.W.subIn K (.ref (ga K "BadSteps")) (.ref (ga K "InvalidText")) = some false),
    decide (PySem.W.subIn K (.ref (ga K "BadSteps")) (.ref (ga K "TallyError")) = some true),
    decide (PySem.W.subIn K (.ref (ga K "BadSteps")) (.ref (ga K "TooMany")) = some false),
    decide (PySem.W.subIn K (.ref (ga K "InvalidText")) (.ref (ga K "BadBounds")) = some false),
    decide (PySem.W.subIn K (.ref (ga K "InvalidText")) (.ref (ga K "BadEnds")) = some false),
    decide (PySem.W.subIn K (.ref (ga K "InvalidText")) (.ref (ga K "BadLetter")) = some false),
    decide (PySem.W.subIn K (.ref (ga K "InvalidText")) (.ref (ga K "BadMachine")) = some false),
    decide (PySem.W.subIn K (.ref (ga K "InvalidText")) (.ref (ga K "BadNumber")) = some false),
    decide (PySem.W.subIn K (.ref (ga K "InvalidText")) (.ref (ga K "BadRow")) = some false),
    decide (PySem.W.subIn K (.ref (ga K "InvalidText")) (.ref (ga K "BadSet")) = some false),
    decide (PySem.W.subIn K (.ref (ga K "InvalidText")) (.ref (ga K "BadStand")) = some false),
    decide (PySem.W.subIn K (.ref (ga K "InvalidText")) (.ref (ga K "BadStands")) = some false),
    decide (PySem.W.subIn K (.ref (ga K "InvalidText")) (.ref (ga K "BadSteps")) = some false),
    decide (PySem.W.subIn K (.ref (ga K "InvalidText")) (.ref (ga K "TallyError")) = some true),
    decide (PySem.W.subIn K (.ref (ga K "InvalidText")) (.ref (ga K "TooMany")) = some false),
    decide (PySem.W.subIn K (.ref (ga K "TooMany")) (.ref (ga K "BadBounds")) = some false),
    decide (PySem.W.subIn K (.ref (ga K "TooMany")) (.ref (ga K "BadEnds")) = some false),
    decide (PySem.W.subIn K (.ref (ga K "TooMany")) (.ref (ga K "BadLetter")) = some false)]
def ex_15 (K : PySem.W.Frag) : List Bool := [
    decide (PySem.W.subIn K (.ref (ga K "TooMany")) (.ref (ga K "BadMachine")) = some false),
    decide (PySem.W.subIn K (.ref (ga K "TooMany")) (.ref (ga K "BadNumber")) = some false),
    decide (PySem.W.subIn K (.ref (ga K "TooMany")) (.ref (ga K "BadRow")) = some false),
    decide (PySem.W.subIn K (.ref (ga K "TooMany")) (.ref (ga K "BadSet")) = some false),
    decide (PySem.W.subIn K (.ref (ga K "TooMany")) (.ref (ga K "BadStand")) = some false),
    decide (PySem.W.subIn K (.ref (ga K "TooMany")) (.ref (ga K "BadStands")) = some false),
    decide (PySem.W.subIn K (.ref (ga K "TooMany")) (.ref (ga K "BadSteps")) = some false),
    decide (PySem.W.subIn K (.ref (ga K "TooMany")) (.ref (ga K "TallyError")) = some true),
    tupB K "LETTERS" [.str "a", .str "b", .str "c", .str "d"]]
def exs (K : PySem.W.Frag) : List Bool := [(ex_0 K).all fun b => b, (ex_1 K).all fun b => b, (ex_2 K).all fun b => b, (ex_3 K).all fun b => b, (ex_4 K).all fun b => b, (ex_5 K).all fun b => b, (ex_6 K).all fun b => b, (ex_7 K).all fun b => b, (ex_8 K).all fun b => b, (ex_9 K).all fun b => b, (ex_10 K).all fun b => b, (ex_11 K).all fun b => b, (ex_12 K).all fun b => b, (ex_13 K).all fun b => b, (ex_14 K).all fun b => b, (ex_15 K).all fun b => b]
theorem txt_of {K : PySem.W.Frag} {h : Heap} {mg : Str → Option Value} (X : K.In h) (G : h.Ns mainGlobals mg) (he : (exs K).all (fun b => b) = true) (hf : ∀ (i : Nat) (d : FnA), fns[i]? = some d → FnSaid K d) : Nonempty (Txt K mg) := by
  have e0 := row_ok he 0 (b := (ex_0 K).all fun b => b) rfl
  have e1 := row_ok he 1 (b := (ex_1 K).all fun b => b) rfl
  have e2 := row_ok he 2 (b := (ex_2 K).all fun b => b) rfl
  have e3 := row_ok he 3 (b := (ex_3 K).all fun b => b) rfl
  have e4 := row_ok he 4 (b := (ex_4 K).all fun b => b) rfl
  have e5 := row_ok he 5 (b := (ex_5 K).all fun b => b) rfl
  have e6 := row_ok he 6 (b := (ex_6 K).all fun b => b) rfl
  have e7 := row_ok he 7 (b := (ex_7 K).all fun b => b) rfl
  have e8 := row_ok he 8 (b := (ex_8 K).all fun b => b) rfl
  have e9 := row_ok he 9 (b := (ex_9 K).all fun b => b) rfl
  have e10 := row_ok he 10 (b := (ex_10 K).all fun b => b) rfl
  have e11 := row_ok he 11 (b := (ex_11 K).all fun b => b) rfl
  have e12 := row_ok he 12 (b := (ex_12 K).all fun b => b) rfl
  have e13 := row_ok he 13 (b := (ex_13 K).all fun b => b) rfl
  have e14 := row_ok he 14 (b := (ex_14 K).all fun b => b) rfl
  have e15 := row_ok he 15 (b := (ex_15 K).all fun b => b) rfl
  obtain ⟨oc_BadSteps_init, od_BadSteps_init, sl_BadSteps_init, kV_BadSteps_init, dc_BadSteps_init, pm_BadSteps_init, an_BadSteps_init, cd_BadSteps_init, ct_BadSteps_init, l_BadSteps_init, c_BadSteps_init⟩ := hf 0 fd_BadSteps_init rfl
  obtain ⟨oc_BadNumber_init, od_BadNumber_init, sl_BadNumber_init, kV_BadNumber_init, dc_BadNumber_init, pm_BadNumber_init, an_BadNumber_init, cd_BadNumber_init, ct_BadNumber_init, l_BadNumber_init, c_BadNumber_init⟩ := hf 1 fd_BadNumber_init rfl
  obtain ⟨oc_TooMany_init, od_TooMany_init, sl_TooMany_init, kV_TooMany_init, dc_TooMany_init, pm_TooMany_init, an_TooMany_init, cd_TooMany_init, ct_TooMany_init, l_TooMany_init, c_TooMany_init⟩ := hf 2 fd_TooMany_init rfl
  obtain ⟨oc_InvalidText_init, od_InvalidText_init, sl_InvalidText_init, kV_InvalidText_init, dc_InvalidText_init, pm_InvalidText_init, an_InvalidText_init, cd_InvalidText_init, ct_InvalidText_init, l_InvalidText_init, c_InvalidText_init⟩ := hf 3 fd_InvalidText_init rfl
  obtain ⟨oc_Machine_init, od_Machine_init, sl_Machine_init, kV_Machine_init, dc_Machine_init, pm_Machine_init, an_Machine_init, cd_Machine_init, ct_Machine_init, l_Machine_init, c_Machine_init⟩ := hf 4 fd_Machine_init rfl
  obtain ⟨oc_Machine_stands, od_Machine_stands, sl_Machine_stands, kV_Machine_stands, dc_Machine_stands, pm_Machine_stands, an_Machine_stands, cd_Machine_stands, ct_Machine_stands, l_Machine_stands, c_Machine_stands⟩ := hf 5 fd_Machine_stands rfl
  obtain ⟨oc_Machine_steps, od_Machine_steps, sl_Machine_steps, kV_Machine_steps, dc_Machine_steps, pm_Machine_steps, an_Machine_steps, cd_Machine_steps, ct_Machine_steps, l_Machine_steps, c_Machine_steps⟩ := hf 6 fd_Machine_steps rfl
  obtain ⟨oc_is_whole_number, od_is_whole_number, sl_is_whole_number, kV_is_whole_number, dc_is_whole_number, pm_is_whole_number, an_is_whole_number, cd_is_whole_number, ct_is_whole_number, l_is_whole_number, c_is_whole_number⟩ := hf 7 fd_is_whole_number rfl
  obtain ⟨oc_is_integer_between, od_is_integer_between, sl_is_integer_between, kV_is_integer_between, dc_is_integer_between, pm_is_integer_between, an_is_integer_between, cd_is_integer_between, ct_is_integer_between, l_is_integer_between, c_is_integer_between⟩ := hf 8 fd_is_integer_between rfl
  obtain ⟨oc_is_stand, od_is_stand, sl_is_stand, kV_is_stand, dc_is_stand, pm_is_stand, an_is_stand, cd_is_stand, ct_is_stand, l_is_stand, c_is_stand⟩ := hf 9 fd_is_stand rfl
  obtain ⟨oc_check_stands, od_check_stands, sl_check_stands, kV_check_stands, dc_check_stands, pm_check_stands, an_check_stands, cd_check_stands, ct_check_stands, l_check_stands, c_check_stands⟩ := hf 10 fd_check_stands rfl
  obtain ⟨oc_is_step, od_is_step, sl_is_step, kV_is_step, dc_is_step, pm_is_step, an_is_step, cd_is_step, ct_is_step, l_is_step, c_is_step⟩ := hf 11 fd_is_step rfl
  obtain ⟨oc_check_steps, od_check_steps, sl_check_steps, kV_check_steps, dc_check_steps, pm_check_steps, an_check_steps, cd_check_steps, ct_check_steps, l_check_steps, c_check_steps⟩ := hf 12 fd_check_steps rfl
  obtain ⟨oc_is_ascending, od_is_ascending, sl_is_ascending, kV_is_ascending, dc_is_ascending, pm_is_ascending, an_is_ascending, cd_is_ascending, ct_is_ascending, l_is_ascending, c_is_ascending⟩ := hf 13 fd_is_ascending rfl
  obtain ⟨oc_check_ends, od_check_ends, sl_check_ends, kV_check_ends, dc_check_ends, pm_check_ends, an_check_ends, cd_check_ends, ct_check_ends, l_check_ends, c_check_ends⟩ := hf 14 fd_check_ends rfl
  obtain ⟨oc_check_machine, od_check_machine, sl_check_machine, kV_check_machine, dc_check_machine, pm_check_machine, an_check_machine, cd_check_machine, ct_check_machine, l_check_machine, c_check_machine⟩ := hf 15 fd_check_machine rfl
  obtain ⟨oc_check_stand, od_check_stand, sl_check_stand, kV_check_stand, dc_check_stand, pm_check_stand, an_check_stand, cd_check_stand, ct_check_stand, l_check_stand, c_check_stand⟩ := hf 16 fd_check_stand rfl
  obtain ⟨oc_check_number, od_check_number, sl_check_number, kV_check_number, dc_check_number, pm_check_number, an_check_number, cd_check_number, ct_check_number, l_check_number, c_check_number⟩ := hf 17 fd_check_number rfl
  obtain ⟨oc_moves_of, od_moves_of, sl_moves_of, kV_moves_of, dc_moves_of, pm_moves_of, an_moves_of, cd_moves_of, ct_moves_of, l_moves_of, c_moves_of⟩ := hf 18 fd_moves_of rfl
  obtain ⟨oc_way, od_way, sl_way, kV_way, dc_way, pm_way, an_way, cd_way, ct_way, l_way, c_way⟩ := hf 19 fd_way rfl
  obtain ⟨oc_behind, od_behind, sl_behind, kV_behind, dc_behind, pm_behind, an_behind, cd_behind, ct_behind, l_behind, c_behind⟩ := hf 20 fd_behind rfl
  obtain ⟨oc_reached, od_reached, sl_reached, kV_reached, dc_reached, pm_reached, an_reached, cd_reached, ct_reached, l_reached, c_reached⟩ := hf 21 fd_reached rfl
  obtain ⟨oc_tally_at, od_tally_at, sl_tally_at, kV_tally_at, dc_tally_at, pm_tally_at, an_tally_at, cd_tally_at, ct_tally_at, l_tally_at, c_tally_at⟩ := hf 22 fd_tally_at rfl
  obtain ⟨oc_greatest_at, od_greatest_at, sl_greatest_at, kV_greatest_at, dc_greatest_at, pm_greatest_at, an_greatest_at, cd_greatest_at, ct_greatest_at, l_greatest_at, c_greatest_at⟩ := hf 23 fd_greatest_at rfl
  obtain ⟨oc_check_bounds, od_check_bounds, sl_check_bounds, kV_check_bounds, dc_check_bounds, pm_check_bounds, an_check_bounds, cd_check_bounds, ct_check_bounds, l_check_bounds, c_check_bounds⟩ := hf 24 fd_check_bounds rfl
  obtain ⟨oc_stays, od_stays, sl_stays, kV_stays, dc_stays, pm_stays, an_stays, cd_stays, ct_stays, l_stays, c_stays⟩ := hf 25 fd_stays rfl
  obtain ⟨oc_tallies, od_tallies, sl_tallies, kV_tallies, dc_tallies, pm_tallies, an_tallies, cd_tallies, ct_tallies, l_tallies, c_tallies⟩ := hf 26 fd_tallies rfl
  obtain ⟨oc_check_steps_mends, od_check_steps_mends, sl_check_steps_mends, kV_check_steps_mends, dc_check_steps_mends, pm_check_steps_mends, an_check_steps_mends, cd_check_steps_mends, ct_check_steps_mends, l_check_steps_mends, c_check_steps_mends⟩ := hf 27 fd_check_steps_mends rfl
  obtain ⟨oc_mends, od_mends, sl_mends, kV_mends, dc_mends, pm_mends, an_mends, cd_mends, ct_mends, l_mends, c_mends⟩ := hf 28 fd_mends rfl
  obtain ⟨oc_mended, od_mended, sl_mended, kV_mended, dc_mended, pm_mended, an_mended, cd_mended, ct_mended, l_mended, c_mended⟩ := hf 29 fd_mended rfl
  obtain ⟨oc_Meter_init, od_Meter_init, sl_Meter_init, kV_Meter_init, dc_Meter_init, pm_Meter_init, an_Meter_init, cd_Meter_init, ct_Meter_init, l_Meter_init, c_Meter_init⟩ := hf 30 fd_Meter_init rfl
  obtain ⟨oc_Meter_read, od_Meter_read, sl_Meter_read, kV_Meter_read, dc_Meter_read, pm_Meter_read, an_Meter_read, cd_Meter_read, ct_Meter_read, l_Meter_read, c_Meter_read⟩ := hf 31 fd_Meter_read rfl
  obtain ⟨oc_LineReader_init, od_LineReader_init, sl_LineReader_init, kV_LineReader_init, dc_LineReader_init, pm_LineReader_init, an_LineReader_init, cd_LineReader_init, ct_LineReader_init, l_LineReader_init, c_LineReader_init⟩ := hf 32 fd_LineReader_init rfl
  obtain ⟨oc_LineReader_is_over, od_LineReader_is_over, sl_LineReader_is_over, kV_LineReader_is_over, dc_LineReader_is_over, pm_LineReader_is_over, an_LineReader_is_over, cd_LineReader_is_over, ct_LineReader_is_over, l_LineReader_is_over, c_LineReader_is_over⟩ := hf 33 fd_LineReader_is_over rfl
  obtain ⟨oc_LineReader_fail, od_LineReader_fail, sl_LineReader_fail, kV_LineReader_fail, dc_LineReader_fail, pm_LineReader_fail, an_LineReader_fail, cd_LineReader_fail, ct_LineReader_fail, l_LineReader_fail, c_LineReader_fail⟩ := hf 34 fd_LineReader_fail rfl
  obtain ⟨oc_LineReader_take, od_LineReader_take, sl_LineReader_take, kV_LineReader_take, dc_LineReader_take, pm_LineReader_take, an_LineReader_take, cd_LineReader_take, ct_LineReader_take, l_LineReader_take, c_LineReader_take⟩ := hf 35 fd_LineReader_take rfl
  obtain ⟨oc_read_stands, od_read_stands, sl_read_stands, kV_read_stands, dc_read_stands, pm_read_stands, an_read_stands, cd_read_stands, ct_read_stands, l_read_stands, c_read_stands⟩ := hf 36 fd_read_stands rfl
  obtain ⟨oc_read, od_read, sl_read, kV_read, dc_read, pm_read, an_read, cd_read, ct_read, l_read, c_read⟩ := hf 37 fd_read rfl
  obtain ⟨oc_law_taken, od_law_taken, sl_law_taken, kV_law_taken, dc_law_taken, pm_law_taken, an_law_taken, cd_law_taken, ct_law_taken, l_law_taken, c_law_taken⟩ := hf 38 fd_law_taken rfl
  obtain ⟨oc_law_call, od_law_call, sl_law_call, kV_law_call, dc_law_call, pm_law_call, an_law_call, cd_law_call, ct_law_call, l_law_call, c_law_call⟩ := hf 39 fd_law_call rfl
  obtain ⟨oc_law_first, od_law_first, sl_law_first, kV_law_first, dc_law_first, pm_law_first, an_law_first, cd_law_first, ct_law_first, l_law_first, c_law_first⟩ := hf 40 fd_law_first rfl
  obtain ⟨oc_law_second, od_law_second, sl_law_second, kV_law_second, dc_law_second, pm_law_second, an_law_second, cd_law_second, ct_law_second, l_law_second, c_law_second⟩ := hf 41 fd_law_second rfl
  obtain ⟨oc_law, od_law, sl_law, kV_law, dc_law, pm_law, an_law, cd_law, ct_law, l_law, c_law⟩ := hf 42 fd_law rfl
  obtain ⟨t_MOST_STANDS, g_MOST_STANDS⟩ := int_k (row_ok e1 21 (b := (Fa.int "MOST_STANDS" (8)).ok K) rfl)
  obtain ⟨t_MOST_GAIN, g_MOST_GAIN⟩ := int_k (row_ok e1 22 (b := (Fa.int "MOST_GAIN" (1000000000000000000000000000000)).ok K) rfl)
  obtain ⟨t_MOST_LENGTH, g_MOST_LENGTH⟩ := int_k (row_ok e1 24 (b := (Fa.int "MOST_LENGTH" (12)).ok K) rfl)
  obtain ⟨t_MOST_NUMBER, g_MOST_NUMBER⟩ := int_k (row_ok e2 0 (b := (Fa.int "MOST_NUMBER" (10000000000000000000000000000000000000000)).ok K) rfl)
  obtain ⟨t_MOST_STEPS, g_MOST_STEPS⟩ := int_k (row_ok e2 1 (b := (Fa.int "MOST_STEPS" (12)).ok K) rfl)
  obtain ⟨rest_stands, pr_stands⟩ := pgB_ok (row_ok e4 20 (b := pgB K "Machine" "stands") rfl)
  obtain ⟨rest_steps, pr_steps⟩ := pgB_ok (row_ok e4 24 (b := pgB K "Machine" "steps") rfl)
  exact ⟨txt_mk X G
    (of_decide_eq_true (row_ok e0 0 (b := decide (PySem.W.nsIn K mainGlobals "is_whole_number" = some (some (.ref (fAd K ("is_whole_number", none)))))) rfl))
    (of_decide_eq_true (row_ok e0 1 (b := decide (PySem.W.nsIn K mainGlobals "is_integer_between" = some (some (.ref (fAd K ("is_integer_between", none)))))) rfl))
    (of_decide_eq_true (row_ok e0 2 (b := decide (PySem.W.nsIn K mainGlobals "_is_stand" = some (some (.ref (fAd K ("_is_stand", none)))))) rfl))
    (of_decide_eq_true (row_ok e0 3 (b := decide (PySem.W.nsIn K mainGlobals "_check_stands" = some (some (.ref (fAd K ("_check_stands", none)))))) rfl))
    (of_decide_eq_true (row_ok e0 4 (b := decide (PySem.W.nsIn K mainGlobals "_is_step" = some (some (.ref (fAd K ("_is_step", none)))))) rfl))
    (of_decide_eq_true (row_ok e0 5 (b := decide (PySem.W.nsIn K mainGlobals "check_steps_machines" = some (some (.ref (fAd K ("check_steps_machines", none)))))) rfl))
    (of_decide_eq_true (row_ok e0 6 (b := decide (PySem.W.nsIn K mainGlobals "is_ascending" = some (some (.ref (fAd K ("is_ascending", none)))))) rfl))
    (of_decide_eq_true (row_ok e0 7 (b := decide (PySem.W.nsIn K mainGlobals "_check_ends" = some (some (.ref (fAd K ("_check_ends", none)))))) rfl))
    (of_decide_eq_true (row_ok e0 8 (b := decide (PySem.W.nsIn K mainGlobals "check_machine" = some (some (.ref (fAd K ("check_machine", none)))))) rfl))
    (of_decide_eq_true (row_ok e0 9 (b := decide (PySem.W.nsIn K mainGlobals "check_stand" = some (some (.ref (fAd K ("check_stand", none)))))) rfl))
    (of_decide_eq_true (row_ok e0 10 (b := decide (PySem.W.nsIn K mainGlobals "check_number" = some (some (.ref (fAd K ("check_number", none)))))) rfl))
    (of_decide_eq_true (row_ok e0 11 (b := decide (PySem.W.nsIn K mainGlobals "moves_of" = some (some (.ref (fAd K ("moves_of", none)))))) rfl))
    (of_decide_eq_true (row_ok e0 12 (b := decide (PySem.W.nsIn K mainGlobals "way" = some (some (.ref (fAd K ("way", none)))))) rfl))
    (of_decide_eq_true (row_ok e0 13 (b := decide (PySem.W.nsIn K mainGlobals "behind" = some (some (.ref (fAd K ("behind", none)))))) rfl))
    (of_decide_eq_true (row_ok e0 14 (b := decide (PySem.W.nsIn K mainGlobals "reached" = some (some (.ref (fAd K ("reached", none)))))) rfl))
    (of_decide_eq_true (row_ok e0 15 (b := decide (PySem.W.nsIn K mainGlobals "_tally_at" = some (some (.ref (fAd K ("_tally_at", none)))))) rfl))
    (of_decide_eq_true (row_ok e0 16 (b := decide (PySem.W.nsIn K mainGlobals "greatest_at" = some (some (.ref (fAd K ("greatest_at", none)))))) rfl))
    (of_decide_eq_true (row_ok e0 17 (b := decide (PySem.W.nsIn K mainGlobals "check_bounds" = some (some (.ref (fAd K ("check_bounds", none)))))) rfl))
    (of_decide_eq_true (row_ok e0 18 (b := decide (PySem.W.nsIn K mainGlobals "stays" = some (some (.ref (fAd K ("stays", none)))))) rfl))
    (of_decide_eq_true (row_ok e0 19 (b := decide (PySem.W.nsIn K mainGlobals "tallies" = some (some (.ref (fAd K ("tallies", none)))))) rfl))
    (of_decide_eq_true (row_ok e0 20 (b := decide (PySem.W.nsIn K mainGlobals "check_steps_mends" = some (some (.ref (fAd K ("check_steps_mends", none)))))) rfl))
    (of_decide_eq_true (row_ok e0 21 (b := decide (PySem.W.nsIn K mainGlobals "mends" = some (some (.ref (fAd K ("mends", none)))))) rfl))
    (of_decide_eq_true (row_ok e0 22 (b := decide (PySem.W.nsIn K mainGlobals "mended" = some (some (.ref (fAd K ("mended", none)))))) rfl))
    (of_decide_eq_true (row_ok e0 23 (b := decide (PySem.W.nsIn K mainGlobals "_read_stands" = some (some (.ref (fAd K ("_read_stands", none)))))) rfl))
    (of_decide_eq_true (row_ok e0 24 (b := decide (PySem.W.nsIn K mainGlobals "read" = some (some (.ref (fAd K ("read", none)))))) rfl))
    (of_decide_eq_true (row_ok e1 0 (b := decide (PySem.W.nsIn K mainGlobals "_law_taken" = some (some (.ref (fAd K ("_law_taken", none)))))) rfl))
    (of_decide_eq_true (row_ok e1 1 (b := decide (PySem.W.nsIn K mainGlobals "_law_call" = some (some (.ref (fAd K ("_law_call", none)))))) rfl))
    (of_decide_eq_true (row_ok e1 2 (b := decide (PySem.W.nsIn K mainGlobals "_law_first" = some (some (.ref (fAd K ("_law_first", none)))))) rfl))
    (of_decide_eq_true (row_ok e1 3 (b := decide (PySem.W.nsIn K mainGlobals "_law_second" = some (some (.ref (fAd K ("_law_second", none)))))) rfl))
    (of_decide_eq_true (row_ok e1 4 (b := decide (PySem.W.nsIn K mainGlobals "law" = some (some (.ref (fAd K ("law", none)))))) rfl))
    (of_decide_eq_true (row_ok e1 5 (b := decide (PySem.W.nsIn K mainGlobals "Machine" = some (some (.ref (ga K "Machine"))))) rfl))
    (of_decide_eq_true (row_ok e1 6 (b := decide (PySem.W.nsIn K mainGlobals "Meter" = some (some (.ref (ga K "Meter"))))) rfl))
    (of_decide_eq_true (row_ok e1 7 (b := decide (PySem.W.nsIn K mainGlobals "LineReader" = some (some (.ref (ga K "LineReader"))))) rfl))
    (of_decide_eq_true (row_ok e1 8 (b := decide (PySem.W.nsIn K mainGlobals "BadStands" = some (some (.ref (ga K "BadStands"))))) rfl))
    (of_decide_eq_true (row_ok e1 9 (b := decide (PySem.W.nsIn K mainGlobals "BadEnds" = some (some (.ref (ga K "BadEnds"))))) rfl))
    (of_decide_eq_true (row_ok e1 10 (b := decide (PySem.W.nsIn K mainGlobals "BadMachine" = some (some (.ref (ga K "BadMachine"))))) rfl))
    (of_decide_eq_true (row_ok e1 11 (b := decide (PySem.W.nsIn K mainGlobals "BadStand" = some (some (.ref (ga K "BadStand"))))) rfl))
    (of_decide_eq_true (row_ok e1 12 (b := decide (PySem.W.nsIn K mainGlobals "BadRow" = some (some (.ref (ga K "BadRow"))))) rfl))
    (of_decide_eq_true (row_ok e1 13 (b := decide (PySem.W.nsIn K mainGlobals "BadLetter" = some (some (.ref (ga K "BadLetter"))))) rfl))
    (of_decide_eq_true (row_ok e1 14 (b := decide (PySem.W.nsIn K mainGlobals "BadBounds" = some (some (.ref (ga K "BadBounds"))))) rfl))
    (of_decide_eq_true (row_ok e1 15 (b := decide (PySem.W.nsIn K mainGlobals "BadSet" = some (some (.ref (ga K "BadSet"))))) rfl))
    (of_decide_eq_true (row_ok e1 16 (b := decide (PySem.W.nsIn K mainGlobals "BadSteps" = some (some (.ref (ga K "BadSteps"))))) rfl))
    (of_decide_eq_true (row_ok e1 17 (b := decide (PySem.W.nsIn K mainGlobals "BadNumber" = some (some (.ref (ga K "BadNumber"))))) rfl))
    (of_decide_eq_true (row_ok e1 18 (b := decide (PySem.W.nsIn K mainGlobals "TooMany" = some (some (.ref (ga K "TooMany"))))) rfl))
    (of_decide_eq_true (row_ok e1 19 (b := decide (PySem.W.nsIn K mainGlobals "InvalidText" = some (some (.ref (ga K "InvalidText"))))) rfl))
    (of_decide_eq_true (row_ok e1 20 (b := decide (PySem.W.nsIn K mainGlobals "TallyError" = some (some (.ref (ga K "TallyError"))))) rfl))
    g_MOST_STANDS
    g_MOST_GAIN
    (of_decide_eq_true (row_ok e1 23 (b := decide (PySem.W.nsIn K mainGlobals "LETTERS" = some (some (.ref (ga K "LETTERS"))))) rfl))
    g_MOST_LENGTH
    g_MOST_NUMBER
    g_MOST_STEPS
    (of_decide_eq_true (row_ok e2 2 (b := decide (PySem.W.nsIn K mainGlobals "bool" = some none)) rfl))
    (of_decide_eq_true (row_ok e2 3 (b := decide (PySem.W.nsIn K mainGlobals "enumerate" = some none)) rfl))
    (of_decide_eq_true (row_ok e2 4 (b := decide (PySem.W.nsIn K mainGlobals "int" = some none)) rfl))
    (of_decide_eq_true (row_ok e2 5 (b := decide (PySem.W.nsIn K mainGlobals "isinstance" = some none)) rfl))
    (of_decide_eq_true (row_ok e2 6 (b := decide (PySem.W.nsIn K mainGlobals "len" = some none)) rfl))
    (of_decide_eq_true (row_ok e2 7 (b := decide (PySem.W.nsIn K mainGlobals "list" = some none)) rfl))
    (of_decide_eq_true (row_ok e2 8 (b := decide (PySem.W.nsIn K mainGlobals "max" = some none)) rfl))
    (of_decide_eq_true (row_ok e2 9 (b := decide (PySem.W.nsIn K mainGlobals "min" = some none)) rfl))
    (of_decide_eq_true (row_ok e2 10 (b := decide (PySem.W.nsIn K mainGlobals "range" = some none)) rfl))
    (of_decide_eq_true (row_ok e2 11 (b := decide (PySem.W.nsIn K mainGlobals "str" = some none)) rfl))
    (of_decide_eq_true (row_ok e2 12 (b := decide (PySem.W.nsIn K mainGlobals "tuple" = some none)) rfl))
    l_BadSteps_init
    c_BadSteps_init
    (of_decide_eq_true (row_ok e2 13 (b := decide (PySem.W.keepIn K (.ref (fAd K ("BadSteps", some "__init__"))) = true)) rfl))
    l_BadNumber_init
    c_BadNumber_init
    (of_decide_eq_true (row_ok e2 14 (b := decide (PySem.W.keepIn K (.ref (fAd K ("BadNumber", some "__init__"))) = true)) rfl))
    l_TooMany_init
    c_TooMany_init
    (of_decide_eq_true (row_ok e2 15 (b := decide (PySem.W.keepIn K (.ref (fAd K ("TooMany", some "__init__"))) = true)) rfl))
    l_InvalidText_init
    c_InvalidText_init
    (of_decide_eq_true (row_ok e2 16 (b := decide (PySem.W.keepIn K (.ref (fAd K ("InvalidText", some "__init__"))) = true)) rfl))
    l_Machine_init
    c_Machine_init
    (of_decide_eq_true (row_ok e2 17 (b := decide (PySem.W.keepIn K (.ref (fAd K ("Machine", some "__init__"))) = true)) rfl))
    l_Machine_stands
    c_Machine_stands
    (of_decide_eq_true (row_ok e2 18 (b := decide (PySem.W.keepIn K (.ref (pgA K "Machine" "stands")) = true)) rfl))
    l_Machine_steps
    c_Machine_steps
    (of_decide_eq_true (row_ok e2 19 (b := decide (PySem.W.keepIn K (.ref (pgA K "Machine" "steps")) = true)) rfl))
    l_is_whole_number
    c_is_whole_number
    (of_decide_eq_true (row_ok e2 20 (b := decide (PySem.W.keepIn K (.ref (fAd K ("is_whole_number", none))) = true)) rfl))
    l_is_integer_between
    c_is_integer_between
    (of_decide_eq_true (row_ok e2 21 (b := decide (PySem.W.keepIn K (.ref (fAd K ("is_integer_between", none))) = true)) rfl))
    l_is_stand
    c_is_stand
    (of_decide_eq_true (row_ok e2 22 (b := decide (PySem.W.keepIn K (.ref (fAd K ("_is_stand", none))) = true)) rfl))
    l_check_stands
    c_check_stands
    (of_decide_eq_true (row_ok e2 23 (b := decide (PySem.W.keepIn K (.ref (fAd K ("_check_stands", none))) = true)) rfl))
    l_is_step
    c_is_step
    (of_decide_eq_true (row_ok e2 24 (b := decide (PySem.W.keepIn K (.ref (fAd K ("_is_step", none))) = true)) rfl))
    l_check_steps
    c_check_steps
    (of_decide_eq_true (row_ok e3 0 (b := decide (PySem.W.keepIn K (.ref (fAd K ("check_steps_machines", none))) = true)) rfl))
    l_is_ascending
    c_is_ascending
    (of_decide_eq_true (row_ok e3 1 (b := decide (PySem.W.keepIn K (.ref (fAd K ("is_ascending", none))) = true)) rfl))
    l_check_ends
    c_check_ends
    (of_decide_eq_true (row_ok e3 2 (b := decide (PySem.W.keepIn K (.ref (fAd K ("_check_ends", none))) = true)) rfl))
    l_check_machine
    c_check_machine
    (of_decide_eq_true (row_ok e3 3 (b := decide (PySem.W.keepIn K (.ref (fAd K ("check_machine", none))) = true)) rfl))
    l_check_stand
    c_check_stand
    (of_decide_eq_true (row_ok e3 4 (b := decide (PySem.W.keepIn K (.ref (fAd K ("check_stand", none))) = true)) rfl))
    l_check_number
    c_check_number
    (of_decide_eq_true (row_ok e3 5 (b := decide (PySem.W.keepIn K (.ref (fAd K ("check_number", none))) = true)) rfl))
    l_moves_of
    c_moves_of
    (of_decide_eq_true (row_ok e3 6 (b := decide (PySem.W.keepIn K (.ref (fAd K ("moves_of", none))) = true)) rfl))
    l_way
    c_way
    (of_decide_eq_true (row_ok e3 7 (b := decide (PySem.W.keepIn K (.ref (fAd K ("way", none))) = true)) rfl))
    l_behind
    c_behind
    (of_decide_eq_true (row_ok e3 8 (b := decide (PySem.W.keepIn K (.ref (fAd K ("behind", none))) = true)) rfl))
    l_reached
    c_reached
    (of_decide_eq_true (row_ok e3 9 (b := decide (PySem.W.keepIn K (.ref (fAd K ("reached", none))) = true)) rfl))
    l_tally_at
    c_tally_at
    (of_decide_eq_true (row_ok e3 10 (b := decide (PySem.W.keepIn K (.ref (fAd K ("_tally_at", none))) = true)) rfl))
    l_greatest_at
    c_greatest_at
    (of_decide_eq_true (row_ok e3 11 (b := decide (PySem.W.keepIn K (.ref (fAd K ("greatest_at", none))) = true)) rfl))
    l_check_bounds
    c_check_bounds
    (of_decide_eq_true (row_ok e3 12 (b := decide (PySem.W.keepIn K (.ref (fAd K ("check_bounds", none))) = true)) rfl))
    l_stays
    c_stays
    (of_decide_eq_true (row_ok e3 13 (b := decide (PySem.W.keepIn K (.ref (fAd K ("stays", none))) = true)) rfl))
    l_tallies
    c_tallies
    (of_decide_eq_true (row_ok e3 14 (b := decide (PySem.W.keepIn K (.ref (fAd K ("tallies", none))) = true)) rfl))
    l_check_steps_mends
    c_check_steps_mends
    (of_decide_eq_true (row_ok e3 15 (b := decide (PySem.W.keepIn K (.ref (fAd K ("check_steps_mends", none))) = true)) rfl))
    l_mends
    c_mends
    (of_decide_eq_true (row_ok e3 16 (b := decide (PySem.W.keepIn K (.ref (fAd K ("mends", none))) = true)) rfl))
    l_mended
    c_mended
    (of_decide_eq_true (row_ok e3 17 (b := decide (PySem.W.keepIn K (.ref (fAd K ("mended", none))) = true)) rfl))
    l_Meter_init
    c_Meter_init
    (of_decide_eq_true (row_ok e3 18 (b := decide (PySem.W.keepIn K (.ref (fAd K ("Meter", some "__init__"))) = true)) rfl))
    l_Meter_read
    c_Meter_read
    (of_decide_eq_true (row_ok e3 19 (b := decide (PySem.W.keepIn K (.ref (fAd K ("Meter", some "read"))) = true)) rfl))
    l_LineReader_init
    c_LineReader_init
    (of_decide_eq_true (row_ok e3 20 (b := decide (PySem.W.keepIn K (.ref (fAd K ("LineReader", some "__init__"))) = true)) rfl))
    l_LineReader_is_over
    c_LineReader_is_over
    (of_decide_eq_true (row_ok e3 21 (b := decide (PySem.W.keepIn K (.ref (fAd K ("LineReader", some "is_over"))) = true)) rfl))
    l_LineReader_fail
    c_LineReader_fail
    (of_decide_eq_true (row_ok e3 22 (b := decide (PySem.W.keepIn K (.ref (fAd K ("LineReader", some "fail"))) = true)) rfl))
    l_LineReader_take
    c_LineReader_take
    (of_decide_eq_true (row_ok e3 23 (b := decide (PySem.W.keepIn K (.ref (fAd K ("LineReader", some "take"))) = true)) rfl))
    l_read_stands
    c_read_stands
    (of_decide_eq_true (row_ok e3 24 (b := decide (PySem.W.keepIn K (.ref (fAd K ("_read_stands", none))) = true)) rfl))
    l_read
    c_read
    (of_decide_eq_true (row_ok e4 0 (b := decide (PySem.W.keepIn K (.ref (fAd K ("read", none))) = true)) rfl))
    l_law_taken
    c_law_taken
    (of_decide_eq_true (row_ok e4 1 (b := decide (PySem.W.keepIn K (.ref (fAd K ("_law_taken", none))) = true)) rfl))
    l_law_call
    c_law_call
    (of_decide_eq_true (row_ok e4 2 (b := decide (PySem.W.keepIn K (.ref (fAd K ("_law_call", none))) = true)) rfl))
    l_law_first
    c_law_first
    (of_decide_eq_true (row_ok e4 3 (b := decide (PySem.W.keepIn K (.ref (fAd K ("_law_first", none))) = true)) rfl))
    l_law_second
    c_law_second
    (of_decide_eq_true (row_ok e4 4 (b := decide (PySem.W.keepIn K (.ref (fAd K ("_law_second", none))) = true)) rfl))
    l_law
    c_law
    (of_decide_eq_true (row_ok e4 5 (b := decide (PySem.W.keepIn K (.ref (fAd K ("law", none))) = true)) rfl))
    (of_decide_eq_true (row_ok e4 6 (b := decide (PySem.W.plainGet K (ga K "Machine") Str.empty = true)) rfl))
    (of_decide_eq_true (row_ok e4 7 (b := decide (PySem.W.hasDictIn K (ga K "Machine") = true)) rfl))
    (of_decide_eq_true (row_ok e4 8 (b := decide (PySem.W.plainOver K (ga K "Machine") = true)) rfl))
    (of_decide_eq_true (row_ok e4 9 (b := decide (PySem.W.findIn K (.ref (ga K "Machine")) "__setattr__" = some (some (.builtin "object.__setattr__")))) rfl))
    (of_decide_eq_true (row_ok e4 10 (b := decide (PySem.W.makesIn K (ga K "Machine") = true)) rfl))
    (of_decide_eq_true (row_ok e4 11 (b := decide (PySem.W.keepIn K (.ref (ga K "Machine")) = true)) rfl))
    (of_decide_eq_true (row_ok e4 12 (b := decide (PySem.W.findIn K (.ref (ga K "Machine")) "__init__" = some (some (.ref (fAd K ("Machine", some "__init__")))))) rfl))
    (of_decide_eq_true (row_ok e4 13 (b := decide (PySem.W.isFn K (.ref (fAd K ("Machine", some "__init__"))) = true)) rfl))
    (of_decide_eq_true (row_ok e4 14 (b := decide (PySem.W.findIn K (.ref (ga K "Machine")) "_stands" = some none)) rfl))
    (of_decide_eq_true (row_ok e4 15 (b := decide (PySem.W.findIn K (.ref (ga K "Machine")) "_steps" = some none)) rfl))
    (of_decide_eq_true (row_ok e4 16 (b := decide (PySem.W.findIn K (.ref (ga K "Machine")) "_ends" = some none)) rfl))
    (of_decide_eq_true (row_ok e4 17 (b := decide (PySem.W.findIn K (.ref (ga K "Machine")) "stands" = some (some (.ref (ma K (ga K "Machine") "stands"))))) rfl))
    (of_decide_eq_true (row_ok e4 18 (b := decide (PySem.W.specialIn K (.ref (ma K (ga K "Machine") "stands")) "__get__" = some (some (.builtin "property.__get__")))) rfl))
    (of_decide_eq_true (row_ok e4 19 (b := decide (PySem.W.takesIn K (.ref (ma K (ga K "Machine") "stands")) = some true)) rfl))
    pr_stands
    (of_decide_eq_true (row_ok e4 21 (b := decide (PySem.W.findIn K (.ref (ga K "Machine")) "steps" = some (some (.ref (ma K (ga K "Machine") "steps"))))) rfl))
    (of_decide_eq_true (row_ok e4 22 (b := decide (PySem.W.specialIn K (.ref (ma K (ga K "Machine") "steps")) "__get__" = some (some (.builtin "property.__get__")))) rfl))
    (of_decide_eq_true (row_ok e4 23 (b := decide (PySem.W.takesIn K (.ref (ma K (ga K "Machine") "steps")) = some true)) rfl))
    pr_steps
    (of_decide_eq_true (row_ok e5 0 (b := decide (PySem.W.findIn K (.ref (ga K "Machine")) "__class__" = some (some (.builtin "object.__class__")))) rfl))
    (of_decide_eq_true (row_ok e5 1 (b := decide (PySem.W.specialIn K (.builtin "object.__class__") "__get__" = some (some (.builtin "getset_descriptor.__get__")))) rfl))
    (of_decide_eq_true (row_ok e5 2 (b := decide (PySem.W.takesIn K (.builtin "object.__class__") = some true)) rfl))
    (of_decide_eq_true (row_ok e5 3 (b := decide (PySem.W.mroIn K (ga K "Machine") (.type "object") = some true)) rfl))
    (of_decide_eq_true (row_ok e5 4 (b := decide (PySem.W.isClsIn K (ga K "Machine") = true)) rfl))
    (of_decide_eq_true (row_ok e5 5 (b := decide (PySem.W.typeIn K (.ref (ga K "Machine")) = some (.type "type"))) rfl))
    (of_decide_eq_true (row_ok e5 6 (b := decide (PySem.W.plainGet K (ga K "Meter") Str.empty = true)) rfl))
    (of_decide_eq_true (row_ok e5 7 (b := decide (PySem.W.hasDictIn K (ga K "Meter") = true)) rfl))
    (of_decide_eq_true (row_ok e5 8 (b := decide (PySem.W.plainOver K (ga K "Meter") = true)) rfl))
    (of_decide_eq_true (row_ok e5 9 (b := decide (PySem.W.findIn K (.ref (ga K "Meter")) "__setattr__" = some (some (.builtin "object.__setattr__")))) rfl))
    (of_decide_eq_true (row_ok e5 10 (b := decide (PySem.W.makesIn K (ga K "Meter") = true)) rfl))
    (of_decide_eq_true (row_ok e5 11 (b := decide (PySem.W.keepIn K (.ref (ga K "Meter")) = true)) rfl))
    (of_decide_eq_true (row_ok e5 12 (b := decide (PySem.W.findIn K (.ref (ga K "Meter")) "__init__" = some (some (.ref (fAd K ("Meter", some "__init__")))))) rfl))
    (of_decide_eq_true (row_ok e5 13 (b := decide (PySem.W.isFn K (.ref (fAd K ("Meter", some "__init__"))) = true)) rfl))
    (of_decide_eq_true (row_ok e5 14 (b := decide (PySem.W.findIn K (.ref (ga K "Meter")) "_machine" = some none)) rfl))
    (of_decide_eq_true (row_ok e5 15 (b := decide (PySem.W.findIn K (.ref (ga K "Meter")) "_moves" = some none)) rfl))
    (of_decide_eq_true (row_ok e5 16 (b := decide (PySem.W.findIn K (.ref (ga K "Meter")) "_row" = some none)) rfl))
    (of_decide_eq_true (row_ok e5 17 (b := decide (PySem.W.findIn K (.ref (ga K "Meter")) "_places" = some none)) rfl))
    (of_decide_eq_true (row_ok e5 18 (b := decide (PySem.W.findIn K (.ref (ga K "Meter")) "read" = some (some (.ref (fAd K ("Meter", some "read")))))) rfl))
    (of_decide_eq_true (row_ok e5 19 (b := decide (PySem.W.isFn K (.ref (fAd K ("Meter", some "read"))) = true)) rfl))
    (of_decide_eq_true (row_ok e5 20 (b := decide (PySem.W.plainGet K (ga K "LineReader") Str.empty = true)) rfl))
    (of_decide_eq_true (row_ok e5 21 (b := decide (PySem.W.hasDictIn K (ga K "LineReader") = true)) rfl))
    (of_decide_eq_true (row_ok e5 22 (b := decide (PySem.W.plainOver K (ga K "LineReader") = true)) rfl))
    (of_decide_eq_true (row_ok e5 23 (b := decide (PySem.W.findIn K (.ref (ga K "LineReader")) "__setattr__" = some (some (.builtin "object.__setattr__")))) rfl))
    (of_decide_eq_true (row_ok e5 24 (b := decide (PySem.W.makesIn K (ga K "LineReader") = true)) rfl))
    (of_decide_eq_true (row_ok e6 0 (b := decide (PySem.W.keepIn K (.ref (ga K "LineReader")) = true)) rfl))
    (of_decide_eq_true (row_ok e6 1 (b := decide (PySem.W.findIn K (.ref (ga K "LineReader")) "__init__" = some (some (.ref (fAd K ("LineReader", some "__init__")))))) rfl))
    (of_decide_eq_true (row_ok e6 2 (b := decide (PySem.W.isFn K (.ref (fAd K ("LineReader", some "__init__"))) = true)) rfl))
    (of_decide_eq_true (row_ok e6 3 (b := decide (PySem.W.findIn K (.ref (ga K "LineReader")) "_place" = some none)) rfl))
    (of_decide_eq_true (row_ok e6 4 (b := decide (PySem.W.findIn K (.ref (ga K "LineReader")) "_words" = some none)) rfl))
    (of_decide_eq_true (row_ok e6 5 (b := decide (PySem.W.findIn K (.ref (ga K "LineReader")) "_taken" = some none)) rfl))
    (of_decide_eq_true (row_ok e6 6 (b := decide (PySem.W.findIn K (.ref (ga K "LineReader")) "is_over" = some (some (.ref (fAd K ("LineReader", some "is_over")))))) rfl))
    (of_decide_eq_true (row_ok e6 7 (b := decide (PySem.W.isFn K (.ref (fAd K ("LineReader", some "is_over"))) = true)) rfl))
    (of_decide_eq_true (row_ok e6 8 (b := decide (PySem.W.findIn K (.ref (ga K "LineReader")) "fail" = some (some (.ref (fAd K ("LineReader", some "fail")))))) rfl))
    (of_decide_eq_true (row_ok e6 9 (b := decide (PySem.W.isFn K (.ref (fAd K ("LineReader", some "fail"))) = true)) rfl))
    (of_decide_eq_true (row_ok e6 10 (b := decide (PySem.W.findIn K (.ref (ga K "LineReader")) "take" = some (some (.ref (fAd K ("LineReader", some "take")))))) rfl))
    (of_decide_eq_true (row_ok e6 11 (b := decide (PySem.W.isFn K (.ref (fAd K ("LineReader", some "take"))) = true)) rfl))
    (of_decide_eq_true (row_ok e6 12 (b := decide (PySem.W.excIn K (ga K "BadStands") [.type "ValueError", .type "Exception", .type "BaseException", .type "object"] "ValueError.__new__" = true)) rfl))
    (of_decide_eq_true (row_ok e6 13 (b := decide (PySem.W.keepIn K (.ref (ga K "BadStands")) = true)) rfl))
    (of_decide_eq_true (row_ok e6 14 (b := decide (PySem.W.subIn K (.ref (ga K "BadStands")) (.type "BaseException") = some true)) rfl))
    (of_decide_eq_true (row_ok e6 15 (b := decide (PySem.W.typeIn K (.ref (ga K "BadStands")) = some (.type "type"))) rfl))
    (of_decide_eq_true (row_ok e6 16 (b := decide (PySem.W.isClsIn K (ga K "BadStands") = true)) rfl))
    (of_decide_eq_true (row_ok e6 17 (b := decide (PySem.W.subIn K (.ref (ga K "BadStands")) (.ref (ga K "BadStands")) = some true)) rfl))
    (of_decide_eq_true (row_ok e6 18 (b := decide (PySem.W.excIn K (ga K "BadEnds") [.type "ValueError", .type "Exception", .type "BaseException", .type "object"] "ValueError.__new__" = true)) rfl))
    (of_decide_eq_true (row_ok e6 19 (b := decide (PySem.W.keepIn K (.ref (ga K "BadEnds")) = true)) rfl))
    (of_decide_eq_true (row_ok e6 20 (b := decide (PySem.W.subIn K (.ref (ga K "BadEnds")) (.type "BaseException") = some true)) rfl))
    (of_decide_eq_true (row_ok e6 21 (b := decide (PySem.W.typeIn K (.ref (ga K "BadEnds")) = some (.type "type"))) rfl))
    (of_decide_eq_true (row_ok e6 22 (b := decide (PySem.W.isClsIn K (ga K "BadEnds") = true)) rfl))
    (of_decide_eq_true (row_ok e6 23 (b := decide (PySem.W.subIn K (.ref (ga K "BadEnds")) (.ref (ga K "BadEnds")) = some true)) rfl))
    (of_decide_eq_true (row_ok e6 24 (b := decide (PySem.W.excIn K (ga K "BadMachine") [.type "ValueError", .type "Exception", .type "BaseException", .type "object"] "ValueError.__new__" = true)) rfl))
    (of_decide_eq_true (row_ok e7 0 (b := decide (PySem.W.keepIn K (.ref (ga K "BadMachine")) = true)) rfl))
    (of_decide_eq_true (row_ok e7 1 (b := decide (PySem.W.subIn K (.ref (ga K "BadMachine")) (.type "BaseException") = some true)) rfl))
    (of_decide_eq_true (row_ok e7 2 (b := decide (PySem.W.typeIn K (.ref (ga K "BadMachine")) = some (.type "type"))) rfl))
    (of_decide_eq_true (row_ok e7 3 (b := decide (PySem.W.isClsIn K (ga K "BadMachine") = true)) rfl))
    (of_decide_eq_true (row_ok e7 4 (b := decide (PySem.W.subIn K (.ref (ga K "BadMachine")) (.ref (ga K "BadMachine")) = some true)) rfl))
    (of_decide_eq_true (row_ok e7 5 (b := decide (PySem.W.excIn K (ga K "BadStand") [.type "ValueError", .type "Exception", .type "BaseException", .type "object"] "ValueError.__new__" = true)) rfl))
    (of_decide_eq_true (row_ok e7 6 (b := decide (PySem.W.keepIn K (.ref (ga K "BadStand")) = true)) rfl))
    (of_decide_eq_true (row_ok e7 7 (b := decide (PySem.W.subIn K (.ref (ga K "BadStand")) (.type "BaseException") = some true)) rfl))
    (of_decide_eq_true (row_ok e7 8 (b := decide (PySem.W.typeIn K (.ref (ga K "BadStand")) = some (.type "type"))) rfl))
    (of_decide_eq_true (row_ok e7 9 (b := decide (PySem.W.isClsIn K (ga K "BadStand") = true)) rfl))
    (of_decide_eq_true (row_ok e7 10 (b := decide (PySem.W.subIn K (.ref (ga K "BadStand")) (.ref (ga K "BadStand")) = some true)) rfl))
    (of_decide_eq_true (row_ok e7 11 (b := decide (PySem.W.excIn K (ga K "BadRow") [.type "ValueError", .type "Exception", .type "BaseException", .type "object"] "ValueError.__new__" = true)) rfl))
    (of_decide_eq_true (row_ok e7 12 (b := decide (PySem.W.keepIn K (.ref (ga K "BadRow")) = true)) rfl))
    (of_decide_eq_true (row_ok e7 13 (b := decide (PySem.W.subIn K (.ref (ga K "BadRow")) (.type "BaseException") = some true)) rfl))
    (of_decide_eq_true (row_ok e7 14 (b := decide (PySem.W.typeIn K (.ref (ga K "BadRow")) = some (.type "type"))) rfl))
    (of_decide_eq_true (row_ok e7 15 (b := decide (PySem.W.isClsIn K (ga K "BadRow") = true)) rfl))
    (of_decide_eq_true (row_ok e7 16 (b := decide (PySem.W.subIn K (.ref (ga K "BadRow")) (.ref (ga K "BadRow")) = some true)) rfl))
    (of_decide_eq_true (row_ok e7 17 (b := decide (PySem.W.excIn K (ga K "BadLetter") [.type "ValueError", .type "Exception", .type "BaseException", .type "object"] "ValueError.__new__" = true)) rfl))
    (of_decide_eq_true (row_ok e7 18 (b := decide (PySem.W.keepIn K (.ref (ga K "BadLetter")) = true)) rfl))
    (of_decide_eq_true (row_ok e7 19 (b := decide (PySem.W.subIn K (.ref (ga K "BadLetter")) (.type "BaseException") = some true)) rfl))
    (of_decide_eq_true (row_ok e7 20 (b := decide (PySem.W.typeIn K (.ref (ga K "BadLetter")) = some (.type "type"))) rfl))
    (of_decide_eq_true (row_ok e7 21 (b := decide (PySem.W.isClsIn K (ga K "BadLetter") = true)) rfl))
    (of_decide_eq_true (row_ok e7 22 (b := decide (PySem.W.subIn K (.ref (ga K "BadLetter")) (.ref (ga K "BadLetter")) = some true)) rfl))
    (of_decide_eq_true (row_ok e7 23 (b := decide (PySem.W.excIn K (ga K "BadBounds") [.type "ValueError", .type "Exception", .type "BaseException", .type "object"] "ValueError.__new__" = true)) rfl))
    (of_decide_eq_true (row_ok e7 24 (b := decide (PySem.W.keepIn K (.ref (ga K "BadBounds")) = true)) rfl))
    (of_decide_eq_true (row_ok e8 0 (b := decide (PySem.W.subIn K (.ref (ga K "BadBounds")) (.type "BaseException") = some true)) rfl))
    (of_decide_eq_true (row_ok e8 1 (b := decide (PySem.W.typeIn K (.ref (ga K "BadBounds")) = some (.type "type"))) rfl))
    (of_decide_eq_true (row_ok e8 2 (b := decide (PySem.W.isClsIn K (ga K "BadBounds") = true)) rfl))
    (of_decide_eq_true (row_ok e8 3 (b := decide (PySem.W.subIn K (.ref (ga K "BadBounds")) (.ref (ga K "BadBounds")) = some true)) rfl))
    (of_decide_eq_true (row_ok e8 4 (b := decide (PySem.W.excIn K (ga K "BadSet") [.type "ValueError", .type "Exception", .type "BaseException", .type "object"] "ValueError.__new__" = true)) rfl))
    (of_decide_eq_true (row_ok e8 5 (b := decide (PySem.W.keepIn K (.ref (ga K "BadSet")) = true)) rfl))
    (of_decide_eq_true (row_ok e8 6 (b := decide (PySem.W.subIn K (.ref (ga K "BadSet")) (.type "BaseException") = some true)) rfl))
    (of_decide_eq_true (row_ok e8 7 (b := decide (PySem.W.typeIn K (.ref (ga K "BadSet")) = some (.type "type"))) rfl))
    (of_decide_eq_true (row_ok e8 8 (b := decide (PySem.W.isClsIn K (ga K "BadSet") = true)) rfl))
    (of_decide_eq_true (row_ok e8 9 (b := decide (PySem.W.subIn K (.ref (ga K "BadSet")) (.ref (ga K "BadSet")) = some true)) rfl))
    (exclB_ok (row_ok e8 10 (b := exclB K (ga K "BadSteps")) rfl))
    (of_decide_eq_true (row_ok e8 11 (b := decide (PySem.W.findIn K (.ref (ga K "BadSteps")) "__setattr__" = some (some (.builtin "object.__setattr__")))) rfl))
    (of_decide_eq_true (row_ok e8 12 (b := decide (PySem.W.keepIn K (.ref (ga K "BadSteps")) = true)) rfl))
    (of_decide_eq_true (row_ok e8 13 (b := decide (PySem.W.subIn K (.ref (ga K "BadSteps")) (.type "BaseException") = some true)) rfl))
    (of_decide_eq_true (row_ok e8 14 (b := decide (PySem.W.typeIn K (.ref (ga K "BadSteps")) = some (.type "type"))) rfl))
    (of_decide_eq_true (row_ok e8 15 (b := decide (PySem.W.isClsIn K (ga K "BadSteps") = true)) rfl))
    (of_decide_eq_true (row_ok e8 16 (b := decide (PySem.W.subIn K (.ref (ga K "BadSteps")) (.ref (ga K "BadSteps")) = some true)) rfl))
    (of_decide_eq_true (row_ok e8 17 (b := decide (PySem.W.findIn K (.ref (ga K "BadSteps")) "__getattribute__" = some (some (.builtin "BaseException.__getattribute__")))) rfl))
    (of_decide_eq_true (row_ok e8 18 (b := decide (PySem.W.findIn K (.ref (ga K "BadSteps")) "__getattr__" = some none)) rfl))
    (of_decide_eq_true (row_ok e8 19 (b := decide (PySem.W.hasDictIn K (ga K "BadSteps") = true)) rfl))
    (of_decide_eq_true (row_ok e8 20 (b := decide (PySem.W.findIn K (.ref (ga K "BadSteps")) "__init__" = some (some (.ref (fAd K ("BadSteps", some "__init__")))))) rfl))
    (of_decide_eq_true (row_ok e8 21 (b := decide (PySem.W.typeIn K (.ref (fAd K ("BadSteps", some "__init__"))) = some (.type "function"))) rfl))
    (of_decide_eq_true (row_ok e8 22 (b := decide (PySem.W.findIn K (.ref (ga K "BadSteps")) "index" = some none)) rfl))
    (exclB_ok (row_ok e8 23 (b := exclB K (ga K "BadNumber")) rfl))
    (of_decide_eq_true (row_ok e8 24 (b := decide (PySem.W.findIn K (.ref (ga K "BadNumber")) "__setattr__" = some (some (.builtin "object.__setattr__")))) rfl))
    (of_decide_eq_true (row_ok e9 0 (b := decide (PySem.W.keepIn K (.ref (ga K "BadNumber")) = true)) rfl))
    (of_decide_eq_true (row_ok e9 1 (b := decide (PySem.W.subIn K (.ref (ga K "BadNumber")) (.type "BaseException") = some true)) rfl))
    (of_decide_eq_true (row_ok e9 2 (b := decide (PySem.W.typeIn K (.ref (ga K "BadNumber")) = some (.type "type"))) rfl))
    (of_decide_eq_true (row_ok e9 3 (b := decide (PySem.W.isClsIn K (ga K "BadNumber") = true)) rfl))
    (of_decide_eq_true (row_ok e9 4 (b := decide (PySem.W.subIn K (.ref (ga K "BadNumber")) (.ref (ga K "BadNumber")) = some true)) rfl))
    (of_decide_eq_true (row_ok e9 5 (b := decide (PySem.W.findIn K (.ref (ga K "BadNumber")) "__getattribute__" = some (some (.builtin "BaseException.__getattribute__")))) rfl))
    (of_decide_eq_true (row_ok e9 6 (b := decide (PySem.W.findIn K (.ref (ga K "BadNumber")) "__getattr__" = some none)) rfl))
    (of_decide_eq_true (row_ok e9 7 (b := decide (PySem.W.hasDictIn K (ga K "BadNumber") = true)) rfl))
    (of_decide_eq_true (row_ok e9 8 (b := decide (PySem.W.findIn K (.ref (ga K "BadNumber")) "__init__" = some (some (.ref (fAd K ("BadNumber", some "__init__")))))) rfl))
    (of_decide_eq_true (row_ok e9 9 (b := decide (PySem.W.typeIn K (.ref (fAd K ("BadNumber", some "__init__"))) = some (.type "function"))) rfl))
    (of_decide_eq_true (row_ok e9 10 (b := decide (PySem.W.findIn K (.ref (ga K "BadNumber")) "n" = some none)) rfl))
    (exclB_ok (row_ok e9 11 (b := exclB K (ga K "TooMany")) rfl))
    (of_decide_eq_true (row_ok e9 12 (b := decide (PySem.W.findIn K (.ref (ga K "TooMany")) "__setattr__" = some (some (.builtin "object.__setattr__")))) rfl))
    (of_decide_eq_true (row_ok e9 13 (b := decide (PySem.W.keepIn K (.ref (ga K "TooMany")) = true)) rfl))
    (of_decide_eq_true (row_ok e9 14 (b := decide (PySem.W.subIn K (.ref (ga K "TooMany")) (.type "BaseException") = some true)) rfl))
    (of_decide_eq_true (row_ok e9 15 (b := decide (PySem.W.typeIn K (.ref (ga K "TooMany")) = some (.type "type"))) rfl))
    (of_decide_eq_true (row_ok e9 16 (b := decide (PySem.W.isClsIn K (ga K "TooMany") = true)) rfl))
    (of_decide_eq_true (row_ok e9 17 (b := decide (PySem.W.subIn K (.ref (ga K "TooMany")) (.ref (ga K "TooMany")) = some true)) rfl))
    (of_decide_eq_true (row_ok e9 18 (b := decide (PySem.W.findIn K (.ref (ga K "TooMany")) "__getattribute__" = some (some (.builtin "BaseException.__getattribute__")))) rfl))
    (of_decide_eq_true (row_ok e9 19 (b := decide (PySem.W.findIn K (.ref (ga K "TooMany")) "__getattr__" = some none)) rfl))
    (of_decide_eq_true (row_ok e9 20 (b := decide (PySem.W.hasDictIn K (ga K "TooMany") = true)) rfl))
    (of_decide_eq_true (row_ok e9 21 (b := decide (PySem.W.findIn K (.ref (ga K "TooMany")) "__init__" = some (some (.ref (fAd K ("TooMany", some "__init__")))))) rfl))
    (of_decide_eq_true (row_ok e9 22 (b := decide (PySem.W.typeIn K (.ref (fAd K ("TooMany", some "__init__"))) = some (.type "function"))) rfl))
    (of_decide_eq_true (row_ok e9 23 (b := decide (PySem.W.findIn K (.ref (ga K "TooMany")) "most" = some none)) rfl))
    (exclB_ok (row_ok e9 24 (b := exclB K (ga K "InvalidText")) rfl))
    (of_decide_eq_true (row_ok e10 0 (b := decide (PySem.W.findIn K (.ref (ga K "InvalidText")) "__setattr__" = some (some (.builtin "object.__setattr__")))) rfl))
    (of_decide_eq_true (row_ok e10 1 (b := decide (PySem.W.keepIn K (.ref (ga K "InvalidText")) = true)) rfl))
    (of_decide_eq_true (row_ok e10 2 (b := decide (PySem.W.subIn K (.ref (ga K "InvalidText")) (.type "BaseException") = some true)) rfl))
    (of_decide_eq_true (row_ok e10 3 (b := decide (PySem.W.typeIn K (.ref (ga K "InvalidText")) = some (.type "type"))) rfl))
    (of_decide_eq_true (row_ok e10 4 (b := decide (PySem.W.isClsIn K (ga K "InvalidText") = true)) rfl))
    (of_decide_eq_true (row_ok e10 5 (b := decide (PySem.W.subIn K (.ref (ga K "InvalidText")) (.ref (ga K "InvalidText")) = some true)) rfl))
    (of_decide_eq_true (row_ok e10 6 (b := decide (PySem.W.findIn K (.ref (ga K "InvalidText")) "__getattribute__" = some (some (.builtin "BaseException.__getattribute__")))) rfl))
    (of_decide_eq_true (row_ok e10 7 (b := decide (PySem.W.findIn K (.ref (ga K "InvalidText")) "__getattr__" = some none)) rfl))
    (of_decide_eq_true (row_ok e10 8 (b := decide (PySem.W.hasDictIn K (ga K "InvalidText") = true)) rfl))
    (of_decide_eq_true (row_ok e10 9 (b := decide (PySem.W.findIn K (.ref (ga K "InvalidText")) "__init__" = some (some (.ref (fAd K ("InvalidText", some "__init__")))))) rfl))
    (of_decide_eq_true (row_ok e10 10 (b := decide (PySem.W.typeIn K (.ref (fAd K ("InvalidText", some "__init__"))) = some (.type "function"))) rfl))
    (of_decide_eq_true (row_ok e10 11 (b := decide (PySem.W.findIn K (.ref (ga K "InvalidText")) "line" = some none)) rfl))
    (of_decide_eq_true (row_ok e10 12 (b := decide (PySem.W.findIn K (.ref (ga K "InvalidText")) "word" = some none)) rfl))
    (of_decide_eq_true (row_ok e10 13 (b := decide (PySem.W.subIn K (.ref (ga K "TallyError")) (.type "BaseException") = some true)) rfl))
    (of_decide_eq_true (row_ok e10 14 (b := decide (PySem.W.typeIn K (.ref (ga K "TallyError")) = some (.type "type"))) rfl))
    (of_decide_eq_true (row_ok e10 15 (b := decide (PySem.W.isClsIn K (ga K "TallyError") = true)) rfl))
    (of_decide_eq_true (row_ok e10 16 (b := decide (PySem.W.readsIn K (ga K "TallyError") (.type "type") = true)) rfl))
    (fvB_ok (row_ok e10 17 (b := fvB K (ga K "TallyError")) rfl))
    (of_decide_eq_true (row_ok e10 18 (b := decide (PySem.W.specialIn K (.ref (ga K "TallyError")) "__getattribute__" = some (some (.builtin "type.__getattribute__")))) rfl))
    (of_decide_eq_true (row_ok e10 19 (b := decide (PySem.W.subIn K (.ref (ga K "BadBounds")) (.ref (ga K "BadEnds")) = some false)) rfl))
    (of_decide_eq_true (row_ok e10 20 (b := decide (PySem.W.subIn K (.ref (ga K "BadBounds")) (.ref (ga K "BadLetter")) = some false)) rfl))
    (of_decide_eq_true (row_ok e10 21 (b := decide (PySem.W.subIn K (.ref (ga K "BadBounds")) (.ref (ga K "BadMachine")) = some false)) rfl))
    (of_decide_eq_true (row_ok e10 22 (b := decide (PySem.W.subIn K (.ref (ga K "BadBounds")) (.ref (ga K "BadNumber")) = some false)) rfl))
    (of_decide_eq_true (row_ok e10 23 (b := decide (PySem.W.subIn K (.ref (ga K "BadBounds")) (.ref (ga K "BadRow")) = some false)) rfl))
    (of_decide_eq_true (row_ok e10 24 (b := decide (PySem.W.subIn K (.ref (ga K "BadBounds")) (.ref (ga K "BadStand")) = some false)) rfl))
    (of_decide_eq_true (row_ok e11 0 (b := decide (PySem.W.subIn K (.ref (ga K "BadBounds")) (.ref (ga K "BadStands")) = some false)) rfl))
    (of_decide_eq_true (row_ok e11 1 (b := decide (PySem.W.subIn K (.ref (ga K "BadBounds")) (.ref (ga K "BadSteps")) = some false)) rfl))
    (of_decide_eq_true (row_ok e11 2 (b := decide (PySem.W.subIn K (.ref (ga K "BadBounds")) (.ref (ga K "TallyError")) = some true)) rfl))
    (of_decide_eq_true (row_ok e11 3 (b := decide (PySem.W.subIn K (.ref (ga K "BadEnds")) (.ref (ga K "BadBounds")) = some false)) rfl))
    (of_decide_eq_true (row_ok e11 4 (b := decide (PySem.W.subIn K (.ref (ga K "BadEnds")) (.ref (ga K "BadLetter")) = some false)) rfl))
    (of_decide_eq_true (row_ok e11 5 (b := decide (PySem.W.subIn K (.ref (ga K "BadEnds")) (.ref (ga K "BadNumber")) = some false)) rfl))
    (of_decide_eq_true (row_ok e11 6 (b := decide (PySem.W.subIn K (.ref (ga K "BadEnds")) (.ref (ga K "BadSet")) = some false)) rfl))
    (of_decide_eq_true (row_ok e11 7 (b := decide (PySem.W.subIn K (.ref (ga K "BadEnds")) (.ref (ga K "BadStands")) = some false)) rfl))
    (of_decide_eq_true (row_ok e11 8 (b := decide (PySem.W.subIn K (.ref (ga K "BadEnds")) (.ref (ga K "BadSteps")) = some false)) rfl))
    (of_decide_eq_true (row_ok e11 9 (b := decide (PySem.W.subIn K (.ref (ga K "BadEnds")) (.ref (ga K "InvalidText")) = some false)) rfl))
    (of_decide_eq_true (row_ok e11 10 (b := decide (PySem.W.subIn K (.ref (ga K "BadEnds")) (.ref (ga K "TallyError")) = some true)) rfl))
    (of_decide_eq_true (row_ok e11 11 (b := decide (PySem.W.subIn K (.ref (ga K "BadEnds")) (.ref (ga K "TooMany")) = some false)) rfl))
    (of_decide_eq_true (row_ok e11 12 (b := decide (PySem.W.subIn K (.ref (ga K "BadLetter")) (.ref (ga K "BadEnds")) = some false)) rfl))
    (of_decide_eq_true (row_ok e11 13 (b := decide (PySem.W.subIn K (.ref (ga K "BadLetter")) (.ref (ga K "BadMachine")) = some false)) rfl))
    (of_decide_eq_true (row_ok e11 14 (b := decide (PySem.W.subIn K (.ref (ga K "BadLetter")) (.ref (ga K "BadRow")) = some false)) rfl))
    (of_decide_eq_true (row_ok e11 15 (b := decide (PySem.W.subIn K (.ref (ga K "BadLetter")) (.ref (ga K "BadStand")) = some false)) rfl))
    (of_decide_eq_true (row_ok e11 16 (b := decide (PySem.W.subIn K (.ref (ga K "BadLetter")) (.ref (ga K "BadStands")) = some false)) rfl))
    (of_decide_eq_true (row_ok e11 17 (b := decide (PySem.W.subIn K (.ref (ga K "BadLetter")) (.ref (ga K "BadSteps")) = some false)) rfl))
    (of_decide_eq_true (row_ok e11 18 (b := decide (PySem.W.subIn K (.ref (ga K "BadLetter")) (.ref (ga K "TallyError")) = some true)) rfl))
    (of_decide_eq_true (row_ok e11 19 (b := decide (PySem.W.subIn K (.ref (ga K "BadMachine")) (.ref (ga K "BadBounds")) = some false)) rfl))
    (of_decide_eq_true (row_ok e11 20 (b := decide (PySem.W.subIn K (.ref (ga K "BadMachine")) (.ref (ga K "BadEnds")) = some false)) rfl))
    (of_decide_eq_true (row_ok e11 21 (b := decide (PySem.W.subIn K (.ref (ga K "BadMachine")) (.ref (ga K "BadLetter")) = some false)) rfl))
    (of_decide_eq_true (row_ok e11 22 (b := decide (PySem.W.subIn K (.ref (ga K "BadMachine")) (.ref (ga K "BadNumber")) = some false)) rfl))
    (of_decide_eq_true (row_ok e11 23 (b := decide (PySem.W.subIn K (.ref (ga K "BadMachine")) (.ref (ga K "BadSet")) = some false)) rfl))
    (of_decide_eq_true (row_ok e11 24 (b := decide (PySem.W.subIn K (.ref (ga K "BadMachine")) (.ref (ga K "BadStands")) = some false)) rfl))
    (of_decide_eq_true (row_ok e12 0 (b := decide (PySem.W.subIn K (.ref (ga K "BadMachine")) (.ref (ga K "BadSteps")) = some false)) rfl))
    (of_decide_eq_true (row_ok e12 1 (b := decide (PySem.W.subIn K (.ref (ga K "BadMachine")) (.ref (ga K "InvalidText")) = some false)) rfl))
    (of_decide_eq_true (row_ok e12 2 (b := decide (PySem.W.subIn K (.ref (ga K "BadMachine")) (.ref (ga K "TallyError")) = some true)) rfl))
    (of_decide_eq_true (row_ok e12 3 (b := decide (PySem.W.subIn K (.ref (ga K "BadMachine")) (.ref (ga K "TooMany")) = some false)) rfl))
    (of_decide_eq_true (row_ok e12 4 (b := decide (PySem.W.subIn K (.ref (ga K "BadNumber")) (.ref (ga K "BadEnds")) = some false)) rfl))
    (of_decide_eq_true (row_ok e12 5 (b := decide (PySem.W.subIn K (.ref (ga K "BadNumber")) (.ref (ga K "BadLetter")) = some false)) rfl))
    (of_decide_eq_true (row_ok e12 6 (b := decide (PySem.W.subIn K (.ref (ga K "BadNumber")) (.ref (ga K "BadMachine")) = some false)) rfl))
    (of_decide_eq_true (row_ok e12 7 (b := decide (PySem.W.subIn K (.ref (ga K "BadNumber")) (.ref (ga K "BadRow")) = some false)) rfl))
    (of_decide_eq_true (row_ok e12 8 (b := decide (PySem.W.subIn K (.ref (ga K "BadNumber")) (.ref (ga K "BadStand")) = some false)) rfl))
    (of_decide_eq_true (row_ok e12 9 (b := decide (PySem.W.subIn K (.ref (ga K "BadNumber")) (.ref (ga K "BadStands")) = some false)) rfl))
    (of_decide_eq_true (row_ok e12 10 (b := decide (PySem.W.subIn K (.ref (ga K "BadNumber")) (.ref (ga K "BadSteps")) = some false)) rfl))
    (of_decide_eq_true (row_ok e12 11 (b := decide (PySem.W.subIn K (.ref (ga K "BadNumber")) (.ref (ga K "TallyError")) = some true)) rfl))
    (of_decide_eq_true (row_ok e12 12 (b := decide (PySem.W.subIn K (.ref (ga K "BadRow")) (.ref (ga K "BadBounds")) = some false)) rfl))
    (of_decide_eq_true (row_ok e12 13 (b := decide (PySem.W.subIn K (.ref (ga K "BadRow")) (.ref (ga K "BadEnds")) = some false)) rfl))
    (of_decide_eq_true (row_ok e12 14 (b := decide (PySem.W.subIn K (.ref (ga K "BadRow")) (.ref (ga K "BadLetter")) = some false)) rfl))
    (of_decide_eq_true (row_ok e12 15 (b := decide (PySem.W.subIn K (.ref (ga K "BadRow")) (.ref (ga K "BadMachine")) = some false)) rfl))
    (of_decide_eq_true (row_ok e12 16 (b := decide (PySem.W.subIn K (.ref (ga K "BadRow")) (.ref (ga K "BadNumber")) = some false)) rfl))
    (of_decide_eq_true (row_ok e12 17 (b := decide (PySem.W.subIn K (.ref (ga K "BadRow")) (.ref (ga K "BadSet")) = some false)) rfl))
    (of_decide_eq_true (row_ok e12 18 (b := decide (PySem.W.subIn K (.ref (ga K "BadRow")) (.ref (ga K "BadStand")) = some false)) rfl))
    (of_decide_eq_true (row_ok e12 19 (b := decide (PySem.W.subIn K (.ref (ga K "BadRow")) (.ref (ga K "BadStands")) = some false)) rfl))
    (of_decide_eq_true (row_ok e12 20 (b := decide (PySem.W.subIn K (.ref (ga K "BadRow")) (.ref (ga K "BadSteps")) = some false)) rfl))
    (of_decide_eq_true (row_ok e12 21 (b := decide (PySem.W.subIn K (.ref (ga K "BadRow")) (.ref (ga K "InvalidText")) = some false)) rfl))
    (of_decide_eq_true (row_ok e12 22 (b := decide (PySem.W.subIn K (.ref (ga K "BadRow")) (.ref (ga K "TallyError")) = some true)) rfl))
    (of_decide_eq_true (row_ok e12 23 (b := decide (PySem.W.subIn K (.ref (ga K "BadRow")) (.ref (ga K "TooMany")) = some false)) rfl))
    (of_decide_eq_true (row_ok e12 24 (b := decide (PySem.W.subIn K (.ref (ga K "BadSet")) (.ref (ga K "BadBounds")) = some false)) rfl))
    (of_decide_eq_true (row_ok e13 0 (b := decide (PySem.W.subIn K (.ref (ga K "BadSet")) (.ref (ga K "BadEnds")) = some false)) rfl))
    (of_decide_eq_true (row_ok e13 1 (b := decide (PySem.W.subIn K (.ref (ga K "BadSet")) (.ref (ga K "BadLetter")) = some false)) rfl))
    (of_decide_eq_true (row_ok e13 2 (b := decide (PySem.W.subIn K (.ref (ga K "BadSet")) (.ref (ga K "BadMachine")) = some false)) rfl))
    (of_decide_eq_true (row_ok e13 3 (b := decide (PySem.W.subIn K (.ref (ga K "BadSet")) (.ref (ga K "BadNumber")) = some false)) rfl))
    (of_decide_eq_true (row_ok e13 4 (b := decide (PySem.W.subIn K (.ref (ga K "BadSet")) (.ref (ga K "BadRow")) = some false)) rfl))
    (of_decide_eq_true (row_ok e13 5 (b := decide (PySem.W.subIn K (.ref (ga K "BadSet")) (.ref (ga K "BadStand")) = some false)) rfl))
    (of_decide_eq_true (row_ok e13 6 (b := decide (PySem.W.subIn K (.ref (ga K "BadSet")) (.ref (ga K "BadStands")) = some false)) rfl))
    (of_decide_eq_true (row_ok e13 7 (b := decide (PySem.W.subIn K (.ref (ga K "BadSet")) (.ref (ga K "BadSteps")) = some false)) rfl))
    (of_decide_eq_true (row_ok e13 8 (b := decide (PySem.W.subIn K (.ref (ga K "BadSet")) (.ref (ga K "TallyError")) = some true)) rfl))
    (of_decide_eq_true (row_ok e13 9 (b := decide (PySem.W.subIn K (.ref (ga K "BadStand")) (.ref (ga K "BadBounds")) = some false)) rfl))
    (of_decide_eq_true (row_ok e13 10 (b := decide (PySem.W.subIn K (.ref (ga K "BadStand")) (.ref (ga K "BadEnds")) = some false)) rfl))
    (of_decide_eq_true (row_ok e13 11 (b := decide (PySem.W.subIn K (.ref (ga K "BadStand")) (.ref (ga K "BadLetter")) = some false)) rfl))
    (of_decide_eq_true (row_ok e13 12 (b := decide (PySem.W.subIn K (.ref (ga K "BadStand")) (.ref (ga K "BadMachine")) = some false)) rfl))
    (of_decide_eq_true (row_ok e13 13 (b := decide (PySem.W.subIn K (.ref (ga K "BadStand")) (.ref (ga K "BadNumber")) = some false)) rfl))
    (of_decide_eq_true (row_ok e13 14 (b := decide (PySem.W.subIn K (.ref (ga K "BadStand")) (.ref (ga K "BadSet")) = some false)) rfl))
    (of_decide_eq_true (row_ok e13 15 (b := decide (PySem.W.subIn K (.ref (ga K "BadStand")) (.ref (ga K "BadStands")) = some false)) rfl))
    (of_decide_eq_true (row_ok e13 16 (b := decide (PySem.W.subIn K (.ref (ga K "BadStand")) (.ref (ga K "BadSteps")) = some false)) rfl))
    (of_decide_eq_true (row_ok e13 17 (b := decide (PySem.W.subIn K (.ref (ga K "BadStand")) (.ref (ga K "InvalidText")) = some false)) rfl))
    (of_decide_eq_true (row_ok e13 18 (b := decide (PySem.W.subIn K (.ref (ga K "BadStand")) (.ref (ga K "TallyError")) = some true)) rfl))
    (of_decide_eq_true (row_ok e13 19 (b := decide (PySem.W.subIn K (.ref (ga K "BadStand")) (.ref (ga K "TooMany")) = some false)) rfl))
    (of_decide_eq_true (row_ok e13 20 (b := decide (PySem.W.subIn K (.ref (ga K "BadStands")) (.ref (ga K "BadBounds")) = some false)) rfl))
    (of_decide_eq_true (row_ok e13 21 (b := decide (PySem.W.subIn K (.ref (ga K "BadStands")) (.ref (ga K "BadLetter")) = some false)) rfl))
    (of_decide_eq_true (row_ok e13 22 (b := decide (PySem.W.subIn K (.ref (ga K "BadStands")) (.ref (ga K "BadNumber")) = some false)) rfl))
    (of_decide_eq_true (row_ok e13 23 (b := decide (PySem.W.subIn K (.ref (ga K "BadStands")) (.ref (ga K "BadSet")) = some false)) rfl))
    (of_decide_eq_true (row_ok e13 24 (b := decide (PySem.W.subIn K (.ref (ga K "BadStands")) (.ref (ga K "InvalidText")) = some false)) rfl))
    (of_decide_eq_true (row_ok e14 0 (b := decide (PySem.W.subIn K (.ref (ga K "BadStands")) (.ref (ga K "TallyError")) = some true)) rfl))
    (of_decide_eq_true (row_ok e14 1 (b := decide (PySem.W.subIn K (.ref (ga K "BadStands")) (.ref (ga K "TooMany")) = some false)) rfl))
    (of_decide_eq_true (row_ok e14 2 (b := decide (PySem.W.subIn K (.ref (ga K "BadSteps")) (.ref (ga K "BadBounds")) = some false)) rfl))
    (of_decide_eq_true (row_ok e14 3 (b := decide (PySem.W.subIn K (.ref (ga K "BadSteps")) (.ref (ga K "BadLetter")) = some false)) rfl))
    (of_decide_eq_true (row_ok e14 4 (b := decide (PySem.W.subIn K (.ref (ga K "BadSteps")) (.ref (ga K "BadNumber")) = some false)) rfl))
    (of_decide_eq_true (row_ok e14 5 (b := decide (PySem.W.subIn K (.ref (ga K "BadSteps")) (.ref (ga K "BadSet")) = some false)) rfl))
    (of_decide_eq_true (row_ok e14 6 (b := decide (PySem.W.subIn K (.ref (ga K "BadSteps")) (.ref (ga K "BadStands")) = some false)) rfl))
    (of_decide_eq_true (row_ok e14 7 (b := decide (PySem.W.subIn K (.ref (ga K "BadSteps")) (.ref (ga K "InvalidText")) = some false)) rfl))
    (of_decide_eq_true (row_ok e14 8 (b := decide (PySem.W.subIn K (.ref (ga K "BadSteps")) (.ref (ga K "TallyError")) = some true)) rfl))
    (of_decide_eq_true (row_ok e14 9 (b := decide (PySem.W.subIn K (.ref (ga K "BadSteps")) (.ref (ga K "TooMany")) = some false)) rfl))
    (of_decide_eq_true (row_ok e14 10 (b := decide (PySem.W.subIn K (.ref (ga K "InvalidText")) (.ref (ga K "BadBounds")) = some false)) rfl))
    (of_decide_eq_true (row_ok e14 11 (b := decide (PySem.W.subIn K (.ref (ga K "InvalidText")) (.ref (ga K "BadEnds")) = some false)) rfl))
    (of_decide_eq_true (row_ok e14 12 (b := decide (PySem.W.subIn K (.ref (ga K "InvalidText")) (.ref (ga K "BadLetter")) = some false)) rfl))
    (of_decide_eq_true (row_ok e14 13 (b := decide (PySem.W.subIn K (.ref (ga K "InvalidText")) (.ref (ga K "BadMachine")) = some false)) rfl))
    (of_decide_eq_true (row_ok e14 14 (b := decide (PySem.W.subIn K (.ref (ga K "InvalidText")) (.ref (ga K "BadNumber")) = some false)) rfl))
    (of_decide_eq_true (row_ok e14 15 (b := decide (PySem.W.subIn K (.ref (ga K "InvalidText")) (.ref (ga K "BadRow")) = some false)) rfl))
    (of_decide_eq_true (row_ok e14 16 (b := decide (PySem.W.subIn K (.ref (ga K "InvalidText")) (.ref (ga K "BadSet")) = some false)) rfl))
    (of_decide_eq_true (row_ok e14 17 (b := decide (PySem.W.subIn K (.ref (ga K "InvalidText")) (.ref (ga K "BadStand")) = some false)) rfl))
    (of_decide_eq_true (row_ok e14 18 (b := decide (PySem.W.subIn K (.ref (ga K "InvalidText")) (.ref (ga K "BadStands")) = some false)) rfl))
    (of_decide_eq_true (row_ok e14 19 (b := decide (PySem.W.subIn K (.ref (ga K "InvalidText")) (.ref (ga K "BadSteps")) = some false)) rfl))
    (of_decide_eq_true (row_ok e14 20 (b := decide (PySem.W.subIn K (.ref (ga K "InvalidText")) (.ref (ga K "TallyError")) = some true)) rfl))
    (of_decide_eq_true (row_ok e14 21 (b := decide (PySem.W.subIn K (.ref (ga K "InvalidText")) (.ref (ga K "TooMany")) = some false)) rfl))
    (of_decide_eq_true (row_ok e14 22 (b := decide (PySem.W.subIn K (.ref (ga K "TooMany")) (.ref (ga K "BadBounds")) = some false)) rfl))
    (of_decide_eq_true (row_ok e14 23 (b := decide (PySem.W.subIn K (.ref (ga K "TooMany")) (.ref (ga K "BadEnds")) = some false)) rfl))
    (of_decide_eq_true (row_ok e14 24 (b := decide (PySem.W.subIn K (.ref (ga K "TooMany")) (.ref (ga K "BadLetter")) = some false)) rfl))
    (of_decide_eq_true (row_ok e15 0 (b := decide (PySem.W.subIn K (.ref (ga K "TooMany")) (.ref (ga K "BadMachine")) = some false)) rfl))
    (of_decide_eq_true (row_ok e15 1 (b := decide (PySem.W.subIn K (.ref (ga K "TooMany")) (.ref (ga K "BadNumber")) = some false)) rfl))
    (of_decide_eq_true (row_ok e15 2 (b := decide (PySem.W.subIn K (.ref (ga K "TooMany")) (.ref (ga K "BadRow")) = some false)) rfl))
    (of_decide_eq_true (row_ok e15 3 (b := decide (PySem.W.subIn K (.ref (ga K "TooMany")) (.ref (ga K "BadSet")) = some false)) rfl))
    (of_decide_eq_true (row_ok e15 4 (b := decide (PySem.W.subIn K (.ref (ga K "TooMany")) (.ref (ga K "BadStand")) = some false)) rfl))
    (of_decide_eq_true (row_ok e15 5 (b := decide (PySem.W.subIn K (.ref (ga K "TooMany")) (.ref (ga K "BadStands")) = some false)) rfl))
    (of_decide_eq_true (row_ok e15 6 (b := decide (PySem.W.subIn K (.ref (ga K "TooMany")) (.ref (ga K "BadSteps")) = some false)) rfl))
    (of_decide_eq_true (row_ok e15 7 (b := decide (PySem.W.subIn K (.ref (ga K "TooMany")) (.ref (ga K "TallyError")) = some true)) rfl))
    (fun H => tupB_ok (row_ok e15 8 (b := tupB K "LETTERS" [.str "a", .str "b", .str "c", .str "d"]) rfl) H)⟩
end
/-! ### the run of the top -/
open PySem.W PySem.Calls PyProof.Rows in
abbrev R : PySem.W.OpenRow := PySem.W.OpenLaw.row PySem.Challenge.rw_staytallies_k33_errors_are_apart
abbrev qv : Program := PySem.W.view R.prog [0, 86]
def lo_0 : List Str := ["_wall", "TallyError", "BadStands", "BadSteps", "BadEnds", "BadMachine", "BadStand", "BadRow", "BadLetter", "BadNumber", "BadBounds", "BadSet", "TooMany", "InvalidText", "ENDLESS", "led_to", "longer_rows", "_improved", "best_rows", "_best_of", "least_and_greatest", "is_within", "MOST_STANDS", "MOST_GAIN", "MOST_NUMBER", "LETTERS", "Machine", "is_whole_number", "is_integer_between", "_is_stand"]
def lo_1 : List Str := ["_check_stands", "_is_step", "_check_steps", "check_steps_machines", "is_ascending", "_check_ends", "check_machine", "check_stand", "check_number", "moves_of", "way", "behind", "reached", "_tally_at", "greatest_at", "bounds", "check_bounds", "stays", "MOST_LENGTH", "_longer", "_numbers", "numbers_counts", "tallies", "MOST_STEPS", "check_steps_mends", "_places_on_loops", "_spread", "numbers_mends", "_numbers_without", "_sets_that_mend"]
def lo_2 : List Str := ["mends", "mended", "Meter", "_number", "LineReader", "_read_stands", "_read_ends", "_read_step", "read", "_law_taken", "_law_call", "_law_first", "_law_second"]
def los : List Str := lo_0 ++ lo_1 ++ lo_2
abbrev hk : PySem.W.Hook := hookF nms 4 fns exs
def ob (s : PySem.W.SharedT) : AlF := obsF nms 4 fns exs (HandSHeadRun.getT s)
theorem ob_eq (s : PySem.W.SharedT) : ob s = hk.obs s.abs := by
  have e : HandSHeadRun.getT s = s.abs.heap.get? := funext (HandSHeadRun.getT_eq s)
  show obsF nms 4 fns exs (HandSHeadRun.getT s) = obsF nms 4 fns exs s.abs.heap.get?
  rw [e]
set_option maxHeartbeats 0 in
theorem run_at1 (w : World) : (HandSHeadRun.wholeF (fun p => HandSHeadRun.stepQ (HandSHeadRun.denQ HandSHeadRun.tabQ) p w) HandSHeadRun.fenceQ 20000 R.prog).map (fun x => HandSHeadRun.looksF R.prog x.1.heap x.2.abs) = some true := by
  kernel_rfl
set_option maxHeartbeats 0 in
theorem run_at2 (w : World) : (HandSHeadRun.wholeF (fun p => HandSHeadRun.stepQ (HandSHeadRun.denQ HandSHeadRun.tabQ) p w) HandSHeadRun.fenceQ 20000 R.prog).map (fun x => HandSHeadRun.seenQ qv los (PySem.importedModules R.prog.main.body) (fun s => PySem.W.xlAt qv [] s && PySem.W.recOk R.toRowW.records s) x.2.abs) = some (PySem.W.openGood qv los) := by
  kernel_rfl
set_option maxHeartbeats 0 in
theorem run_at3 (w : World) : (HandSHeadRun.wholeF (fun p => HandSHeadRun.stepQ (HandSHeadRun.denQ HandSHeadRun.tabQ) p w) HandSHeadRun.fenceQ 20000 R.prog).map (fun x => ob x.2) = some (valF fns) := by
  kernel_rfl
theorem run_at (w : World) : HandSHeadRun.RunEqI R qv hk ob 20000 los w := by
  delta HandSHeadRun.RunEqI
  exact map_join (run_at1 w) (run_at2 w) (run_at3 w)
theorem walkH {l : PySem.W.OpenLaw} {q : Program} {loose : List Str} {XP : (Str → Option Value) → Heap → Prop} {YP : World → Heap → Prop} {d : DefRec} (hn : l.most = some 63) (hdf : d.params.defaults = [])
    (F : ∀ (w : World) (mg : Str → Option Value) (fa : Addr) (h : Heap), YP w h → h.Ns mainGlobals mg → mg d.name = some (.ref fa) → ∃ K : PySem.W.Frag, K.In h ∧
      ∃ fd : FuncData, (∀ (s : Shared) (u : Value), BindsTo s fd ⟨[u], []⟩ [("_law_script", u)]) ∧ ∀ base : Heap, K.In base → base.Ns mainGlobals mg → FnOk l.prog w K mg base (L2.CX l.prog w) 30 fa fd ["_law_script"] (sp_law K)) :
    PySem.W.WalkO q loose XP YP l.row.toRowW d [] (fun f vs => PySem.call f vs) := by
  refine Att.attach_call hn hdf fun w s₀ s₁ mg mb fa o pm cd doc a vs ns G Y ho hd hcd hmg hobj hints hlen hg => ?_
  obtain ⟨K, KX, fd, hb, hF⟩ := F w mg fa _ Y G.T.g hmg
  refine law_call KX G.T.g G.T.b G.T.builtins G.T.nolimit hg hobj hints (Nat.le_trans hlen (by decide)) ⟨rfl, by decide, by decide⟩ hF hb (fun H hO hS => ⟨a, ns, rfl, by
      rcases hS with (e | ⟨o, e⟩) | h
      · rcases hO a with z | ⟨_, _, z⟩
        · rw [e] at z; cases z
        · rw [e] at z; cases z
      · exact .inl ⟨o, e⟩
      · exact .inr fun _ => .inr h, hlen, fun _ => rfl⟩) fun H e s' h => ?_
  obtain ⟨_, _, _, _, _, _, _, _, _, _, _, _, z⟩ := h
  exact z.elim
end Sv
open PySem PySem.W PySem.Calls PyProof.Rows in
set_option maxRecDepth 100000 in
set_option maxHeartbeats 0 in
theorem PySem.Challenge.cw_staytallies_k33_errors_are_apart_holds : PySem.Challenge.rw_staytallies_k33_errors_are_apart.Holds := by
  w_on; o_law
  refine HandSHeadRun.head_imp (r := Sv.R) (q := Sv.qv) (H := Sv.hk) (ob := Sv.ob) (M := 20000) (loose := Sv.los) (d := HandSHeadRun.topDef Sv.R.prog 86) (kwd := []) Sv.ob_eq Sv.run_at (by kernel_rfl) (by kernel_rfl) (by kernel_rfl) (by rfl) (by first | assumption | decide +kernel) (by decide +kernel) ⟨rfl, rfl, rfl, rfl, rfl, by decide +kernel⟩ ?hw ?hc
  case hw => w_witness2
  case hc =>
    refine Sv.walkH (l := PySem.Challenge.rw_staytallies_k33_errors_are_apart) rfl (by kernel_rfl) ?F
    intro w mg fa h Y G hmg
    obtain ⟨K, KX, he, hf⟩ := Y
    have hmg2 : mg "law" = some (.ref fa) := by
      have e : (HandSHeadRun.topDef Sv.R.prog 86).name = ("law" : PySem.Str) := by kernel_rfl
      rw [← e]
      exact hmg
    obtain ⟨T⟩ := Sv.txt_of KX G he hf
    exact ⟨K, KX, Sv.all_mk T hmg2⟩
#print axioms PySem.Challenge.cw_staytallies_k33_errors_are_apart_holds
