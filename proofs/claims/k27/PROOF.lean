import PyProof.Rows.All
import Wide.All
import OpenK.AllK
import Wide.FinOn
import HandS.ForMost
import HandS.ForExc
import HandS.Wide
import HandS.Property
import HandS.IsInst
import HandS.TupAny
import HandS.TupLe
import HandS.Style
import HandS.Flow
import HandS.ExcInit
import HandS.ExcField
import HandS.FStr
import HandS.OwnEq
import KE.GoesMore
import HandS.Codes
import HandS.DictComp
import HandS.Walk
import HandS.SortInts
import HandS.TupMul
import HandS.Gcd
import HandS.Head3
import HandS.HeadHook2
import PySem.Challenge.RW_staytallies_k27_whole_meters
set_option Elab.async false
set_option linter.all false
set_option maxRecDepth 100000
set_option maxHeartbeats 4000000
namespace Sv
open PySem L2
def top (i : Nat) : Stmt := PySem.Challenge.pw_staytallies_k27_whole_meters.main.body.getD i (.Pass ⟨0, 0, 0, 0⟩)
abbrev s_Machine_init : Stmt := (inClass (top 11) 0)
abbrev s_Machine_stands : Stmt := (inClass (top 11) 1)
abbrev s_Machine_steps : Stmt := (inClass (top 11) 2)
abbrev s_Machine_eq : Stmt := (inClass (top 11) 4)
abbrev s_is_whole_number : Stmt := (top 12)
abbrev s_is_integer_between : Stmt := (top 13)
abbrev s_is_stand : Stmt := (top 14)
abbrev s_check_stands : Stmt := (top 15)
abbrev s_is_step : Stmt := (top 16)
abbrev s_check_steps : Stmt := (top 17)
abbrev s_is_ascending : Stmt := (top 18)
abbrev s_check_ends : Stmt := (top 19)
abbrev s_check_machine : Stmt := (top 20)
abbrev s_moves_of : Stmt := (top 21)
abbrev s_Meter_init : Stmt := (inClass (top 23) 0)
abbrev s_Meter_machine : Stmt := (inClass (top 23) 1)
abbrev s_Meter_row : Stmt := (inClass (top 23) 2)
abbrev s_Meter_stand : Stmt := (inClass (top 23) 3)
abbrev s_Meter_tally : Stmt := (inClass (top 23) 4)
abbrev s_Meter_span : Stmt := (inClass (top 23) 5)
abbrev s_Meter_read : Stmt := (inClass (top 23) 6)
abbrev s_Meter_can : Stmt := (inClass (top 23) 7)
abbrev s_Meter_undo : Stmt := (inClass (top 23) 8)
abbrev s_Meter_copy : Stmt := (inClass (top 23) 9)
abbrev s_Meter_len : Stmt := (inClass (top 23) 10)
abbrev s_law_taken : Stmt := (top 25)
abbrev s_law_parts : Stmt := (top 26)
abbrev s_law_machine : Stmt := (top 27)
abbrev s_law_next : Stmt := (top 28)
abbrev s_law_way : Stmt := (top 29)
abbrev s_law_read : Stmt := (top 30)
abbrev s_law_is_meter : Stmt := (top 31)
abbrev s_law : Stmt := (top 32)
theorem sc_Machine_init : FnScope ["self", "stands", "steps", "ends"] ["self", "stands", "steps", "ends"] (defScope s_Machine_init) := ⟨rfl, rfl, rfl, by decide +kernel, rfl, by decide +kernel, by decide +kernel⟩
theorem sc_Machine_stands : FnScope ["self"] ["self"] (defScope s_Machine_stands) := ⟨rfl, rfl, rfl, by decide +kernel, rfl, by decide +kernel, by decide +kernel⟩
theorem sc_Machine_steps : FnScope ["self"] ["self"] (defScope s_Machine_steps) := ⟨rfl, rfl, rfl, by decide +kernel, rfl, by decide +kernel, by decide +kernel⟩
theorem sc_Machine_eq : FnScope ["self", "other"] ["self", "other"] (defScope s_Machine_eq) := ⟨rfl, rfl, rfl, by decide +kernel, rfl, by decide +kernel, by decide +kernel⟩
theorem sc_is_whole_number : FnScope ["value"] ["value"] (defScope s_is_whole_number) := ⟨rfl, rfl, rfl, by decide +kernel, rfl, by decide +kernel, by decide +kernel⟩
theorem sc_is_integer_between : FnScope ["value", "least", "most"] ["value", "least", "most"] (defScope s_is_integer_between) := ⟨rfl, rfl, rfl, by decide +kernel, rfl, by decide +kernel, by decide +kernel⟩
theorem sc_is_stand : FnScope ["stands", "value"] ["stands", "value"] (defScope s_is_stand) := ⟨rfl, rfl, rfl, by decide +kernel, rfl, by decide +kernel, by decide +kernel⟩
theorem sc_check_stands : FnScope ["stands"] ["stands"] (defScope s_check_stands) := ⟨rfl, rfl, rfl, by decide +kernel, rfl, by decide +kernel, by decide +kernel⟩
theorem sc_is_step : FnScope ["stands", "value", "begun", "letter", "end", "gain"] ["stands", "value"] (defScope s_is_step) := ⟨rfl, rfl, rfl, by decide +kernel, rfl, by decide +kernel, by decide +kernel⟩
theorem sc_check_steps : FnScope ["stands", "steps", "index", "step"] ["stands", "steps"] (defScope s_check_steps) := ⟨rfl, rfl, rfl, by decide +kernel, rfl, by decide +kernel, by decide +kernel⟩
theorem sc_is_ascending : FnScope ["value", "many", "least", "number"] ["value", "many"] (defScope s_is_ascending) := ⟨rfl, rfl, rfl, by decide +kernel, rfl, by decide +kernel, by decide +kernel⟩
theorem sc_check_ends : FnScope ["stands", "ends"] ["stands", "ends"] (defScope s_check_ends) := ⟨rfl, rfl, rfl, by decide +kernel, rfl, by decide +kernel, by decide +kernel⟩
theorem sc_check_machine : FnScope ["value"] ["value"] (defScope s_check_machine) := ⟨rfl, rfl, rfl, by decide +kernel, rfl, by decide +kernel, by decide +kernel⟩
theorem sc_moves_of : FnScope ["machine", "begun", "letter", "end", "gain"] ["machine"] (defScope s_moves_of) := ⟨rfl, rfl, rfl, by decide +kernel, rfl, by decide +kernel, by decide +kernel⟩
theorem sc_Meter_init : FnScope ["self", "machine"] ["self", "machine"] (defScope s_Meter_init) := ⟨rfl, rfl, rfl, by decide +kernel, rfl, by decide +kernel, by decide +kernel⟩
theorem sc_Meter_machine : FnScope ["self"] ["self"] (defScope s_Meter_machine) := ⟨rfl, rfl, rfl, by decide +kernel, rfl, by decide +kernel, by decide +kernel⟩
theorem sc_Meter_row : FnScope ["self"] ["self"] (defScope s_Meter_row) := ⟨rfl, rfl, rfl, by decide +kernel, rfl, by decide +kernel, by decide +kernel⟩
theorem sc_Meter_stand : FnScope ["self"] ["self"] (defScope s_Meter_stand) := ⟨rfl, rfl, rfl, by decide +kernel, rfl, by decide +kernel, by decide +kernel⟩
theorem sc_Meter_tally : FnScope ["self"] ["self"] (defScope s_Meter_tally) := ⟨rfl, rfl, rfl, by decide +kernel, rfl, by decide +kernel, by decide +kernel⟩
theorem sc_Meter_span : FnScope ["self"] ["self"] (defScope s_Meter_span) := ⟨rfl, rfl, rfl, by decide +kernel, rfl, by decide +kernel, by decide +kernel⟩
theorem sc_Meter_read : FnScope ["self", "letter", "stand", "tally", "span", "end", "gain"] ["self", "letter"] (defScope s_Meter_read) := ⟨rfl, rfl, rfl, by decide +kernel, rfl, by decide +kernel, by decide +kernel⟩
theorem sc_Meter_can : FnScope ["self", "begun", "letter"] ["self"] (defScope s_Meter_can) := ⟨rfl, rfl, rfl, by decide +kernel, rfl, by decide +kernel, by decide +kernel⟩
theorem sc_Meter_undo : FnScope ["self"] ["self"] (defScope s_Meter_undo) := ⟨rfl, rfl, rfl, by decide +kernel, rfl, by decide +kernel, by decide +kernel⟩
theorem sc_Meter_copy : FnScope ["self", "twin"] ["self"] (defScope s_Meter_copy) := ⟨rfl, rfl, rfl, by decide +kernel, rfl, by decide +kernel, by decide +kernel⟩
theorem sc_Meter_len : FnScope ["self"] ["self"] (defScope s_Meter_len) := ⟨rfl, rfl, rfl, by decide +kernel, rfl, by decide +kernel, by decide +kernel⟩
theorem sc_law_taken : FnScope ["_law_row", "_law_many", "_law_found", "_law_cell"] ["_law_row", "_law_many"] (defScope s_law_taken) := ⟨rfl, rfl, rfl, by decide +kernel, rfl, by decide +kernel, by decide +kernel⟩
theorem sc_law_parts : FnScope ["_law_row", "_law_stands", "_law_size", "_law_many", "_law_kind", "_law_heights", "_law_steps", "_law_letters", "_law_begun", "_law_letter", "_law_end", "_law_gain", "_law_ends", "_law_stand"] ["_law_row", "_law_stands", "_law_size"] (defScope s_law_parts) := ⟨rfl, rfl, rfl, by decide +kernel, rfl, by decide +kernel, by decide +kernel⟩
theorem sc_law_machine : FnScope ["_law_d"] ["_law_d"] (defScope s_law_machine) := ⟨rfl, rfl, rfl, by decide +kernel, rfl, by decide +kernel, by decide +kernel⟩
theorem sc_law_next : FnScope ["_law_d", "_law_stand", "_law_begun", "_law_letter", "_law_end", "_law_gain"] ["_law_d", "_law_stand"] (defScope s_law_next) := ⟨rfl, rfl, rfl, by decide +kernel, rfl, by decide +kernel, by decide +kernel⟩
theorem sc_law_way : FnScope ["_law_d", "_law_word", "_law_stand", "_law_tally", "_law_letter", "_law_some", "_law_step"] ["_law_d", "_law_word", "_law_stand"] (defScope s_law_way) := ⟨rfl, rfl, rfl, by decide +kernel, rfl, by decide +kernel, by decide +kernel⟩
theorem sc_law_read : FnScope ["_law_meter", "_law_letter", "_law_found"] ["_law_meter", "_law_letter"] (defScope s_law_read) := ⟨rfl, rfl, rfl, by decide +kernel, rfl, by decide +kernel, by decide +kernel⟩
theorem sc_law_is_meter : FnScope ["_law_meter", "_law_d", "_law_word", "_law_told", "_law_sums", "_law_at", "_law_stand", "_law_tally", "_law_letter", "_law_end", "_law_gain"] ["_law_meter", "_law_d", "_law_word"] (defScope s_law_is_meter) := ⟨rfl, rfl, rfl, by decide +kernel, rfl, by decide +kernel, by decide +kernel⟩
theorem sc_law : FnScope ["_law_script", "_law_row", "_law_d", "_law_meter", "_law_word", "_law_twin", "_law_kept", "_law_turn", "_law_kind", "_law_some", "_law_odd", "_law_letter", "_law_late", "_law_end", "_law_gain"] ["_law_script"] (defScope s_law) := ⟨rfl, rfl, rfl, by decide +kernel, rfl, by decide +kernel, by decide +kernel⟩
structure Txt (K : PySem.W.Frag) (mg : Str → Option Value) : Type where
  a_Machine_init : Addr
  fd_Machine_init : FuncData
  F_Machine_init : Fun K "__init__" "Machine.__init__" s_Machine_init a_Machine_init fd_Machine_init
  b_Machine_init : Binds K fd_Machine_init ["self", "stands", "steps", "ends"] []
  k_Machine_init : PySem.W.keepIn K (.ref a_Machine_init) = true
  a_Machine_stands : Addr
  fd_Machine_stands : FuncData
  F_Machine_stands : Fun K "stands" "Machine.stands" s_Machine_stands a_Machine_stands fd_Machine_stands
  b_Machine_stands : Binds K fd_Machine_stands ["self"] []
  k_Machine_stands : PySem.W.keepIn K (.ref a_Machine_stands) = true
  a_Machine_steps : Addr
  fd_Machine_steps : FuncData
  F_Machine_steps : Fun K "steps" "Machine.steps" s_Machine_steps a_Machine_steps fd_Machine_steps
  b_Machine_steps : Binds K fd_Machine_steps ["self"] []
  k_Machine_steps : PySem.W.keepIn K (.ref a_Machine_steps) = true
  a_Machine_eq : Addr
  fd_Machine_eq : FuncData
  F_Machine_eq : Fun K "__eq__" "Machine.__eq__" s_Machine_eq a_Machine_eq fd_Machine_eq
  b_Machine_eq : Binds K fd_Machine_eq ["self", "other"] []
  k_Machine_eq : PySem.W.keepIn K (.ref a_Machine_eq) = true
  a_is_whole_number : Addr
  fd_is_whole_number : FuncData
  F_is_whole_number : Fun K "is_whole_number" "is_whole_number" s_is_whole_number a_is_whole_number fd_is_whole_number
  b_is_whole_number : Binds K fd_is_whole_number ["value"] []
  k_is_whole_number : PySem.W.keepIn K (.ref a_is_whole_number) = true
  m_is_whole_number : mg "is_whole_number" = some (.ref a_is_whole_number)
  a_is_integer_between : Addr
  fd_is_integer_between : FuncData
  F_is_integer_between : Fun K "is_integer_between" "is_integer_between" s_is_integer_between a_is_integer_between fd_is_integer_between
  b_is_integer_between : Binds K fd_is_integer_between ["value", "least", "most"] []
  k_is_integer_between : PySem.W.keepIn K (.ref a_is_integer_between) = true
  m_is_integer_between : mg "is_integer_between" = some (.ref a_is_integer_between)
  a_is_stand : Addr
  fd_is_stand : FuncData
  F_is_stand : Fun K "_is_stand" "_is_stand" s_is_stand a_is_stand fd_is_stand
  b_is_stand : Binds K fd_is_stand ["stands", "value"] []
  k_is_stand : PySem.W.keepIn K (.ref a_is_stand) = true
  m_is_stand : mg "_is_stand" = some (.ref a_is_stand)
  a_check_stands : Addr
  fd_check_stands : FuncData
  F_check_stands : Fun K "_check_stands" "_check_stands" s_check_stands a_check_stands fd_check_stands
  b_check_stands : Binds K fd_check_stands ["stands"] []
  k_check_stands : PySem.W.keepIn K (.ref a_check_stands) = true
  m_check_stands : mg "_check_stands" = some (.ref a_check_stands)
  a_is_step : Addr
  fd_is_step : FuncData
  F_is_step : Fun K "_is_step" "_is_step" s_is_step a_is_step fd_is_step
  b_is_step : Binds K fd_is_step ["stands", "value"] []
  k_is_step : PySem.W.keepIn K (.ref a_is_step) = true
  m_is_step : mg "_is_step" = some (.ref a_is_step)
  a_check_steps : Addr
  fd_check_steps : FuncData
  F_check_steps : Fun K "_check_steps" "_check_steps" s_check_steps a_check_steps fd_check_steps
  b_check_steps : Binds K fd_check_steps ["stands", "steps"] []
  k_check_steps : PySem.W.keepIn K (.ref a_check_steps) = true
  m_check_steps : mg "_check_steps" = some (.ref a_check_steps)
  a_is_ascending : Addr
  fd_is_ascending : FuncData
  F_is_ascending : Fun K "is_ascending" "is_ascending" s_is_ascending a_is_ascending fd_is_ascending
  b_is_ascending : Binds K fd_is_ascending ["value", "many"] []
  k_is_ascending : PySem.W.keepIn K (.ref a_is_ascending) = true
  m_is_ascending : mg "is_ascending" = some (.ref a_is_ascending)
  a_check_ends : Addr
  fd_check_ends : FuncData
  F_check_ends : Fun K "_check_ends" "_check_ends" s_check_ends a_check_ends fd_check_ends
  b_check_ends : Binds K fd_check_ends ["stands", "ends"] []
  k_check_ends : PySem.W.keepIn K (.ref a_check_ends) = true
  m_check_ends : mg "_check_ends" = some (.ref a_check_ends)
  a_check_machine : Addr
  fd_check_machine : FuncData
  F_check_machine : Fun K "check_machine" "check_machine" s_check_machine a_check_machine fd_check_machine
  b_check_machine : Binds K fd_check_machine ["value"] []
  k_check_machine : PySem.W.keepIn K (.ref a_check_machine) = true
  m_check_machine : mg "check_machine" = some (.ref a_check_machine)
  a_moves_of : Addr
  fd_moves_of : FuncData
  F_moves_of : Fun K "moves_of" "moves_of" s_moves_of a_moves_of fd_moves_of
  b_moves_of : Binds K fd_moves_of ["machine"] []
  k_moves_of : PySem.W.keepIn K (.ref a_moves_of) = true
  m_moves_of : mg "moves_of" = some (.ref a_moves_of)
  a_Meter_init : Addr
  fd_Meter_init : FuncData
  F_Meter_init : Fun K "__init__" "Meter.__init__" s_Meter_init a_Meter_init fd_Meter_init
  b_Meter_init : Binds K fd_Meter_init ["self", "machine"] []
  k_Meter_init : PySem.W.keepIn K (.ref a_Meter_init) = true
  a_Meter_machine : Addr
  fd_Meter_machine : FuncData
  F_Meter_machine : Fun K "machine" "Meter.machine" s_Meter_machine a_Meter_machine fd_Meter_machine
  b_Meter_machine : Binds K fd_Meter_machine ["self"] []
  k_Meter_machine : PySem.W.keepIn K (.ref a_Meter_machine) = true
  a_Meter_row : Addr
  fd_Meter_row : FuncData
  F_Meter_row : Fun K "row" "Meter.row" s_Meter_row a_Meter_row fd_Meter_row
  b_Meter_row : Binds K fd_Meter_row ["self"] []
  k_Meter_row : PySem.W.keepIn K (.ref a_Meter_row) = true
  a_Meter_stand : Addr
  fd_Meter_stand : FuncData
  F_Meter_stand : Fun K "stand" "Meter.stand" s_Meter_stand a_Meter_stand fd_Meter_stand
  b_Meter_stand : Binds K fd_Meter_stand ["self"] []
  k_Meter_stand : PySem.W.keepIn K (.ref a_Meter_stand) = true
  a_Meter_tally : Addr
  fd_Meter_tally : FuncData
  F_Meter_tally : Fun K "tally" "Meter.tally" s_Meter_tally a_Meter_tally fd_Meter_tally
  b_Meter_tally : Binds K fd_Meter_tally ["self"] []
  k_Meter_tally : PySem.W.keepIn K (.ref a_Meter_tally) = true
  a_Meter_span : Addr
  fd_Meter_span : FuncData
  F_Meter_span : Fun K "span" "Meter.span" s_Meter_span a_Meter_span fd_Meter_span
  b_Meter_span : Binds K fd_Meter_span ["self"] []
  k_Meter_span : PySem.W.keepIn K (.ref a_Meter_span) = true
  a_Meter_read : Addr
  fd_Meter_read : FuncData
  F_Meter_read : Fun K "read" "Meter.read" s_Meter_read a_Meter_read fd_Meter_read
  b_Meter_read : Binds K fd_Meter_read ["self", "letter"] []
  k_Meter_read : PySem.W.keepIn K (.ref a_Meter_read) = true
  a_Meter_can : Addr
  fd_Meter_can : FuncData
  F_Meter_can : Fun K "can" "Meter.can" s_Meter_can a_Meter_can fd_Meter_can
  b_Meter_can : Binds K fd_Meter_can ["self"] []
  k_Meter_can : PySem.W.keepIn K (.ref a_Meter_can) = true
  a_Meter_undo : Addr
  fd_Meter_undo : FuncData
  F_Meter_undo : Fun K "undo" "Meter.undo" s_Meter_undo a_Meter_undo fd_Meter_undo
  b_Meter_undo : Binds K fd_Meter_undo ["self"] []
  k_Meter_undo : PySem.W.keepIn K (.ref a_Meter_undo) = true
  a_Meter_copy : Addr
  fd_Meter_copy : FuncData
  F_Meter_copy : Fun K "copy" "Meter.copy" s_Meter_copy a_Meter_copy fd_Meter_copy
  b_Meter_copy : Binds K fd_Meter_copy ["self"] []
  k_Meter_copy : PySem.W.keepIn K (.ref a_Meter_copy) = true
  a_Meter_len : Addr
  fd_Meter_len : FuncData
  F_Meter_len : Fun K "__len__" "Meter.__len__" s_Meter_len a_Meter_len fd_Meter_len
  b_Meter_len : Binds K fd_Meter_len ["self"] []
  k_Meter_len : PySem.W.keepIn K (.ref a_Meter_len) = true
  a_law_taken : Addr
  fd_law_taken : FuncData
  F_law_taken : Fun K "_law_taken" "_law_taken" s_law_taken a_law_taken fd_law_taken
  b_law_taken : Binds K fd_law_taken ["_law_row", "_law_many"] []
  k_law_taken : PySem.W.keepIn K (.ref a_law_taken) = true
  m_law_taken : mg "_law_taken" = some (.ref a_law_taken)
  a_law_parts : Addr
  fd_law_parts : FuncData
  F_law_parts : Fun K "_law_parts" "_law_parts" s_law_parts a_law_parts fd_law_parts
  b_law_parts : Binds K fd_law_parts ["_law_row", "_law_stands", "_law_size"] []
  k_law_parts : PySem.W.keepIn K (.ref a_law_parts) = true
  m_law_parts : mg "_law_parts" = some (.ref a_law_parts)
  a_law_machine : Addr
  fd_law_machine : FuncData
  F_law_machine : Fun K "_law_machine" "_law_machine" s_law_machine a_law_machine fd_law_machine
  b_law_machine : Binds K fd_law_machine ["_law_d"] []
  k_law_machine : PySem.W.keepIn K (.ref a_law_machine) = true
  m_law_machine : mg "_law_machine" = some (.ref a_law_machine)
  a_law_next : Addr
  fd_law_next : FuncData
  F_law_next : Fun K "_law_next" "_law_next" s_law_next a_law_next fd_law_next
  b_law_next : Binds K fd_law_next ["_law_d", "_law_stand"] []
  k_law_next : PySem.W.keepIn K (.ref a_law_next) = true
  m_law_next : mg "_law_next" = some (.ref a_law_next)
  a_law_way : Addr
  fd_law_way : FuncData
  F_law_way : Fun K "_law_way" "_law_way" s_law_way a_law_way fd_law_way
  b_law_way : Binds K fd_law_way ["_law_d", "_law_word", "_law_stand"] []
  k_law_way : PySem.W.keepIn K (.ref a_law_way) = true
  m_law_way : mg "_law_way" = some (.ref a_law_way)
  a_law_read : Addr
  fd_law_read : FuncData
  F_law_read : Fun K "_law_read" "_law_read" s_law_read a_law_read fd_law_read
  b_law_read : Binds K fd_law_read ["_law_meter", "_law_letter"] []
  k_law_read : PySem.W.keepIn K (.ref a_law_read) = true
  m_law_read : mg "_law_read" = some (.ref a_law_read)
  a_law_is_meter : Addr
  fd_law_is_meter : FuncData
  F_law_is_meter : Fun K "_law_is_meter" "_law_is_meter" s_law_is_meter a_law_is_meter fd_law_is_meter
  b_law_is_meter : Binds K fd_law_is_meter ["_law_meter", "_law_d", "_law_word"] []
  k_law_is_meter : PySem.W.keepIn K (.ref a_law_is_meter) = true
  m_law_is_meter : mg "_law_is_meter" = some (.ref a_law_is_meter)
  a_law : Addr
  fd_law : FuncData
  F_law : Fun K "law" "law" s_law a_law fd_law
  b_law : Binds K fd_law ["_law_script"] []
  k_law : PySem.W.keepIn K (.ref a_law) = true
  m_law : mg "law" = some (.ref a_law)
  c_Machine : Addr
  cl_Machine : Cls K c_Machine
  m_Machine : mg "Machine" = some (.ref c_Machine)
  mk_Machine : Mk K c_Machine a_Machine_init
  n__stands : NoAttr K c_Machine "_stands"
  n__steps : NoAttr K c_Machine "_steps"
  n__ends : NoAttr K c_Machine "_ends"
  q_stands : Addr
  p_stands : PropOf K c_Machine "stands" q_stands a_Machine_stands
  q_steps : Addr
  p_steps : PropOf K c_Machine "steps" q_steps a_Machine_steps
  i1_Machine : PySem.W.findIn K (.ref c_Machine) "__class__" = some (some (.builtin "object.__class__"))
  i2_Machine : PySem.W.specialIn K (.builtin "object.__class__") "__get__" = some (some (.builtin "getset_descriptor.__get__"))
  i3_Machine : PySem.W.takesIn K (.builtin "object.__class__") = some true
  i4_Machine : PySem.W.mroIn K c_Machine (.type "object") = some true
  j1_Machine : PySem.W.isClsIn K c_Machine = true
  j2_Machine : PySem.W.typeIn K (.ref c_Machine) = some (.type "type")
  j3_Machine : PySem.W.findIn K (.ref c_Machine) "__eq__" = some (some (.ref a_Machine_eq))
  j4_Machine : PySem.W.isFn K (.ref a_Machine_eq) = true
  c_Meter : Addr
  cl_Meter : Cls K c_Meter
  m_Meter : mg "Meter" = some (.ref c_Meter)
  mk_Meter : Mk K c_Meter a_Meter_init
  n__machine : NoAttr K c_Meter "_machine"
  n__moves : NoAttr K c_Meter "_moves"
  n__row : NoAttr K c_Meter "_row"
  n__places : NoAttr K c_Meter "_places"
  q_machine : Addr
  p_machine : PropOf K c_Meter "machine" q_machine a_Meter_machine
  q_row : Addr
  p_row : PropOf K c_Meter "row" q_row a_Meter_row
  q_stand : Addr
  p_stand : PropOf K c_Meter "stand" q_stand a_Meter_stand
  q_tally : Addr
  p_tally : PropOf K c_Meter "tally" q_tally a_Meter_tally
  q_span : Addr
  p_span : PropOf K c_Meter "span" q_span a_Meter_span
  h_Meter_read : Meth K c_Meter "read" a_Meter_read
  h_Meter_can : Meth K c_Meter "can" a_Meter_can
  h_Meter_undo : Meth K c_Meter "undo" a_Meter_undo
  h_Meter_copy : Meth K c_Meter "copy" a_Meter_copy
  h_Meter_len : Meth K c_Meter "__len__" a_Meter_len
  c_BadLetter : Addr
  m_BadLetter : mg "BadLetter" = some (.ref c_BadLetter)
  x_BadLetter : PySem.W.excIn K c_BadLetter [.type "ValueError", .type "Exception", .type "BaseException", .type "object"] "ValueError.__new__" = true
  k_BadLetter : PySem.W.keepIn K (.ref c_BadLetter) = true
  b_BadLetter : PySem.W.subIn K (.ref c_BadLetter) (.type "BaseException") = some true
  t_BadLetter : PySem.W.typeIn K (.ref c_BadLetter) = some (.type "type")
  e_BadLetter : PySem.W.exmOne K (.ref c_BadLetter) (.ref c_BadLetter) = some true
  u_MOST_STANDS : Value
  m_MOST_STANDS : mg "MOST_STANDS" = some u_MOST_STANDS
  r_MOST_STANDS : RelV (V.int 8) u_MOST_STANDS
  u_MOST_GAIN : Value
  m_MOST_GAIN : mg "MOST_GAIN" = some u_MOST_GAIN
  r_MOST_GAIN : RelV (V.int 1000000000000000000000000000000) u_MOST_GAIN
  a_LETTERS : Addr
  m_LETTERS : mg "LETTERS" = some (.ref a_LETTERS)
  r_LETTERS : RelV (V.ref a_LETTERS) (.ref a_LETTERS)
  s_LETTERS : ∀ H : Hp, SqT K H a_LETTERS [V.str "a", V.str "b", V.str "c", V.str "d"]
  z_bool : mg "bool" = none
  z_enumerate : mg "enumerate" = none
  z_int : mg "int" = none
  z_isinstance : mg "isinstance" = none
  z_len : mg "len" = none
  z_list : mg "list" = none
  z_max : mg "max" = none
  z_min : mg "min" = none
  z_range : mg "range" = none
  z_sorted : mg "sorted" = none
  z_str : mg "str" = none
  z_tuple : mg "tuple" = none
  bs_law : ∀ (s : Shared) (v : Value), BindsTo s fd_law ⟨[v], []⟩ [("_law_script", v)]
/-! ### heaps -/
/-- all but a stands as it was -/
def Keep (a : Addr) (H H' : Hp) : Prop := ∀ b o, b ≠ a → H b = some o → H' b = some o
theorem Keep.refl (a : Addr) (H : Hp) : Keep a H H := fun _ _ _ h => h
theorem Keep.trans {a : Addr} {H H1 H2 : Hp} (x : Keep a H H1) (y : Keep a H1 H2) : Keep a H H2 := fun b o n h => y b o n (x b o n h)
theorem Keep.at_ {a : Addr} {H : Hp} {o : HO} : Keep a H (upd H a o) := fun b u n h => by rw [upd_ne n]; exact h
theorem Keep.new {a p : Addr} {H : Hp} {o : HO} (hp : H p = none) : Keep a H (upd H p o) := fun b u _ h => by rw [upd_ne (ne_of_none h hp)]; exact h
theorem Keep.of_same {a : Addr} {H H' : Hp} (x : Same H H') : Keep a H H' := fun b o _ h => x b o h
theorem Same.new {p : Addr} {H : Hp} {o : HO} (hp : H p = none) : Same H (upd H p o) := fun b u h => by rw [upd_ne (ne_of_none h hp)]; exact h
theorem Keep.free {a p : Addr} {H H' : Hp} (x : Keep a H H') (n : p ≠ a) (h : H' p = none) : H p = none := by
  cases q : H p with
  | none => rfl
  | some o => rw [x p o n q] at h; cases h
/-- what H does not know may change -/
theorem Keep.mut {a p : Addr} {H H' : Hp} {o : HO} (x : Keep a H H') (hp : H p = none) : Keep a H (upd H' p o) := fun b u n h => by rw [upd_ne (ne_of_none h hp)]; exact x b u n h
theorem Keep.tup {K : PySem.W.Frag} {a b : Addr} {H H' : Hp} {xs : List V} (x : Keep a H H') (ha : ∃ l, H a = some (.lst l)) (h : SqT K H b xs) : SqT K H' b xs := by
  obtain ⟨l, ha⟩ := ha
  rcases h with (h | ⟨o, h⟩) | h
  · exact .inl (.inl (x _ _ (fun e => by rw [e, ha] at h; cases h) h))
  · exact .inl (.inr ⟨o, x _ _ (fun e => by rw [e, ha] at h; cases h) h⟩)
  · exact .inr h
theorem Keep.lst {K : PySem.W.Frag} {a b : Addr} {H H' : Hp} {xs : List V} (x : Keep a H H') (n : b ≠ a) (h : SqL K H b xs) : SqL K H' b xs := by
  rcases h with (h | ⟨o, h⟩) | h
  · exact .inl (.inl (x _ _ n h))
  · exact .inl (.inr ⟨o, x _ _ n h⟩)
  · exact .inr h
/-- the script: known to the object, or of the written part -/
def ScAt (K : PySem.W.Frag) (H : Hp) (b : Addr) (xs : List V) : Prop := (∃ o, H b = some (.frz o (.lst xs))) ∨ ∀ H', SqL K H' b xs
theorem ScAt.sq {K : PySem.W.Frag} {H : Hp} {b : Addr} {xs : List V} (h : ScAt K H b xs) : SqL K H b xs := by
  rcases h with ⟨o, h⟩ | h
  · exact .inl (.inr ⟨o, h⟩)
  · exact h H
theorem ScAt.keep {K : PySem.W.Frag} {a b : Addr} {H H' : Hp} {xs l : List V} (h : ScAt K H b xs) (k : Keep a H H') (ha : H a = some (.lst l)) : ScAt K H' b xs := by
  rcases h with ⟨o, h⟩ | h
  · exact .inl ⟨o, k _ _ (fun z => by rw [z, ha] at h; cases h) h⟩
  · exact .inr h
theorem ScAt.same {K : PySem.W.Frag} {b : Addr} {H H' : Hp} {xs : List V} (h : ScAt K H b xs) (k : Same H H') : ScAt K H' b xs := by
  rcases h with ⟨o, h⟩ | h
  · exact .inl ⟨o, k _ _ h⟩
  · exact .inr h
/-- the draws' row at a: the script, how many were read, the mixed number, the rest -/
def RowOk (K : PySem.W.Frag) (H : Hp) (a : Addr) : Prop := ∃ (sc : Addr) (ns : List Int) (i z r : Int), H a = some (.lst [.ref sc, .int i, .int z, .int r]) ∧ ScAt K H sc (ns.map V.int) ∧ ns.length ≤ 63 ∧ 0 ≤ i ∧ 0 ≤ z ∧ z < 2147483647
theorem RowOk.lst {K : PySem.W.Frag} {H : Hp} {a : Addr} (h : RowOk K H a) : ∃ l, H a = some (.lst l) := by
  obtain ⟨_, _, _, _, _, e, _⟩ := h; exact ⟨_, e⟩
/-- behind a step that leaves the row and the script as they were -/
theorem RowOk.same {K : PySem.W.Frag} {H H' : Hp} {a : Addr} (h : RowOk K H a) (s : Same H H') : RowOk K H' a := by
  obtain ⟨sc, ns, i, z, r, e, q, rest⟩ := h
  exact ⟨sc, ns, i, z, r, s _ _ e, q.same s, rest⟩
theorem RowOk.keep {K : PySem.W.Frag} {H H' : Hp} {a l : Addr} {xs : List V} (h : RowOk K H a) (n : a ≠ l) (e : H l = some (.lst xs)) (k : Keep l H H') : RowOk K H' a := by
  obtain ⟨sc, is, i, z, r, ea, q, rest⟩ := h
  exact ⟨sc, is, i, z, r, k _ _ n ea, q.keep k e, rest⟩
theorem RowOk.ne {K : PySem.W.Frag} {H : Hp} {a p : Addr} (h : RowOk K H a) (e : H p = none) : a ≠ p := by
  obtain ⟨l, q⟩ := h.lst
  exact ne_of_none q e
theorem tupl_upd {H : Hp} {F x : Addr} {o : HO} {ys : List V} (hF : ∀ xs, H F ≠ some (.tup xs)) (h : H x = some (.tup ys)) : (upd H F o) x = some (.tup ys) := by
  rw [upd_ne (fun e => hF ys (by rw [← e]; exact h))]
  exact h
theorem free_of {H H' : Hp} {q : Addr} (z : Same H H') (hq : H' q = none) : H q = none := by
  cases e : H q with
  | none => rfl
  | some ob => rw [z _ _ e] at hq; cases hq
theorem unlock_same {H2 H' : Hp} {e : Addr} {od : _} {kvs : List (Key × V)} (he : H2 e = some (.dK kvs)) (z : Same (upd H2 e (.frz od (.dK kvs))) H') : Same H2 (upd H' e (.dK kvs)) := fun b o eb => by
  by_cases c : b = e
  · rw [c, he] at eb
    rw [c, upd_same]
    exact eb
  · rw [upd_ne c]
    exact z _ _ (by rw [upd_ne c]; exact eb)
/-! ### steps: one a combinator -/
section
variable {K : PySem.W.Frag} {σ : L2.St} {H : Hp} {D : Ends} {Q : VK}
theorem k_seq {t u : TS} (h : t { D with nx := u D } σ H) : tSeq t u D σ H := h
theorem k_ifS {c : TT} {t u : TS} (h : c σ H fun b H1 => if b = true then t D σ H1 else u D σ H1) : tIfS c t u D σ H := h
theorem k_asg {te : TE} {g : TG} (h : te σ H fun x H1 => g x σ H1 D.nx) : tAsg te g D σ H := h
theorem k_ret {te : TE} (h : te σ H D.rt) : tRet te D σ H := h
theorem k_retN (h : D.rt .non H) : tRetN D σ H := h
theorem k_next (h : D.nx σ H) : tNext D σ H := h
theorem k_cont (h : D.ct σ H) : tCont D σ H := h
theorem k_break (h : D.bk σ H) : tBreak D σ H := h
theorem k_drop {te : TE} (h : te σ H fun _ H1 => D.nx σ H1) : tDrop te D σ H := h
theorem k_par {i j : Nat} {ta : TA} (h : ta σ H fun vs H1 => ∃ v w, vs = [v, w] ∧ D.nx ((σ.set i (some v)).set j (some w)) H1) : tPar i j ta D σ H := h
theorem k_two {p : V → V → Prop} {a b : V} (h : p a b) : ∃ v w, [a, b] = [v, w] ∧ p v w := ⟨a, b, rfl, h⟩
theorem k_var {i : Nat} {v : V} (e : σ[i]? = some (some v)) (h : Q v H) : tVar i σ H Q := ⟨v, e, h⟩
theorem k_c {v : V} (h : Q v H) : tC v σ H Q := h
theorem k_op {r : R2} {ta tb : TE} (h : ta σ H fun x H1 => tb σ H1 fun y H2 => r x y H2 Q) : tOp r ta tb σ H Q := h
theorem k_un {r : V → Hp → VK → Prop} {ta : TE} (h : ta σ H fun x H1 => r x H1 Q) : tUn r ta σ H Q := h
theorem k_cb {r : List V → Hp → VK → Prop} {t : TA} (h : t σ H fun vs H1 => r vs H1 Q) : tCB r t σ H Q := h
theorem k_cons {ta : TE} {tr : TA} {R : List V → Hp → Prop} (h : ta σ H fun x H1 => tr σ H1 fun xs H2 => R (x :: xs) H2) : tCons ta tr σ H R := h
theorem k_nil {R : List V → Hp → Prop} (h : R [] H) : tNil σ H R := h
theorem k_call {sp : Sp} {dvs : List V} {E : XK} {t : TA} (h : t σ H fun vs H1 => sp (vs ++ dvs) H1 Q E) : tCall sp dvs E t σ H Q := h
theorem k_make {C : Addr} {sp : Sp} {dvs : List V} {E : XK} {t : TA} (h : t σ H fun vs H1 => ∀ x dx, H1 x = none → H1 dx = none → dx ≠ x →
  sp (.ref x :: (vs ++ dvs)) (upd (upd H1 dx (.own x)) x (.ins C dx [])) (fun v H2 => v = .non ∧ Q (.ref x) H2) E) : tMake C sp dvs E t σ H Q := h
theorem k_test {t : TE} {R : Bool → Hp → Prop} (h : t σ H fun x H' => ∃ k, x = .bl k ∧ R k H') : tTest t σ H R := h
theorem k_tB {t : TE} {R : Bool → Hp → Prop} (h : t σ H fun x H' => ∃ k, x = .bl k ∧ R k H') : tB t σ H R := h
theorem k_bl {b : Bool} {R : Bool → Prop} (h : R b) : ∃ k, V.bl b = .bl k ∧ R k := ⟨b, rfl, h⟩
theorem k_and {t u : TT} {R : Bool → Hp → Prop} (h : t σ H fun c H1 => if c = true then u σ H1 R else R false H1) : tAnd t u σ H R := h
theorem k_or {t u : TT} {R : Bool → Hp → Prop} (h : t σ H fun c H1 => if c = true then R true H1 else u σ H1 R) : tOr t u σ H R := h
theorem k_not {t : TT} {R : Bool → Hp → Prop} (h : t σ H fun c H1 => R (!c) H1) : tNot t σ H R := h
theorem k_andV {ta tb : TE} (h : ta σ H fun x H1 => ∃ c, x = .bl c ∧ if c = true then tb σ H1 Q else Q (.bl false) H1) : tAndV ta tb σ H Q := h
theorem k_orV {ta tb : TE} (h : ta σ H fun x H1 => ∃ c, x = .bl c ∧ if c = true then Q (.bl true) H1 else tb σ H1 Q) : tOrV ta tb σ H Q := h
theorem k_notV {ta : TE} (h : ta σ H fun x H1 => ∃ c, x = .bl c ∧ Q (.bl (!c)) H1) : tNotV ta σ H Q := h
theorem k_ifE {t : TT} {ta tb : TE} (h : t σ H fun c H1 => if c = true then ta σ H1 Q else tb σ H1 Q) : tIf t ta tb σ H Q := h
theorem k_isN {ta : TE} (h : ta σ H fun x H1 => Q (.bl (decide (x = .non))) H1) : tIsN ta σ H Q := h
theorem k_notN {ta : TE} (h : ta σ H fun x H1 => Q (.bl (!decide (x = .non))) H1) : tNotN ta σ H Q := h
theorem k_name {i : Nat} {v : V} {R : L2.St → Hp → Prop} (h : R (σ.set i (some v)) H) : gName i v σ H R := h
theorem k_sub {to ti : TE} {t : TSet} {v : V} {R : L2.St → Hp → Prop} (h : to σ H fun o H1 => ti σ H1 fun i H2 => t o i v H2 fun H3 => R σ H3) : gSub to ti t v σ H R := h
theorem k_gt {n : Nat} {t : TGs} {R : L2.St → Hp → Prop} {a : Addr} {xs : List V} (h : SqT K H a xs) (e : xs.length = n) (q : t xs σ H R) : gTup K n t (.ref a) σ H R := ⟨a, xs, rfl, h, e, q⟩
theorem k_gn {R : L2.St → Hp → Prop} (h : R σ H) : gNil [] σ H R := ⟨rfl, h⟩
theorem k_gc {t : TG} {u : TGs} {v : V} {vs : List V} {R : L2.St → Hp → Prop} (h : t v σ H fun σ' H' => u vs σ' H' R) : gCons t u (v :: vs) σ H R := ⟨v, vs, rfl, h⟩
theorem k_I0 {g : Int → Int → V} {i j : Int} (h : Q (g i j) H) : rI0 g (.int i) (.int j) H Q := ⟨i, j, rfl, rfl, h⟩
theorem k_I {C : Int → Int → Prop} {g : Int → Int → V} {i j : Int} (c : C i j) (h : Q (g i j) H) : rI C g (.int i) (.int j) H Q := ⟨i, j, rfl, rfl, c, h⟩
theorem k_U {g : Int → V} {i : Int} (h : Q (g i) H) : rU g (.int i) H Q := ⟨i, rfl, h⟩
theorem k_eq {x y : V} (e : scal x y = true) (h : Q (.bl (decide (x = y))) H) : rEq x y H Q := ⟨e, h⟩
theorem k_ne {x y : V} (e : scal x y = true) (h : Q (.bl (!decide (x = y))) H) : rNe x y H Q := ⟨e, h⟩
theorem k_ixL {p : Addr} {xs : List V} {i : Int} {v : V} (h : SqL K H p xs) (e : atI xs i = some v) (q : Q v H) : rIxL K (.ref p) (.int i) H Q := ⟨p, xs, i, v, rfl, rfl, h, e, q⟩
theorem k_ixT {p : Addr} {xs : List V} {i : Int} {v : V} (h : SqT K H p xs) (e : atI xs i = some v) (q : Q v H) : rIxT K (.ref p) (.int i) H Q := ⟨p, xs, i, v, rfl, rfl, h, e, q⟩
theorem k_setL {p : Addr} {xs : List V} {k : Int} {j : Nat} {v : V} {R : Hp → Prop} (h : H p = some (.lst xs)) (e : ixN xs.length k = some j) (q : R (upd H p (.lst (xs.set j v)))) : rSetL (.ref p) (.int k) v H R := ⟨p, xs, k, j, rfl, rfl, h, e, q⟩
theorem k_tup {t : TA} (h : t σ H fun xs H1 => xs.length ≤ sizeLine ∧ ∀ p, H1 p = none → Q (.ref p) (upd H1 p (.tup xs))) : tTup t σ H Q := h
theorem k_lst {t : TA} (h : t σ H fun xs H1 => xs.length ≤ sizeLine ∧ ∀ p, H1 p = none → Q (.ref p) (upd H1 p (.lst xs))) : tLst t σ H Q := h
theorem k_bm {T : String} {r : V → List V → Hp → VK → Prop} {to : TE} {t : TA} (h : to σ H fun x H1 => tyV K T x H1 ∧ t σ H1 fun xs H2 => r x xs H2 Q) : tBM K T r to t σ H Q := h
theorem k_append {l : Addr} {xs : List V} {y : V} (h : H l = some (.lst xs)) (e : xs.length < sizeLine) (q : Q .non (upd H l (.lst (xs ++ [y])))) : rAppend (.ref l) [y] H Q := ⟨l, xs, y, rfl, rfl, h, e, q⟩
theorem k_dget {td ty : TE} (h : td σ H fun x H1 => ty σ H1 fun y H2 => ∃ a v, x = .ref a ∧ DGet H2 a y (some v) ∧ Q v H2) : tDGet td ty σ H Q := h
theorem k_dg {a : Addr} {y v : V} (h : DGet H a y (some v)) (q : Q v H) : ∃ b u, V.ref a = .ref b ∧ DGet H b y (some u) ∧ Q u H := ⟨a, v, rfl, h, q⟩
theorem k_fld {ta : TE} {f : Str} (h : ta σ H fun x H1 => ∃ a C dx fs v, x = .ref a ∧ H1 a = some (.ins C dx fs) ∧ Cls K C ∧ NoAttr K C f ∧ fs.lookup f = some v ∧ Q v H1) : tFld K ta f σ H Q := h
theorem k_sl {r : V → Option Int → Option Int → Hp → VK → Prop} {te : TE} {tl th : TO} (h : te σ H fun x H1 => tl σ H1 fun l H2 => th σ H2 fun u H3 => r x l u H3 Q) : L2.tSl r te tl th σ H Q := h
theorem k_noPart {R : Option Int → Hp → Prop} (h : R none H) : tNoPart σ H R := h
theorem k_part {t : TE} {R : Option Int → Hp → Prop} (h : t σ H fun x H1 => ∃ i, x = .int i ∧ R (some i) H1) : tPart t σ H R := h
theorem k_int {i : Int} {R : Int → Prop} (h : R i) : ∃ k, V.int i = .int k ∧ R k := ⟨i, rfl, h⟩
theorem k_int1 {i : Int} {R : Int → Prop} {R' : Bool → Prop} (h : R i) : (∃ j, [V.int i] = [V.int j] ∧ R j) ∨ (∃ k, [V.int i] = [V.bl k] ∧ R' k) := .inl ⟨i, rfl, h⟩
theorem k_len {a : Addr} {ys : List V} {R : List V → Prop} (h : SqL K H a ys ∨ SqT K H a ys) (q : R ys) : ∃ p xs, [V.ref a] = [V.ref p] ∧ (SqL K H p xs ∨ SqT K H p xs) ∧ R xs := ⟨a, ys, rfl, h, q⟩
theorem k_disp {trs : List (TE × TE)} (h : ∀ p, H p = none → tPairs trs σ (upd H p (.dK [])) fun ps H2 => H2 p = some (.dK []) ∧ ∃ kvs : List (Key × V), ps = kvs.map (fun kv => (kV kv.1, kv.2)) ∧ kvs.length ≤ 15 ∧ Q (.ref p) (upd H2 p (.dK (mergeK [] kvs)))) : tDisp trs σ H Q := h
theorem k_cut {t u : TS} (M : L2.St → Hp → Prop) (h : t { D with nx := M } σ H) (k : ∀ σ' H', M σ' H' → u D σ' H') : C8.tCut t u D σ H := ⟨M, h, k⟩
theorem k_rng1 {ta : TA} {R : It → Hp → Prop} (h : ta σ H fun vs H1 => ∃ j : Int, vs = [.int j] ∧ -(2 ^ 62) ≤ j ∧ j < 2 ^ 62 ∧ R (Itr 0 j.toNat) H1) : iRng1 ta σ H R := h
theorem k_rg {j : Int} {R : Int → Prop} (h1 : 0 ≤ j) (h2 : j < 2 ^ 62) (q : R j) : ∃ i : Int, [V.int j] = [V.int i] ∧ -(2 ^ 62) ≤ i ∧ i < 2 ^ 62 ∧ R i := ⟨j, rfl, by omega, h2, q⟩
theorem k_for {wi : TI} {g : TG} {tb : TS} (h : wi σ H fun J H1 => ∃ W : Nat → Nat → L2.St → Hp → Prop, (∃ m, W 0 m σ H1) ∧ ∀ i m σ H, W i m σ H →
  (J.stop i H ∧ D.nx σ H) ∨ (J.go i H ∧ ∃ N : L2.St → Hp → Prop, (∀ σ' H', N σ' H' → ∃ m', m' < m ∧ W (i + 1) m' σ' H') ∧ ∀ x H', J.yld i H x H' → g x σ H' fun σ2 H2 => tb { D with nx := N, ct := N, bk := D.nx } σ2 H2)) : tFor wi g tb D σ H := h
theorem k_lc {wi : TI} {g : TG} {tt : TT} {te : TE} {vs : List Nat} (h : wi σ H fun J H1 => ∀ D, H1 D = none → ∃ W : Nat → Nat → Hp → Prop, (∃ m, W 0 m (upd H1 D (.lst []))) ∧ ∀ i m H, W i m H →
  (J.stop i H ∧ Q (.ref D) H) ∨ (J.go i H ∧ ∃ Nx : Hp → Prop, (∀ H', Nx H' → ∃ m', m' < m ∧ W (i + 1) m' H') ∧ ∀ x H', J.yld i H x H' → g x (wipe σ vs) H' fun σ2 H2 => wipe σ2 vs = wipe σ vs ∧ tt σ2 H2 fun b H3 =>
    if b = true then te σ2 H3 fun y H4 => ∃ acc, H4 D = some (.lst acc) ∧ acc.length < sizeLine ∧ Nx (upd H4 D (.lst (acc ++ [y]))) else Nx H3)) : tLc wi g tt te vs σ H Q := h
theorem k_yesT {R : Bool → Hp → Prop} (h : R true H) : tYes σ H R := h
theorem k_str {te : TE} {R : It → Hp → Prop} (h : te σ H fun v H1 => ∃ x, v = .str x ∧ R (Its x) H1) : iStr te σ H R := h
theorem k_slS {z : Str} {lo hi : Option Int} (e : z.length ≤ sizeLine) (q : Q (.str (cutS z lo hi)) H) : rSlS (.str z) lo hi H Q := ⟨z, rfl, e, q⟩
theorem k_prs {tk tv : TE} {r : List (TE × TE)} {R : List (V × V) → Hp → Prop} (h : tk σ H fun x H1 => tv σ H1 fun y H2 => tPairs r σ H2 fun ps H3 => R ((x, y) :: ps) H3) : tPairs ((tk, tv) :: r) σ H R := h
theorem k_prn {R : List (V × V) → Hp → Prop} (h : R [] H) : tPairs [] σ H R := h
theorem k_aug {i : Nat} {te : TE} {ti : TIp} {x : V} (e : σ[i]? = some (some x)) (h : te σ H fun y H1 => ti x y H1 fun z H2 => D.nx (σ.set i (some z)) H2) : tAug i te ti D σ H := ⟨x, e, h⟩
theorem k_ipI {f : Int → Int → Int} {i j : Int} (h : Q (.int (f i j)) H) : ipI f (.int i) (.int j) H Q := ⟨i, j, rfl, rfl, h⟩
theorem k_din {ty td : TE} (h : ty σ H fun y H1 => td σ H1 fun x H2 => ∃ a o, x = .ref a ∧ DGet H2 a y o ∧ Q (.bl o.isSome) H2) : tDIn ty td σ H Q := h
theorem k_dnotin {ty td : TE} (h : ty σ H fun y H1 => td σ H1 fun x H2 => ∃ a o, x = .ref a ∧ DGet H2 a y o ∧ Q (.bl (!o.isSome)) H2) : tDNotIn ty td σ H Q := h
theorem k_dput {td ty tv : TE} (h : tv σ H fun v H1 => td σ H1 fun x H2 => ty σ H2 fun y H3 => ∃ a H4, x = .ref a ∧ DPut H3 a y v H4 ∧ D.nx σ H4) : sDPut td ty tv D σ H := h
theorem k_prop {C : Addr} {sp : Sp} {dvs : List V} {E : XK} {ta : TE} (h : ta σ H fun x H1 => ∃ a dx fs, x = .ref a ∧ H1 a = some (.ins C dx fs) ∧ sp (.ref a :: dvs) H1 Q E) : tProp C sp dvs E ta σ H Q := h
theorem k_itup {tl : TE} {R : It → Hp → Prop} (h : tl σ H fun x H1 => ∃ a, x = .ref a ∧ (∃ xs, SqT K H1 a xs) ∧ R (Itt K a) H1) : iTup K tl σ H R := h
theorem k_ilst {tl : TE} {R : It → Hp → Prop} (h : tl σ H fun x H1 => ∃ a, x = .ref a ∧ (∃ xs, SqL K H1 a xs) ∧ R (Itl K a) H1) : iList K tl σ H R := h
theorem k_bm0 {T : String} {r : V → List V → Hp → VK → Prop} {to : TE} (h : to σ H fun x H1 => tyV K T x H1 ∧ r x [] H1 Q) : tBM0 K T r to σ H Q := h
theorem k_dc {wi : TI} {g : TG} {tt : TT} {tk tv : TE} {vs : List Nat} (h : wi σ H fun J H1 => ∀ D, H1 D = none → ∃ W : Nat → Nat → Hp → Prop, (∃ m, W 0 m (upd H1 D (.dK []))) ∧ ∀ i m H, W i m H →
  (J.stop i H ∧ Q (.ref D) H) ∨ (J.go i H ∧ ∃ Nx : Hp → Prop, (∀ H', Nx H' → ∃ m', m' < m ∧ W (i + 1) m' H') ∧ ∀ x H', J.yld i H x H' → g x (wipe σ vs) H' fun σ2 H2 => wipe σ2 vs = wipe σ vs ∧ tt σ2 H2 fun b H3 =>
    if b = true then tk σ2 H3 fun y H4 => tv σ2 H4 fun z H5 => ∃ kvs k, y = kV k ∧ H5 D = some (.dK kvs) ∧ kvs.length < sizeLine ∧ Nx (upd H5 D (.dK (putK kvs k z))) else Nx H3)) : tDc wi g tt tk tv vs σ H Q := h
theorem k_whl {c : TT} {tb : TS} (W : Nat → L2.St → Hp → Prop) (h0 : ∃ m, W m σ H) (h : ∀ m σ H, W m σ H → c σ H fun b H1 => if b = true then tb { D with nx := fun σ' H' => ∃ m', m' < m ∧ W m' σ' H', ct := fun σ' H' => ∃ m', m' < m ∧ W m' σ' H', bk := D.nx } σ H1 else D.nx σ H1)
    (mono : ∀ σ H (R R' : Bool → Hp → Prop), (∀ b H1, R b H1 → R' b H1) → c σ H R → c σ H R') : tWhile c tb D σ H := by
  refine ⟨W, h0, fun m σ H w => mono _ _ _ _ (fun b H1 q => ?_) (h m σ H w)⟩
  cases b with
  | false => exact q
  | true => exact ⟨_, fun _ _ z => z, q⟩
theorem k_ite {p A B : Prop} [Decidable p] (h1 : p → A) (h2 : ¬ p → B) : if decide p = true then A else B := by
  by_cases h : p
  · rw [decide_eq_true h]; exact iteT (h1 h)
  · rw [decide_eq_false h]; exact iteF (h2 h)
theorem k_iteN {p A B : Prop} [Decidable p] (h1 : p → B) (h2 : ¬ p → A) : if (!decide p) = true then A else B := by
  by_cases h : p
  · rw [decide_eq_true h]; exact iteF (h1 h)
  · rw [decide_eq_false h]; exact iteT (h2 h)
theorem k_yes {c : Bool} {A B : Prop} (e : c = true) (h : A) : if c = true then A else B := by rw [e]; exact iteT h
theorem k_no {c : Bool} {A B : Prop} (e : c = false) (h : B) : if c = true then A else B := by rw [e]; exact iteF h
theorem k_bool {c : Bool} {A B : Prop} (h1 : c = true → A) (h2 : c = false → B) : if c = true then A else B := by cases c; exact iteF (h2 rfl); exact iteT (h1 rfl)
end
section
variable {K : PySem.W.Frag} {σ : L2.St} {H : Hp} {D : Ends} {Q : VK}
theorem k_par3 {i j l : Nat} {ta : TA} (h : ta σ H fun vs H1 => ∃ u v w, vs = [u, v, w] ∧ D.nx (((σ.set i (some u)).set j (some v)).set l (some w)) H1) : tPar3 i j l ta D σ H := h
theorem k_three {p : V → V → V → Prop} {a b c : V} (h : p a b c) : ∃ u v w, [a, b, c] = [u, v, w] ∧ p u v w := ⟨a, b, c, rfl, h⟩
theorem k_neD {x y : V} {d e : PyData} (h1 : Dp K H x d) (h2 : Dp K H y e) (s1 : SeqAt.shaped d = true) (s2 : SeqAt.shaped e = true) (q : Q (.bl (!PyData.eqv d e)) H) : rNeD K x y H Q := ⟨d, e, h1, h2, s1, s2, q⟩
theorem k_eqD {x y : V} {d e : PyData} (h1 : Dp K H x d) (h2 : Dp K H y e) (s1 : SeqAt.shaped d = true) (s2 : SeqAt.shaped e = true) (q : Q (.bl (PyData.eqv d e)) H) : rEqD K x y H Q := ⟨d, e, h1, h2, s1, s2, q⟩
theorem k_lenS {z : Str} {R : Int → Prop} (h : z.length ≤ sizeLine) (q : R z.length) : ∃ y : Str, [V.str z] = [V.str y] ∧ y.length ≤ sizeLine ∧ R y.length := ⟨z, rfl, h, q⟩
end
local macro_rules | `(tactic| walk_at "st") => `(tactic| first
  | ((with_reducible show tVar _ _ _ _); refine k_var rfl ?_)
  | (with_reducible first
    | refine k_c ?_ | refine k_op ?_ | refine k_I0 ?_ | refine k_seq ?_ | refine k_asg ?_ | refine k_name ?_ | refine k_cons ?_ | refine k_nil ?_ | refine k_cb ?_
    | refine k_ret ?_ | refine k_ifS ?_ | refine k_test ?_ | refine k_tB ?_ | refine k_bl ?_ | refine k_call ?_ | refine k_make ?_ | refine k_par3 ?_ | refine k_three ?_ | refine k_ipI ?_ | refine k_din ?_ | refine k_dnotin ?_ | refine k_dput ?_ | refine k_prop ?_ | refine k_itup ?_ | refine k_ilst ?_ | refine k_bm0 ?_ | refine k_dc ?_ | refine k_prs ?_ | refine k_prn ?_ | refine k_lc ?_ | refine k_yesT ?_ | refine k_str ?_ | refine k_disp ?_ | refine k_for ?_ | refine k_rng1 ?_ | refine k_drop ?_ | refine k_next ?_ | refine k_sub ?_ | refine k_un ?_ | refine k_U ?_
    | refine k_par ?_ | refine k_two ?_ | refine k_and ?_ | refine k_or ?_ | refine k_not ?_ | refine k_andV ?_ | refine k_orV ?_ | refine k_notV ?_ | refine k_ifE ?_ | refine k_isN ?_ | refine k_notN ?_
    | refine k_gn ?_ | refine k_gc ?_ | refine k_tup ?_ | refine k_lst ?_ | refine k_bm ?_ | refine k_dget ?_ | refine k_fld ?_ | refine k_sl ?_ | refine k_noPart ?_ | refine k_part ?_ | refine k_int ?_
    | refine k_int1 ?_ | refine k_retN ?_ | refine k_cont ?_ | refine k_break ?_)
  | ((with_reducible show rIxL _ _ _ _ _); refine k_ixL (SqL.of (by first | assumption | exact upd_same)) rfl ?_)
  | ((with_reducible show rSetL _ _ _ _ _); refine k_setL (by first | assumption | exact upd_same) rfl ?_)
  | ((with_reducible show tAug _ _ _ _ _ _); refine k_aug rfl ?_)
  | ((with_reducible show rEq _ _ _ _); refine k_eq rfl ?_)
  | ((with_reducible show rNe _ _ _ _); refine k_ne rfl ?_))
local macro_rules | `(tactic| walk_at "go") => `(tactic| repeat (walk_at "st"))
local macro_rules | `(tactic| walk_at "begin") => `(tactic| ((try dsimp only [cxOf]); simp only [L2.start, List.map_cons, List.map_nil, List.length_cons, List.length_nil, Nat.reduceAdd, Nat.reduceSub, List.replicate_succ, List.replicate_zero, List.cons_append, List.nil_append]))
/-! ### a draw: any number below the most -/
def sp_taken (K : PySem.W.Frag) : Sp := fun vs H Q _ => ∃ (a : Addr) (m : Int), vs = [.ref a, .int m] ∧ 0 < m ∧ m.natAbs < 2 ^ 8000 ∧ RowOk K H a ∧
  ∀ (x : Int) (H' : Hp), 0 ≤ x → x < m → RowOk K H' a → Keep a H H' → Q (.int x) H'
section
variable {P : Program} {w : World} {K : PySem.W.Frag} {mg : Str → Option Value} {base : Heap}
theorem ok_law_taken (T : Txt K mg) : FnOk P w K mg base (L2.CX P w) 1 T.a_law_taken T.fd_law_taken ["_law_row", "_law_many"] (sp_taken K) := by
  refine T.F_law_taken.okX sc_law_taken (fun vs H Q E h => ?_) (fun cdv A outer s H vs Q E hr h => ?_)
  · obtain ⟨a, m, rfl, _⟩ := h
    rfl
  · obtain ⟨a, m, rfl, m0, mb, ⟨sc, ns, i, z, r, ea, hs, hn, i0, z0, z1⟩, k⟩ := h
    refine ⟨_, (PSs.nox (pss_cons (ps_if (pt_cmpR op_gt (pe_ix ix_list (pv 0) pe_int (fun _ _ => rfl)) pe_int (nomark _))
  (pss_cons (ps_set (i := 2) sc_law_taken.nd rfl (Or.inl rfl) (pe_op op_mod (pe_callTy call_int1 (by rfl) T.z_int PySem.Pv.boot_int (pa_cons (pe_ix ix_list (pv 0) pe_int (fun _ _ => rfl)) pa_nil)) (pv 1)))
  (pss_cons (ps_asg (pe_op op_fdivW (pe_ix ix_list (pv 0) pe_int (fun _ _ => rfl)) (pv 1)) (pg_sub (pv 0) pe_int set_list))
  (pss_one (ps_ret (pv 2)))))
  pss_nil)
  (pss_cons (ps_asg (pe_op op_add (pe_ix ix_list (pv 0) pe_int (fun _ _ => rfl)) pe_int) (pg_sub (pv 0) pe_int set_list))
  (pss_cons (ps_if (pt_cmpR op_gt (pe_ix ix_list (pv 0) pe_int (fun _ _ => rfl)) (pe_callB call_len_seq (by rfl) T.z_len PySem.boot_len (pa_cons (pe_ix ix_list (pv 0) pe_int (fun _ _ => rfl)) pa_nil)) (nomark _))
  (pss_cons (ps_asg (pe_op op_mod (pe_callTy call_int1 (by rfl) T.z_int PySem.Pv.boot_int (pa_cons (pe_op op_add (pe_op op_mulW (pe_ix ix_list (pv 0) pe_int (fun _ _ => rfl)) pe_int) pe_int) pa_nil)) pe_int) (pg_sub (pv 0) pe_int set_list))
  (pss_one (ps_ret (pe_op op_mod (pe_callTy call_int1 (by rfl) T.z_int PySem.Pv.boot_int (pa_cons (pe_op op_fdivW (pe_ix ix_list (pv 0) pe_int (fun _ _ => rfl)) pe_int) pa_nil)) (pv 1)))))
  pss_nil)
  (pss_cons (ps_set (i := 3) sc_law_taken.nd rfl (Or.inl rfl) (pe_ix ix_list (pe_ix ix_list (pv 0) pe_int (fun _ _ => rfl)) (pe_op op_sub (pe_ix ix_list (pv 0) pe_int (fun _ _ => rfl)) pe_int) (fun _ _ => rfl)))
  (pss_cons (ps_asg (pe_op op_mod (pe_callTy call_int1 (by rfl) T.z_int PySem.Pv.boot_int (pa_cons (pe_op op_add (pe_op op_add (pe_op op_mulW (pe_ix ix_list (pv 0) pe_int (fun _ _ => rfl)) pe_int) (pv 3)) pe_int) pa_nil)) pe_int) (pg_sub (pv 0) pe_int set_list))
  (pss_cons (ps_if (pt_cmpR op_ge (pv 3) (pe_op op_pow pe_int pe_int) (nomark _))
  (pss_one (ps_asg (pe_op op_fdivW (pv 3) (pv 1)) (pg_sub (pv 0) pe_int set_list)))
  pss_nil)
  (pss_one (ps_ret (pe_op op_mod (pe_callTy call_int1 (by rfl) T.z_int PySem.Pv.boot_int (pa_cons (pv 3) pa_nil)) (pv 1))))))))))), ?_⟩
    walk_at "begin"
    walk_at "go"
    have CD : CDivW r m := wide_div m0 mb (by decide) (by decide)
    have CZ : CMulW z 48271 := wide_mul (a := 31) (b := 16) (by omega) (by decide) (by decide) (by decide) (by decide)
    refine k_ite (fun c => ?_) (fun c => ?_)
    · walk_at "go"
      refine k_I m0 ?_
      walk_at "go"
      refine k_I CD ?_
      walk_at "go"
      exact k _ _ (Int.emod_nonneg _ (by omega)) (Int.emod_lt_of_pos _ m0) ⟨sc, ns, i, z, r / m, upd_same, hs.keep Keep.at_ ea, hn, i0, z0, z1⟩ Keep.at_
    · walk_at "go"
      have K1 : Keep a H (upd H a (HO.lst ([V.ref sc, V.int i, V.int z, V.int r].set (Int.toNat 1) (V.int (i + 1))))) := Keep.at_
      refine k_len (.inl (hs.keep K1 ea).sq) ?_
      walk_at "go"
      have zn : ∀ q : Int, 0 ≤ q % 2147483647 ∧ q % 2147483647 < 2147483647 := fun q => ⟨Int.emod_nonneg _ (by decide), Int.emod_lt_of_pos _ (by decide)⟩
      have mn : ∀ q : Int, 0 ≤ q % m ∧ q % m < m := fun q => ⟨Int.emod_nonneg _ (by omega), Int.emod_lt_of_pos _ m0⟩
      refine k_ite (fun c1 => ?_) (fun c1 => ?_)
      · walk_at "go"
        refine k_I CZ ?_
        walk_at "go"
        refine k_I (by decide) ?_
        walk_at "go"
        refine k_I (wide_div (b := 3) (by decide) (by decide) (by decide) (by decide)) ?_
        walk_at "go"
        refine k_I m0 ?_
        exact k _ _ (mn _).1 (mn _).2 ⟨sc, ns, i + 1, _, r, upd_same, (hs.keep K1 ea).keep Keep.at_ upd_same, hn, by omega, (zn _).1, (zn _).2⟩ (K1.trans Keep.at_)
      · walk_at "go"
        rw [List.length_map] at c1
        have hl : (i + 1 - 1).toNat < ns.length := by omega
        refine k_ixL (hs.keep K1 ea).sq (v := V.int (ns[(i + 1 - 1).toNat]'hl)) (at_of (j := (i + 1 - 1).toNat) (by omega) (by rw [List.getElem?_map, List.getElem?_eq_getElem hl]; rfl)) ?_
        generalize ns[(i + 1 - 1).toNat]'hl = cell
        walk_at "go"
        refine k_I CZ ?_
        walk_at "go"
        refine k_I (by decide) ?_
        walk_at "go"
        refine k_I (by exact ⟨by decide, by decide, by decide⟩) ?_
        walk_at "go"
        refine k_ite (fun c2 => ?_) (fun c2 => ?_)
        · walk_at "go"
          refine k_I (wide_div m0 mb (by decide) (by decide)) ?_
          walk_at "go"
          refine k_I m0 ?_
          exact k _ _ (mn _).1 (mn _).2 ⟨sc, ns, i + 1, _, _, upd_same, ((hs.keep K1 ea).keep Keep.at_ upd_same).keep Keep.at_ upd_same, hn, by omega, (zn _).1, (zn _).2⟩ ((K1.trans Keep.at_).trans Keep.at_)
        · walk_at "go"
          refine k_I m0 ?_
          exact k _ _ (mn _).1 (mn _).2 ⟨sc, ns, i + 1, _, _, upd_same, (hs.keep K1 ea).keep Keep.at_ upd_same, hn, by omega, (zn _).1, (zn _).2⟩ (K1.trans Keep.at_)
end
/-! ### enumerate over a tuple -/
section
open Builtin
theorem meets_enumT (t : Addr) (its : Array Value) : Meets (Builtin.«enumerate.__new__» ⟨[.type "enumerate", .ref t], []⟩) (fun _ R st => st.heap.IsTuple t its ∧
    R (.ok (.ret (.ref (st.heap.objs.size + 1)))) { st with heap := (st.heap.push { cls := .type "tuple_iterator", data := .fields #[.ref t, .int 0 0] }).push { cls := .type "enumerate", data := .fields #[.none, .bool false, .ref st.heap.objs.size, rawInt 0, .none, .none] } }) := by
  refine Meets.of_wp fun prog w A R st hh => ?_
  rcases st with ⟨h0, g0, d0, t0, o0⟩
  obtain ⟨isT, q⟩ := hh
  have sub := sub_enumerate
  have L : Heap.IsTuple (Shared.heap ⟨h0, g0, d0, t0, o0⟩) t its := isT
  obtain ⟨ob, e0, c0, n0, dt0⟩ := L
  have z : (Heap.push h0 { cls := .type "tuple_iterator", data := .fields #[.ref t, .int 0 0] }).objs.size = h0.objs.size + 1 := Heap.size_push ..
  have q' := q
  rw [← z] at q'
  wp_walk using PySem.wpAny_pyIter_tuple isT
  refine wpAny_stack_any fun fr => wpAny_pure ?_
  split
  · rename_i cc _ _ _ _ _
    cases (cc == Value.type "enumerate")
    · wp_walk using PySem.wpAny_pyIter_tuple isT
      exact ⟨_, rfl, q'⟩
    · wp_walk using PySem.wpAny_pyIter_tuple isT
      exact ⟨_, rfl, q'⟩
  · wp_walk using PySem.wpAny_pyIter_tuple isT
    exact ⟨_, rfl, q'⟩
end
section
variable {prog : Program} {w : World} {A : Around} {E : Value → Shared → Prop} {s : Shared}
theorem call_enumT {t : Addr} {its : Array Value} {Q : Value → Shared → Prop} (isT : s.heap.IsTuple t its)
    (k : ∀ h', IsEnum h' (s.heap.objs.size + 1) s.heap.objs.size 0 .none → h'.IsTupleIter s.heap.objs.size t 0 → (∀ b o, s.heap.get? b = some o → h'.get? b = some o) →
      Q (.ref (s.heap.objs.size + 1)) { s with heap := h' }) : wpAny (model prog w) A (call (.type "enumerate") [.ref t]) Q E s := by
  have m := meets_enumT t its
  refine callType_new F.called_enumerate (by decide) (F.typeCall_enumerate_1 _) (F.newCall_enumerate_1 _) (fun o => F.args_object_init_2 o _) F.entry_enumerate_new m ⟨isT, ?_⟩
  have z : (Heap.push s.heap { cls := .type "tuple_iterator", data := .fields #[.ref t, .int 0 0] }).objs.size = s.heap.objs.size + 1 := Heap.size_push ..
  have g := Heap.get?_push_size (Heap.push s.heap { cls := .type "tuple_iterator", data := .fields #[.ref t, .int 0 0] })
    (o := { cls := .type "enumerate", data := .fields #[.none, .bool false, .ref s.heap.objs.size, rawInt 0, .none, .none] }) rfl
  rw [z] at g
  exact ⟨⟨_, g, rfl⟩, k _ g ⟨_, Heap.get?_push_of_some _ (Heap.get?_push_size _ rfl), rfl, rfl⟩ fun b o x => Heap.get?_push_of_some _ (Heap.get?_push_of_some _ x)⟩
end
/-- the i-th pair is new: its place and the tuple's item -/
def Iet (K : PySem.W.Frag) (a : Addr) : It :=
  ⟨fun i H => ∃ (xs : List V) (x : V), SqT K H a xs ∧ xs[i]? = some x,
   fun i H v H' => ∃ p x, v = .ref p ∧ H p = none ∧ H' = upd H p (.tup [.int (i : Nat), x]) ∧ ∀ xs, SqT K H a xs → xs[i]? = some x,
   fun i H => ∃ xs : List V, SqT K H a xs ∧ xs.length ≤ i⟩
theorem turn_enumT {P : Program} {w : World} {K : PySem.W.Frag} {es : List Expr} {c : Nat} {tp : Pos} (a e it : Addr) :
    Turn P w K (.Tuple es c tp) (Iet K a) [e, it] e (fun i h => (∃ old, IsEnum h e it ((i : Nat) : Int) old) ∧ h.IsTupleIter it a i ∧ e ≠ it) := by
  have two : ∀ b, b ∈ [e, it] → b = e ∨ b = it := fun b hb => by simpa using hb
  constructor
  case mem => simp
  case obj =>
    rintro i h ⟨⟨old, he⟩, ⟨o, ho, hc, hd⟩, _⟩ b hb
    rcases two b hb with rfl | rfl
    · exact ⟨_, he, fun v q => nomatch q⟩
    · exact ⟨o, ho, fun v q => by rw [hd] at q; cases q⟩
  case keep =>
    rintro i h h' ⟨⟨old, he⟩, hi, ne⟩ k
    exact ⟨⟨old, k e (by simp) _ he⟩, hi.at fun o q => k it (by simp) o q, ne⟩
  case item =>
    rintro X rfl rfl rfl hC i pins s σ H E I hf ⟨⟨old, he⟩, hit, ne⟩ ⟨xs, x, hq, hx⟩
    obtain ⟨its, rv, p, hz⟩ := I.tuple hq
    obtain ⟨u, hu, ru⟩ := rv.get hx
    have le : e < s.heap.objs.size := Heap.lt_size he
    have li : it < s.heap.objs.size := by obtain ⟨_, q, _⟩ := hit; exact Heap.lt_size q
    have pt : s.heap.IsTuple a its.toArray := p
    have na : a ≠ it := fun z => by
      obtain ⟨o1, q1, c1, _⟩ := hit
      obtain ⟨o2, q2, c2, _⟩ := pt
      rw [z, q1] at q2
      cases q2
      rw [c1] at c2
      exact absurd c2 (by simp)
    have nb : e ≠ a := fun z => by
      obtain ⟨o2, q2, c2, _⟩ := pt
      have q3 : s.heap.get? e = _ := he
      rw [z, q2] at q3
      cases q3
      exact absurd c2 (by simp)
    have Dr := Draws.tuple (prog := X.prog) (w := X.w) (A := X.A.in1) (I.ok.hd hC) it a na its.toArray
    refine wpAny_pyNext_enum_itemD (i := i) Dr he ⟨hit, pt⟩ (by simpa using (List.getElem?_eq_some_iff.mp hu).1) ne (by simp [ne, nb]) fun x' h' tk px ho st hT hsz hk => ?_
    have ex : x' = u := by
      have q : its.toArray[i]? = some x' := px
      rw [List.getElem?_toArray, hu] at q
      exact (Option.some.inj q).symm
    subst ex
    refine ⟨_, rfl, wpAny_letOwnedTupleGo_enum (s := { s with heap := h', toks := tk + 1 }) ho fun h2 he2 sb => ?_⟩
    have hT2 : h2.get? s.heap.objs.size = some { cls := .type "tuple", data := .seq #[.int i tk, x'] } := (sb.2 _ (Nat.ne_of_gt le)).trans hT
    have new : ObjOk X.prog X.w (upd H s.heap.objs.size (.tup [.int (i : Nat), x])) h2 s.heap.objs.size (.tup [.int (i : Nat), x]) :=
      ⟨(by decide : 2 ≤ sizeLine), [.int i tk, x'], .cons ⟨_, rfl⟩ (.cons ru .nil), ⟨_, hT2, rfl, _, rfl⟩⟩
    have I1 : Inv X pins σ (upd H s.heap.objs.size (.tup [.int (i : Nat), x])) { s with heap := h2, toks := tk + 1 } :=
      I.turnedNew (ch := [e, it]) (fun b ob hb q => (sb.2 b (fun z => hb (by simp [z]))).trans (hk b ob (fun z => hb (by simp [z])) (fun z => hb (by simp [z])) q)) hf (Nat.le_refl _) new
    refine ⟨.ref s.heap.objs.size, _, I1, rfl, ⟨_, x, rfl, I.hok.fresh (Nat.le_refl _), rfl, fun ys hy => ?_⟩, ⟨⟨x', ?_⟩, ?_, ne⟩, fun b hb => ?_⟩
    · rw [I.tuple_inj hy hq]; exact hx
    · have e1 : ((i + 1 : Nat) : Int) = (i : Int) + 1 := by omega
      rw [e1]; exact he2
    · exact st.1.at fun o q => (sb.2 it (Ne.symm ne)).trans q
    · have lb : b < s.heap.objs.size := by rcases two b hb with rfl | rfl <;> assumption
      rw [upd_ne (Nat.ne_of_lt lb)]
      exact (hf b hb).1
  case done =>
    rintro X rfl rfl rfl hC i pins s σ H E I hf ⟨⟨old, he⟩, hit, ne⟩ ⟨xs, hq, hx⟩
    obtain ⟨its, rv, p, hz⟩ := I.tuple hq
    have pt : s.heap.IsTuple a its.toArray := p
    have na : a ≠ it := fun z => by
      obtain ⟨o1, q1, c1, _⟩ := hit
      obtain ⟨o2, q2, c2, _⟩ := pt
      rw [z, q1] at q2
      cases q2
      rw [c1] at c2
      exact absurd c2 (by simp)
    have out : its.toArray[i]? = none := by
      have hl := rv.length
      rw [List.getElem?_toArray]
      exact List.getElem?_eq_none (by omega)
    have Dr : Draws X.prog X.w X.A.in1 it [it, a] i (fun _ _ => True) (fun j h => j = i ∧ h.IsTupleIter it a j ∧ h.IsTuple a its.toArray) :=
      { live := fun j h st => by obtain ⟨_, ⟨o, ho, _⟩, _⟩ := st; exact ⟨o, ho⟩
        frame := fun j h h' st hk => ⟨st.1, st.2.1.at fun o e => hk it (by simp) o e, st.2.2.at fun o e => hk a (by simp) o e⟩
        item := fun j s Q E hj st hQ => absurd st.1 (Nat.ne_of_lt hj)
        done := fun s Q E st hE => wpAny_nextOf_tuple_end (A := X.A.in1) (I.ok.hd hC) st.2.1 st.2.2 out hE }
    obtain ⟨f0, f1, f2, f3, f4, f5⟩ := hf it (by simp)
    exact wpAny_pyNext_enum_endD Dr he ⟨rfl, hit, pt⟩ fun h' eb => ⟨rfl, I.turned (t' := s.toks) (fun b o hb q => eb b o hb q) f0 f1 f3 f4 f5⟩
  case self =>
    rintro A i s Q E ⟨⟨_, he⟩, _⟩ h
    exact wpAny_pyIter_enum he h
def iEnumT (K : PySem.W.Frag) (ta : TA) : TI := fun σ H R => ta σ H fun vs H1 => ∃ a xs, vs = [.ref a] ∧ SqT K H1 a xs ∧ R (Iet K a) H1
theorem pi_enumT {X : Cx} {e : Expr} {ta : TA} {p pos tpos : Pos} {es : List Expr} {c : Nat} (hg : Gl X "enumerate") (hm : X.mg "enumerate" = none) (ha : PA X [e] ta)
    (hs : starEach [e] X.env = [(false, eval e X.env)] := by rfl) : PI X (.Tuple es c tpos) (.Call (.Name "enumerate" p) [e] [] pos) (iEnumT X.K ta) := by
  constructor
  intro pins s σ H R I h
  refine PyProof.Rows.Call_ (ld_blt I hg hm (show bootBuiltins "enumerate" = some (.type "enumerate") by decide +kernel) (PyProof.Rows.callWith_type1 (thn (ha.run pos pins s σ H _ I h) ?_) hs rfl))
  rintro us s1 ⟨vs, H1, I1, r1, a, xs, rfl, hq, q⟩
  obtain ⟨u, rfl, ru⟩ := vals1 r1
  cases ru
  obtain ⟨its, rv, p', hz⟩ := I1.tuple hq
  have pt : s1.heap.IsTuple a its.toArray := p'
  refine call_enumT pt fun h' he hit hk => wpAny_pyIter_enum he ?_
  have I2 : Inv X pins σ H1 { s1 with heap := h' } := I1.kept (t' := s1.toks) hk
  refine ⟨s1.heap.objs.size + 1, [s1.heap.objs.size + 1, s1.heap.objs.size], _, _, H1, rfl, I2, turn_enumT a (s1.heap.objs.size + 1) s1.heap.objs.size, ⟨⟨.none, he⟩, hit, Nat.succ_ne_self _⟩, fun b hb => ?_, q⟩
  have lb : s1.heap.objs.size ≤ b := by
    have two : b = s1.heap.objs.size + 1 ∨ b = s1.heap.objs.size := by simpa using hb
    rcases two with rfl | rfl
    · exact Nat.le_succ _
    · exact Nat.le_refl _
  exact I1.fpOk lb (I1.hok.fresh lb)
/-- over a tuple that stands still, the place and the item in a new pair -/
theorem for_enumT {K : PySem.W.Frag} {a : Addr} {xs : List V} {g : TG} {tb : TS} {D : Ends} {σ : L2.St} {H : Hp} (Pv : Nat → L2.St → Hp → Prop) (h0 : Pv 0 σ H) (hl : ∀ i σ H, i ≤ xs.length → Pv i σ H → SqT K H a xs)
    (hs : ∀ i x p σ H, xs[i]? = some x → Pv i σ H → H p = none → g (.ref p) σ (upd H p (.tup [.int (i : Nat), x])) fun σ2 H2 => tb { D with nx := Pv (i + 1), ct := Pv (i + 1), bk := D.nx } σ2 H2) (hd : ∀ σ H, Pv xs.length σ H → D.nx σ H) :
    ∃ W : Nat → Nat → L2.St → Hp → Prop, (∃ m, W 0 m σ H) ∧ ∀ i m σ H, W i m σ H → ((Iet K a).stop i H ∧ D.nx σ H) ∨
      ((Iet K a).go i H ∧ ∃ N : L2.St → Hp → Prop, (∀ σ' H', N σ' H' → ∃ m', m' < m ∧ W (i + 1) m' σ' H') ∧ ∀ x H', (Iet K a).yld i H x H' → g x σ H' fun σ2 H2 => tb { D with nx := N, ct := N, bk := D.nx } σ2 H2) := by
  refine ⟨fun i m σ H => m + i = xs.length ∧ Pv i σ H, ⟨xs.length, by simp, h0⟩, fun i m σ H ⟨em, hP⟩ => ?_⟩
  have sq := hl i σ H (by omega) hP
  by_cases c : i < xs.length
  · refine .inr ⟨⟨xs, xs[i], sq, List.getElem?_eq_getElem c⟩, Pv (i + 1), fun σ' H' z => ⟨m - 1, by omega, by omega, z⟩, ?_⟩
    rintro v H' ⟨p, x, rfl, hp, rfl, hx⟩
    exact hs i x p σ H (hx xs sq) hP hp
  · have e : i = xs.length := by omega
    exact .inl ⟨⟨xs, sq, by omega⟩, hd σ H (e ▸ hP)⟩
/-! ### machines as data -/
structure Stp where
  b : Nat
  c : Nat
  e : Nat
  g : Int
structure MD where
  n : Nat
  ss : List Stp
  es : List Nat
def stpV (s : Stp) : List V := [.int (s.b : Nat), .str ⟨#[s.c]⟩, .int (s.e : Nat), .int s.g]
structure Stp.Ok (n : Nat) (s : Stp) : Prop where
  b : s.b < n
  c : 97 ≤ s.c
  c' : s.c ≤ 100
  e : s.e < n
  g : -(10 ^ 30) ≤ s.g
  g' : s.g ≤ 10 ^ 30
def Stp.lt (s t : Stp) : Prop := s.b < t.b ∨ (s.b = t.b ∧ s.c < t.c)
structure MD.Ok (m : MD) : Prop where
  n1 : 1 ≤ m.n
  n8 : m.n ≤ 8
  ok : ∀ s ∈ m.ss, s.Ok m.n
  up : m.ss.Pairwise Stp.lt
  len : m.ss.length ≤ 32
  eb : ∀ e ∈ m.es, e < m.n
  eu : m.es.Pairwise (· < ·)
  el : m.es.length ≤ 8
/-- steps alone, whatever the number of stands -/
structure StOk (N : Nat) (s : Stp) : Prop where
  b : s.b < N
  c : 97 ≤ s.c
  c' : s.c ≤ 100
  e : s.e < N
  g : -(10 ^ 32) ≤ s.g
  g' : s.g ≤ 10 ^ 32
structure SsOk (N : Nat) (ss : List Stp) : Prop where
  n1 : 1 ≤ N
  n64 : N ≤ 63
  ok : ∀ s ∈ ss, StOk N s
  len : ss.length ≤ 300
theorem MD.Ok.sok {m : MD} (o : m.Ok) : SsOk m.n m.ss := ⟨o.n1, by have := o.n8; omega, fun s h => let k := o.ok s h; ⟨k.b, k.c, k.c', k.e, by have := k.g; omega, by have := k.g'; omega⟩, by have := o.len; omega⟩
/-- the steps' tuples -/
def StpsAt (K : PySem.W.Frag) (H : Hp) (vs : List V) (ss : List Stp) : Prop := vs.length = ss.length ∧ ∀ (i : Nat) (s : Stp), ss[i]? = some s → ∃ p, vs[i]? = some (V.ref p) ∧ SqT K H p (stpV s)
def nats (es : List Nat) : List V := es.map fun e => V.int (e : Nat)
def StAt (K : PySem.W.Frag) (H : Hp) (t : Addr) (ss : List Stp) : Prop := ∃ us, SqT K H t us ∧ StpsAt K H us ss
/-- steps and ends as they stand -/
def PartsAt (K : PySem.W.Frag) (H : Hp) (t u : Addr) (m : MD) : Prop := (∃ vs, SqT K H t vs ∧ StpsAt K H vs m.ss) ∧ SqT K H u (nats m.es)
def DAt (K : PySem.W.Frag) (H : Hp) (d : Addr) (m : MD) : Prop := ∃ t u, H d = some (.dK [(.inr "stands", .int (m.n : Nat)), (.inr "steps", .ref t), (.inr "ends", .ref u)]) ∧ PartsAt K H t u m
def mfs (n : Nat) (t u : Addr) : List (Str × V) := [("_stands", .int (n : Nat)), ("_steps", .ref t), ("_ends", .ref u)]
def MAt (K : PySem.W.Frag) (C : Addr) (H : Hp) (x : Addr) (m : MD) : Prop := ∃ dx t u, H x = some (.ins C dx (mfs m.n t u)) ∧ PartsAt K H t u m
section
variable {K : PySem.W.Frag} {a : Addr} {H H' : Hp}
/-- tuples stay -/
def Tups (H H' : Hp) : Prop := (∀ b xs, H b = some (.tup xs) → H' b = some (.tup xs)) ∧ ∀ b o xs, H b = some (.frz o (.tup xs)) → H' b = some (.frz o (.tup xs))
theorem Tups.trans {H H1 H2 : Hp} (a : Tups H H1) (b : Tups H1 H2) : Tups H H2 := ⟨fun c xs e => b.1 c xs (a.1 c xs e), fun c o xs e => b.2 c o xs (a.2 c o xs e)⟩
theorem Tups.sq {p : Addr} {xs : List V} (k : Tups H H') (h : SqT K H p xs) : SqT K H' p xs := by
  rcases h with (h | ⟨o, h⟩) | h
  · exact .inl (.inl (k.1 _ _ h))
  · exact .inl (.inr ⟨o, k.2 _ _ _ h⟩)
  · exact .inr h
theorem Tups.steps {vs : List V} {ss : List Stp} (k : Tups H H') (h : StpsAt K H vs ss) : StpsAt K H' vs ss := ⟨h.1, fun i s e => let ⟨p, e1, q⟩ := h.2 i s e; ⟨p, e1, k.sq q⟩⟩
theorem Tups.stAt {t : Addr} {ss : List Stp} (k : Tups H H') (h : StAt K H t ss) : StAt K H' t ss := let ⟨us, q, z⟩ := h; ⟨us, k.sq q, k.steps z⟩
theorem Tups.parts {t u : Addr} {m : MD} (k : Tups H H') (h : PartsAt K H t u m) : PartsAt K H' t u m := let ⟨⟨vs, q, z⟩, r⟩ := h; ⟨⟨vs, k.sq q, k.steps z⟩, k.sq r⟩
theorem same_tups (k : Same H H') : Tups H H' := ⟨fun _ _ e => k _ _ e, fun _ _ _ e => k _ _ e⟩
theorem Keep.tups {l : List V} (k : Keep a H H') (ha : H a = some (.lst l)) : Tups H H' := ⟨fun b _ e => k _ _ (fun z => by rw [z, ha] at e; cases e) e, fun b _ _ e => k _ _ (fun z => by rw [z, ha] at e; cases e) e⟩
theorem Tups.new {p : Addr} {o : HO} (h : H p = none) : Tups H (upd H p o) := same_tups (Same.new h)
theorem Tups.lst {p : Addr} {xs : List V} {o : HO} (h : H p = some (.lst xs)) : Tups H (upd H p o) := Keep.tups (Keep.at_) h
theorem DAt.keep {d : Addr} {m : MD} {l : List V} (h : DAt K H d m) (k : Keep a H H') (ha : H a = some (.lst l)) : DAt K H' d m :=
  let ⟨t, u, e, q⟩ := h; ⟨t, u, k _ _ (fun z => by rw [z, ha] at e; cases e) e, (k.tups ha).parts q⟩
theorem MAt.keep {C x : Addr} {m : MD} {l : List V} (h : MAt K C H x m) (k : Keep a H H') (ha : H a = some (.lst l)) : MAt K C H' x m :=
  let ⟨dx, t, u, e, q⟩ := h; ⟨dx, t, u, k _ _ (fun z => by rw [z, ha] at e; cases e) e, (k.tups ha).parts q⟩
theorem DAt.same {d : Addr} {m : MD} (h : DAt K H d m) (k : Same H H') : DAt K H' d m := let ⟨t, u, e, q⟩ := h; ⟨t, u, k _ _ e, (same_tups k).parts q⟩
theorem MAt.same {C x : Addr} {m : MD} (h : MAt K C H x m) (k : Same H H') : MAt K C H' x m := let ⟨dx, t, u, e, q⟩ := h; ⟨dx, t, u, k _ _ e, (same_tups k).parts q⟩
theorem StpsAt.snoc {vs : List V} {ss : List Stp} {p : Addr} {s : Stp} (h : StpsAt K H vs ss) (q : SqT K H p (stpV s)) : StpsAt K H (vs ++ [V.ref p]) (ss ++ [s]) := by
  refine ⟨by rw [List.length_append, List.length_append, h.1]; rfl, fun i t e => ?_⟩
  by_cases c : i < ss.length
  · rw [List.getElem?_append_left c] at e
    obtain ⟨r, e1, q1⟩ := h.2 i t e
    exact ⟨r, by rw [List.getElem?_append_left (by rw [h.1]; exact c)]; exact e1, q1⟩
  · rw [List.getElem?_append_right (by omega)] at e
    have z : i - ss.length = 0 := by
      have := (List.getElem?_eq_some_iff.mp e).1
      simp at this
      omega
    rw [z] at e
    cases e
    exact ⟨p, by rw [List.getElem?_append_right (by rw [h.1]; omega), h.1, z]; rfl, q⟩
end
/-! ### what a machine checks -/
def NotInt (K : PySem.W.Frag) (H : Hp) (v : V) : Prop := (∃ b, v = .bl b) ∨ ∃ t, TyX K H v t ∧ PySem.W.kitOne K t (.type "int") = some false
theorem k_isi {K : PySem.W.Frag} {H : Hp} {Q : VK} {x c : V} {t u : Value} {b : Bool} (hc : ClsV c u) (ht : TyX K H x t) (hk : PySem.W.kitOne K t u = some b) (h : Q (.bl b) H) : rIsi K [x, c] H Q := ⟨x, c, t, u, b, rfl, hc, ht, hk, h⟩
theorem k_chain {r r' : R2} {ta tb tc : TE} {σ : L2.St} {H : Hp} {Q : VK} (h : ta σ H fun x H1 => tb σ H1 fun y H2 => r x y H2 fun z H3 => ∃ k, z = .bl k ∧
  (if k = true then tc σ H3 fun w' H4 => r' y w' H4 Q else Q (.bl false) H3)) : tChain r r' ta tb tc σ H Q := h
def sp_whole (K : PySem.W.Frag) : Sp := fun vs H Q _ => ∃ v : V, vs = [v] ∧ ((∃ i, v = .int i ∧ Q (.bl true) H) ∨ (NotInt K H v ∧ Q (.bl false) H))
def sp_between (K : PySem.W.Frag) : Sp := fun vs H Q _ => ∃ (v : V) (lo hi : Int), vs = [v, .int lo, .int hi] ∧ ((∃ i, v = .int i ∧ Q (.bl (decide (lo ≤ i ∧ i ≤ hi))) H) ∨ (NotInt K H v ∧ Q (.bl false) H))
def sp_is_stand (K : PySem.W.Frag) : Sp := fun vs H Q _ => ∃ (v : V) (n : Int), vs = [.int n, v] ∧ ((∃ i, v = .int i ∧ Q (.bl (decide (0 ≤ i ∧ i < n))) H) ∨ (NotInt K H v ∧ Q (.bl false) H))
def sp_check_stands (K : PySem.W.Frag) : Sp := fun vs H Q _ => ∃ n : Int, vs = [.int n] ∧ 1 ≤ n ∧ n ≤ 8 ∧ Q .non H
section
variable {P : Program} {w : World} {K : PySem.W.Frag} {mg : Str → Option Value} {base : Heap}
theorem ok_is_whole_number (T : Txt K mg) : FnOk P w K mg base (L2.CX P w) 1 T.a_is_whole_number T.fd_is_whole_number ["value"] (sp_whole K) := by
  refine T.F_is_whole_number.okX sc_is_whole_number (fun vs H Q E h => ?_) (fun cdv A outer s H vs Q E hr h => ?_)
  · obtain ⟨v, rfl, _⟩ := h
    rfl
  · obtain ⟨v, rfl, k⟩ := h
    refine ⟨_, (PSs.nox (pss_one (ps_ret (pe_and (pe_callB call_isi (by rfl) T.z_isinstance (by decide +kernel) (pa_cons (pv 0) (pa_cons (pe_bltn (v := .ty "int") (by rfl) T.z_int (by decide +kernel) rfl) pa_nil))) (pe_one (pe_not (pe_callB call_isi (by rfl) T.z_isinstance (by decide +kernel) (pa_cons (pv 0) (pa_cons (pe_bltn (v := .ty "bool") (by rfl) T.z_bool (by decide +kernel) rfl) pa_nil))))))))), ?_⟩
    walk_at "begin"
    walk_at "go"
    rcases k with ⟨i, rfl, k⟩ | ⟨⟨b, rfl⟩ | ⟨t, ht, hk⟩, k⟩
    · refine k_isi (.ty _) (.base (.int i)) (kit_ty (b := "int") (r := true) (by decide +kernel)) ?_
      walk_at "go"
      refine iteT ?_
      walk_at "go"
      refine k_isi (.ty _) (.base (.int i)) (kit_ty (b := "bool") (r := false) (by decide +kernel)) ?_
      walk_at "go"
      exact k
    · refine k_isi (.ty _) (.base (.bl b)) (kit_ty (b := "int") (r := true) (by decide +kernel)) ?_
      walk_at "go"
      refine iteT ?_
      walk_at "go"
      refine k_isi (.ty _) (.base (.bl b)) (kit_ty (b := "bool") (r := true) (by decide +kernel)) ?_
      walk_at "go"
      exact k
    · refine k_isi (.ty _) ht hk ?_
      walk_at "go"
      exact iteF k
theorem ok_is_integer_between (T : Txt K mg) : FnOk P w K mg base (L2.CX P w) 2 T.a_is_integer_between T.fd_is_integer_between ["value", "least", "most"] (sp_between K) := by
  refine T.F_is_integer_between.okX sc_is_integer_between (fun vs H Q E h => ?_) (fun cdv A outer s H vs Q E hr h => ?_)
  · obtain ⟨v, lo, hi, rfl, _⟩ := h
    rfl
  · obtain ⟨v, lo, hi, rfl, k⟩ := h
    refine ⟨_, (PSs.nox (pss_one (ps_ret (pe_and (pe_call (ok_is_whole_number T) (hr.mono (by decide)) (by rfl) T.m_is_whole_number T.k_is_whole_number T.b_is_whole_number .nil passL (pa_cons (pv 0) pa_nil)) (pe_one (pe_chain op_le op_le (pv 1) (pv 0) (pv 2))))))), ?_⟩
    walk_at "begin"
    walk_at "go"
    rcases k with ⟨i, rfl, k⟩ | ⟨ni, k⟩
    · refine ⟨_, rfl, .inl ⟨i, rfl, ?_⟩⟩
      walk_at "go"
      refine iteT (k_chain ?_)
      walk_at "go"
      refine k_ite (fun c => ?_) (fun c => ?_)
      · walk_at "go"
        rw [decide_eq_decide.mpr (show lo ≤ i ∧ i ≤ hi ↔ i ≤ hi from ⟨fun z => z.2, fun z => ⟨c, z⟩⟩)] at k
        exact k
      · walk_at "go"
        rw [decide_eq_false (show ¬ (lo ≤ i ∧ i ≤ hi) from fun z => c z.1)] at k
        exact k
    · refine ⟨_, rfl, .inr ⟨ni, ?_⟩⟩
      walk_at "go"
      exact iteF k
theorem ok_is_stand (T : Txt K mg) : FnOk P w K mg base (L2.CX P w) 3 T.a_is_stand T.fd_is_stand ["stands", "value"] (sp_is_stand K) := by
  refine T.F_is_stand.okX sc_is_stand (fun vs H Q E h => ?_) (fun cdv A outer s H vs Q E hr h => ?_)
  · obtain ⟨v, n, rfl, _⟩ := h
    rfl
  · obtain ⟨v, n, rfl, k⟩ := h
    refine ⟨_, (PSs.nox (pss_one (ps_ret (pe_call (ok_is_integer_between T) (hr.mono (by decide)) (by rfl) T.m_is_integer_between T.k_is_integer_between T.b_is_integer_between .nil passL (pa_cons (pv 1) (pa_cons pe_int (pa_cons (pe_op op_sub (pv 0) pe_int) pa_nil))))))), ?_⟩
    walk_at "begin"
    walk_at "go"
    refine ⟨v, 0, n - 1, rfl, ?_⟩
    rcases k with ⟨i, rfl, k⟩ | ⟨ht, k⟩
    · refine .inl ⟨i, rfl, ?_⟩
      rw [decide_eq_decide.mpr (show (0 ≤ i ∧ i < n) ↔ (0 ≤ i ∧ i ≤ n - 1) by omega)] at k
      exact k
    · exact .inr ⟨ht, k⟩
theorem ok_check_stands (T : Txt K mg) : FnOk P w K mg base (L2.CX P w) 3 T.a_check_stands T.fd_check_stands ["stands"] (sp_check_stands K) := by
  refine T.F_check_stands.okX sc_check_stands (fun vs H Q E h => ?_) (fun cdv A outer s H vs Q E hr h => ?_)
  · obtain ⟨n, rfl, _⟩ := h
    rfl
  · obtain ⟨n, rfl, n1, n8, k⟩ := h
    refine ⟨_, (PSs.nox (pss_one (ps_if (pt_not (pt_val (pe_call (ok_is_integer_between T) (hr.mono (by decide)) (by rfl) T.m_is_integer_between T.k_is_integer_between T.b_is_integer_between .nil passL (pa_cons (pv 0) (pa_cons pe_int (pa_cons (pe_glob (by rfl) T.m_MOST_STANDS T.r_MOST_STANDS) pa_nil))))))
  (pss_one ps_never)
  pss_nil))), ?_⟩
    walk_at "begin"
    walk_at "go"
    refine ⟨_, 1, 8, rfl, .inl ⟨n, rfl, ?_⟩⟩
    rw [decide_eq_true (show 1 ≤ n ∧ n ≤ 8 from ⟨n1, n8⟩)]
    walk_at "go"
    refine iteF ?_
    walk_at "go"
    exact k
end
/-! ### (int, text) <= (int, text) -/
def le2 (i : Int) (s : Str) (j : Int) (t : Str) : Bool := if i = j then (if s = t then true else !decide (t.cps.toList < s.cps.toList)) else decide (i ≤ j)
def rLe2 (K : PySem.W.Frag) : R2 := fun x y H Q => ∃ (a b : Addr) (i j : Int) (s t : Str), x = .ref a ∧ y = .ref b ∧ SqT K H a [.int i, .str s] ∧ SqT K H b [.int j, .str t] ∧ Q (.bl (le2 i s j t)) H
theorem op_le2 {X : Cx} (hu : X.A.units < cLine) : OpR X (compareOp .LtE) (rLe2 X.K) := by
  rintro pins st σ H x y v u Q I rx ry ⟨a, b, i, j, s, t, rfl, rfl, ha, hb, q⟩
  cases rx
  cases ry
  obtain ⟨us, r1, p1, _⟩ := I.tuple ha
  obtain ⟨ws, r2, p2, _⟩ := I.tuple hb
  obtain ⟨u1, u2, rfl, ⟨k1, rfl⟩, ⟨k2, rfl⟩⟩ := vals2 r1
  obtain ⟨w1, w2, rfl, ⟨l1, rfl⟩, ⟨l2, rfl⟩⟩ := vals2 r2
  have R := Ob.RcOp.tuples_le (A := X.A) (s := st) (e := fun n => if n = 0 then (i == j) else decide (s = t)) (r := fun n => if n = 0 then decide (i ≤ j) else !decide (t.cps.toList < s.cps.toList)) p1 p2 hu
    (fun n h1 h2 => by
      have n2 : n < 2 := h1
      match n, n2 with
      | 0, _ => exact SeqAt.EqAt.int_int _ _ _ _
      | 1, _ => exact SeqAt.EqAt.str_str _ _ _ _)
    (fun n h1 h2 _ => by
      have n2 : n < 2 := h1
      match n, n2 with
      | 0, _ => exact Ob.RcOp.le_int _ _ _ _
      | 1, _ => exact fun prog w E Q hQ => PySem.P.le_str hQ)
  have z : Ob.lexAt (fun n => if n = 0 then (i == j) else decide (s = t)) (fun n => if n = 0 then decide (i ≤ j) else !decide (t.cps.toList < s.cps.toList)) (decide ((2 : Nat) ≤ 2)) 0 (min 2 2) = le2 i s j t := by
    show Ob.lexAt _ _ _ 0 2 = _
    rw [Ob.lexAt_succ]
    unfold le2
    by_cases c : i = j
    · have c' : (i == j) = true := beq_iff_eq.mpr c
      simp only [if_pos, c', if_pos c]
      rw [Ob.lexAt_succ]
      by_cases d : s = t
      · simp [d, Ob.lexAt_zero]
      · simp [d]
    · have c' : (i == j) = false := beq_eq_false_iff_ne.mpr c
      simp [c']
      exact fun z => absurd z c
  have R' := R X.prog X.w X.xe (EP X pins σ Q) ⟨.bl _, H, I, rfl, (by rw [← z] at q; exact q)⟩
  exact R'
/-! ### steps, ends, machines -/
theorem ty_tup {K : PySem.W.Frag} {H : Hp} {p : Addr} {xs : List V} (h : SqT K H p xs) : TyX K H (.ref p) (.type "tuple") := by
  rcases h with (h | ⟨o, h⟩) | ⟨o, its, n, h, hc, _⟩
  · exact .base (.tup h)
  · exact .fTuple h
  · exact .kTuple h hc
theorem k_in {K : PySem.W.Frag} {neg : Bool} {H : Hp} {Q : VK} {p : Addr} {x : V} {xs : List V} (h : SqL K H p xs ∨ SqT K H p xs) (fx : flatV x = true) (fa : xs.all flatV = true) (q : Q (.bl (if neg then !inV x xs else inV x xs)) H) : rIn K neg x (.ref p) H Q := ⟨p, xs, rfl, h, fx, fa, q⟩
theorem letter_in {c : Nat} (h : 97 ≤ c) (h' : c ≤ 100) : inV (.str ⟨#[c]⟩) [V.str "a", V.str "b", V.str "c", V.str "d"] = true := by
  have z : c = 97 ∨ c = 98 ∨ c = 99 ∨ c = 100 := by omega
  rcases z with rfl | rfl | rfl | rfl <;> decide
theorem k_slA2 {K : PySem.W.Frag} {H : Hp} {Q : VK} {a : Addr} {x y z u : V} (h : SqT K H a [x, y, z, u]) (q : ∀ p, H p = none → Q (.ref p) (upd H p (.tup [x, y]))) : rSlA K (.ref a) none (some 2) H Q :=
  ⟨a, _, rfl, h, fun e => absurd e (by show ¬ ((0 : Nat) = 0 ∧ (2 : Nat) = 4); decide), fun _ p hp => q p hp⟩
theorem le2_no {s t : Stp} (h : s.lt t) : le2 (t.b : Nat) ⟨#[t.c]⟩ (s.b : Nat) ⟨#[s.c]⟩ = false := by
  unfold le2
  rcases h with h | ⟨h1, h2⟩
  · rw [if_neg (by omega), decide_eq_false (by omega)]
  · rw [if_pos (by omega), if_neg (by intro z; injection z with z; simp at z; omega)]
    simp
    exact List.Lex.rel h2
theorem few {n : Nat} (k : Nat) (h : k < 1000) (q : n ≤ k) : n < 1000 := Nat.lt_of_le_of_lt q h
def sp_is_step (K : PySem.W.Frag) : Sp := fun vs H Q _ => ∃ (n : Nat) (p : Addr) (s : Stp), vs = [.int (n : Nat), .ref p] ∧ SqT K H p (stpV s) ∧ s.Ok n ∧ Q (.bl true) H
def sp_check_steps (K : PySem.W.Frag) : Sp := fun vs H Q _ => ∃ (t : Addr) (us : List V) (m : MD), vs = [.int (m.n : Nat), .ref t] ∧ SqT K H t us ∧ StpsAt K H us m.ss ∧ m.Ok ∧ ∀ H', Same H H' → Q .non H'
def sp_check_ends (K : PySem.W.Frag) : Sp := fun vs H Q _ => ∃ (t : Addr) (m : MD), vs = [.int (m.n : Nat), .ref t] ∧ SqT K H t (nats m.es) ∧ m.Ok ∧ ∀ H', Same H H' → Q .non H'
/-- whether values are ascending integers from l to below n -/
def ascV (n : Int) : Int → List V → Bool
  | _, [] => true
  | l, .int j :: r => decide (l ≤ j ∧ j ≤ n - 1) && ascV n (j + 1) r
  | _, _ => false
theorem ascV_odd {n l : Int} {x : V} {r : List V} (h : ∀ j, x ≠ .int j) : ascV n l (x :: r) = false := by
  cases x with
  | int j => exact (h j rfl).elim
  | _ => rfl
theorem ascV_nats {n : Nat} : ∀ {es : List Nat} {l : Nat}, (∀ e ∈ es, e < n) → es.Pairwise (· < ·) → (∀ e ∈ es, l ≤ e) → ascV (n : Nat) (l : Nat) (nats es) = true
  | [], _, _, _, _ => rfl
  | e :: es, l, h1, h2, h3 => by
    show (decide (((l : Nat) : Int) ≤ (e : Nat) ∧ ((e : Nat) : Int) ≤ (n : Nat) - 1) && ascV (n : Nat) (((e + 1 : Nat)) : Int) (nats es)) = true
    have a := h1 e (List.mem_cons_self ..)
    have b := h3 e (List.mem_cons_self ..)
    have c := List.pairwise_cons.mp h2
    rw [decide_eq_true (by omega), ascV_nats (fun x hx => h1 x (List.mem_cons_of_mem _ hx)) c.2 (fun x hx => c.1 x hx)]
    rfl
def sp_asc (K : PySem.W.Frag) : Sp := fun vs H Q _ => ∃ (v : V) (n : Int), vs = [v, .int n] ∧ ((∃ ty, TyX K H v ty ∧ PySem.W.kitOne K ty (.type "tuple") = some false ∧ Q (.bl false) H) ∨
  ∃ t xs, v = .ref t ∧ SqT K H t xs ∧ (∀ x ∈ xs, (∃ j, x = .int j) ∨ (NotInt K H x ∧ ∀ j, x ≠ .int j)) ∧ Q (.bl (ascV n 0 xs)) H)
def sp_init (K : PySem.W.Frag) (C : Addr) : Sp := fun vs H Q _ => ∃ (x dx t u : Addr) (m : MD), vs = [.ref x, .int (m.n : Nat), .ref t, .ref u] ∧ H x = some (.ins C dx []) ∧ PartsAt K H t u m ∧ m.Ok ∧
  ∀ H', Keep x H H' → H' x = some (.ins C dx (mfs m.n t u)) → Q .non H'
def sp_machine (K : PySem.W.Frag) (C : Addr) : Sp := fun vs H Q _ => ∃ (d : Addr) (m : MD), vs = [.ref d] ∧ DAt K H d m ∧ m.Ok ∧ ∀ x H', Same H H' → H x = none → MAt K C H' x m → Q (.ref x) H'
section
variable {P : Program} {w : World} {K : PySem.W.Frag} {mg : Str → Option Value} {base : Heap}
theorem ok_is_step (T : Txt K mg) : FnOk P w K mg base (L2.CX P w) 4 T.a_is_step T.fd_is_step ["stands", "value"] (sp_is_step K) := by
  refine T.F_is_step.okX sc_is_step (fun vs H Q E h => ?_) (fun cdv A outer s H vs Q E hr h => ?_)
  · obtain ⟨n, p, s, rfl, _⟩ := h
    rfl
  · obtain ⟨n, p, t, rfl, hp, o, k⟩ := h
    refine ⟨_, (PSs.nox (pss_cons (ps_if (PW.pt (pw_or (pt_not (pt_val (pe_callB call_isi (by rfl) T.z_isinstance (by decide +kernel) (pa_cons (pv 1) (pa_cons (pe_bltn (v := .ty "tuple") (by rfl) T.z_tuple (by decide +kernel) rfl) pa_nil))))) (pw_or1 (pt_cmpR op_ne (pe_callB call_len_seq (by rfl) T.z_len PySem.boot_len (pa_cons (pv 1) pa_nil)) pe_int (nomark _)))))
  (pss_one (ps_ret pe_bl))
  pss_nil)
  (pss_cons (ps_asg (pv 1) (pg_tup rfl (pgs_cons (pg_name (i := 2) sc_is_step.nd rfl (Or.inl rfl)) (pgs_cons (pg_name (i := 3) sc_is_step.nd rfl (Or.inl rfl)) (pgs_cons (pg_name (i := 4) sc_is_step.nd rfl (Or.inl rfl)) (pgs_cons (pg_name (i := 5) sc_is_step.nd rfl (Or.inl rfl)) pgs_nil))))))
  (pss_one (ps_ret (pe_and (pe_call (ok_is_stand T) (hr.mono (by decide)) (by rfl) T.m_is_stand T.k_is_stand T.b_is_stand .nil passL (pa_cons (pv 0) (pa_cons (pv 2) pa_nil))) (pe_and (pe_cmpR op_in_seq (pv 3) (pe_glob (by rfl) T.m_LETTERS T.r_LETTERS) (by rfl)) (pe_and (pe_call (ok_is_stand T) (hr.mono (by decide)) (by rfl) T.m_is_stand T.k_is_stand T.b_is_stand .nil passL (pa_cons (pv 0) (pa_cons (pv 4) pa_nil))) (pe_one (pe_call (ok_is_integer_between T) (hr.mono (by decide)) (by rfl) T.m_is_integer_between T.k_is_integer_between T.b_is_integer_between .nil passL (pa_cons (pv 5) (pa_cons (pe_un un_neg (pe_glob (by rfl) T.m_MOST_GAIN T.r_MOST_GAIN)) (pa_cons (pe_glob (by rfl) T.m_MOST_GAIN T.r_MOST_GAIN) pa_nil))))))))))))), ?_⟩
    walk_at "begin"
    walk_at "go"
    refine k_isi (.ty _) (ty_tup hp) (kit_ty (b := "tuple") (r := true) (by decide +kernel)) ?_
    walk_at "go"
    refine iteF ?_
    walk_at "go"
    refine k_len (.inr hp) ?_
    walk_at "go"
    refine iteF ?_
    walk_at "go"
    refine k_gt hp rfl ?_
    unfold stpV
    walk_at "go"
    refine ⟨_, _, rfl, .inl ⟨_, rfl, ?_⟩⟩
    rw [decide_eq_true (show 0 ≤ ((t.b : Nat) : Int) ∧ ((t.b : Nat) : Int) < (n : Nat) from ⟨Int.natCast_nonneg _, by have := o.b; omega⟩)]
    walk_at "go"
    refine iteT ?_
    walk_at "go"
    refine k_in (.inr (T.s_LETTERS _)) rfl (by decide) ?_
    rw [letter_in o.c o.c']
    walk_at "go"
    refine iteT ?_
    walk_at "go"
    refine ⟨_, _, rfl, .inl ⟨_, rfl, ?_⟩⟩
    rw [decide_eq_true (show 0 ≤ ((t.e : Nat) : Int) ∧ ((t.e : Nat) : Int) < (n : Nat) from ⟨Int.natCast_nonneg _, by have := o.e; omega⟩)]
    walk_at "go"
    refine iteT ?_
    walk_at "go"
    refine ⟨_, _, _, rfl, .inl ⟨_, rfl, ?_⟩⟩
    rw [decide_eq_true (show -1000000000000000000000000000000 ≤ t.g ∧ t.g ≤ 1000000000000000000000000000000 from ⟨by have := o.g; omega, by have := o.g'; omega⟩)]
    exact k
theorem ok_check_steps (T : Txt K mg) : FnOk P w K mg base (L2.CX P w) 5 T.a_check_steps T.fd_check_steps ["stands", "steps"] (sp_check_steps K) := by
  refine T.F_check_steps.okX sc_check_steps (fun vs H Q E h => ?_) (fun cdv A outer s H vs Q E hr h => ?_)
  · obtain ⟨t, us, m, rfl, _⟩ := h
    rfl
  · obtain ⟨t, us, m, rfl, ht, hs, o, k⟩ := h
    refine ⟨_, (PSs.nox (pss_cons (ps_if (pt_not (pt_val (pe_callB call_isi (by rfl) T.z_isinstance (by decide +kernel) (pa_cons (pv 1) (pa_cons (pe_bltn (v := .ty "tuple") (by rfl) T.z_tuple (by decide +kernel) rfl) pa_nil)))))
  (pss_one ps_never)
  pss_nil)
  (pss_one (ps_for PassesOwn.never rfl (pi_enumT (by rfl) T.z_enumerate (pa_cons (pv 1) pa_nil)) (pg_tup rfl (pgs_cons (pg_name (i := 2) sc_check_steps.nd rfl (Or.inl rfl)) (pgs_cons (pg_name (i := 3) sc_check_steps.nd rfl (Or.inl rfl)) pgs_nil)))
  (pss_cons (ps_if (pt_not (pt_val (pe_call (ok_is_step T) (hr.mono (by decide)) (by rfl) T.m_is_step T.k_is_step T.b_is_step .nil passL (pa_cons (pv 0) (pa_cons (pv 3) pa_nil)))))
  (pss_one ps_never)
  pss_nil)
  (pss_one (ps_if (PW.pt (pw_and (pt_cmpR op_gt (pv 2) pe_int (nomark _)) (pw_and1 (pt_cmpR (op_le2 hr.units0) (pe_slice sl_tupA (pv 3) po_none (po_some pe_int)) (pe_slice sl_tupA (pe_ix ix_tup (pv 1) (pe_op op_sub (pv 2) pe_int) (fun _ _ => rfl)) po_none (po_some pe_int)) (nomark _)))))
  (pss_one ps_never)
  pss_nil))))))), ?_⟩
    walk_at "begin"
    walk_at "go"
    refine k_isi (.ty _) (ty_tup ht) (kit_ty (b := "tuple") (r := true) (by decide +kernel)) ?_
    walk_at "go"
    refine iteF ?_
    walk_at "go"
    refine ⟨_, rfl, t, us, rfl, ht, for_enumT (xs := us) (fun i σ H' => Same H H' ∧ ∃ a b, σ = [some (.int (m.n : Nat)), some (.ref t), a, b]) ⟨Same.refl _, _, _, rfl⟩ (fun i σ H' _ ⟨z, _⟩ => (same_tups z).sq ht) ?_ ?_⟩
    · rintro i x p σ H1 hx ⟨z, a, b, rfl⟩ hp
      have il : i < m.ss.length := by rw [← hs.1]; exact (List.getElem?_eq_some_iff.mp hx).1
      obtain ⟨q, eq, hq⟩ := hs.2 i _ (List.getElem?_eq_getElem il)
      rw [hx] at eq
      cases eq
      have z1 : Same H (upd H1 p (.tup [.int (i : Nat), .ref q])) := z.trans (Same.new hp)
      have hq1 := (same_tups z1).sq hq
      have ok1 := o.ok _ (List.getElem_mem il)
      refine k_gt (SqT.of upd_same) rfl ?_
      walk_at "go"
      refine ⟨m.n, q, _, rfl, hq1, ok1, ?_⟩
      walk_at "go"
      refine iteF ?_
      walk_at "go"
      refine k_ite (fun c => ?_) (fun c => iteF ?_)
      · walk_at "go"
        have jl : i - 1 < m.ss.length := by omega
        obtain ⟨q2, eq2, hq2⟩ := hs.2 (i - 1) _ (List.getElem?_eq_getElem jl)
        refine k_slA2 hq1 fun p1 n1 => ?_
        have z2 := z1.trans (Same.new (o := .tup [.int ((m.ss[i]'il).b : Nat), .str ⟨#[(m.ss[i]'il).c]⟩]) n1)
        walk_at "go"
        refine k_ixT ((same_tups z2).sq ht) (v := .ref q2) (at_of (j := i - 1) (by omega) eq2) ?_
        walk_at "go"
        refine k_slA2 ((same_tups z2).sq hq2) fun p2 n2 => ?_
        have z3 := z2.trans (Same.new (o := .tup [.int ((m.ss[i - 1]'jl).b : Nat), .str ⟨#[(m.ss[i - 1]'jl).c]⟩]) n2)
        refine ⟨p1, p2, _, _, _, _, rfl, rfl, SqT.of (Same.new n2 _ _ upd_same), SqT.of upd_same, ?_⟩
        · have up := List.pairwise_iff_getElem.mp o.up (i - 1) i jl il (by omega)
          rw [le2_no up]
          walk_at "go"
          refine iteF ?_
          walk_at "go"
          exact ⟨z3, _, _, rfl⟩
      · walk_at "go"
        exact ⟨z1, _, _, rfl⟩
    · rintro σ H1 ⟨z, _⟩
      exact k H1 z
theorem ok_is_ascending (T : Txt K mg) : FnOk P w K mg base (L2.CX P w) 3 T.a_is_ascending T.fd_is_ascending ["value", "many"] (sp_asc K) := by
  refine T.F_is_ascending.okX sc_is_ascending (fun vs H Q E h => ?_) (fun cdv A outer s H vs Q E hr h => ?_)
  · obtain ⟨v, n, rfl, _⟩ := h
    rfl
  · obtain ⟨v, n, rfl, h⟩ := h
    refine ⟨_, (PSs.nox (pss_cons (ps_if (pt_not (pt_val (pe_callB call_isi (by rfl) T.z_isinstance (by decide +kernel) (pa_cons (pv 0) (pa_cons (pe_bltn (v := .ty "tuple") (by rfl) T.z_tuple (by decide +kernel) rfl) pa_nil)))))
  (pss_one (ps_ret pe_bl))
  pss_nil)
  (pss_cons (ps_set (i := 2) sc_is_ascending.nd rfl (Or.inl rfl) pe_int)
  (pss_cons (ps_for PassesOwn.never rfl (pi_tup (pv 0)) (pg_name (i := 3) sc_is_ascending.nd rfl (Or.inl rfl))
  (pss_cons (ps_if (pt_not (pt_val (pe_call (ok_is_integer_between T) (hr.mono (by decide)) (by rfl) T.m_is_integer_between T.k_is_integer_between T.b_is_integer_between .nil passL (pa_cons (pv 3) (pa_cons (pv 2) (pa_cons (pe_op op_sub (pv 1) pe_int) pa_nil))))))
  (pss_one (ps_ret pe_bl))
  pss_nil)
  (pss_one (ps_set (i := 2) sc_is_ascending.nd rfl (Or.inl rfl) (pe_op op_add (pv 3) pe_int)))))
  (pss_one (ps_ret pe_bl)))))), ?_⟩
    walk_at "begin"
    walk_at "go"
    rcases h with ⟨ty, h1, h2, k⟩ | ⟨t, xs, rfl, ht, hx, k⟩
    · refine k_isi (.ty _) h1 h2 ?_
      walk_at "go"
      refine iteT ?_
      walk_at "go"
      exact k
    · refine k_isi (.ty _) (ty_tup ht) (kit_ty (b := "tuple") (r := true) (by decide +kernel)) ?_
      walk_at "go"
      refine iteF ?_
      walk_at "go"
      refine ⟨t, rfl, ⟨_, ht⟩, ?_⟩
      refine for_tup (xs := xs) (fun i σ H' => H' = H ∧ ∃ (l : Int) (a : Option V), σ = [some (.ref t), some (.int n), some (.int l), a] ∧ ascV n 0 xs = ascV n l (xs.drop i)) ⟨rfl, 0, _, rfl, rfl⟩ (fun i σ H' _ ⟨e, _⟩ => by rw [e]; exact ht) ?_ ?_
      · rintro i x σ H1 hx1 ⟨rfl, l, a, rfl, eq⟩
        have il : i < xs.length := (List.getElem?_eq_some_iff.mp hx1).1
        have dr : xs.drop i = x :: xs.drop (i + 1) := by rw [List.drop_eq_getElem_cons il, (List.getElem?_eq_some_iff.mp hx1).2]
        rw [dr] at eq
        walk_at "go"
        rcases hx x (List.mem_of_getElem? hx1) with ⟨j, rfl⟩ | ⟨ni, nj⟩
        · refine ⟨_, _, _, rfl, .inl ⟨j, rfl, ?_⟩⟩
          by_cases c : l ≤ j ∧ j ≤ n - 1
          · rw [decide_eq_true c]
            walk_at "go"
            refine iteF ?_
            walk_at "go"
            refine ⟨rfl, _, _, rfl, ?_⟩
            rw [eq]
            show (decide (l ≤ j ∧ j ≤ n - 1) && ascV n (j + 1) (xs.drop (i + 1))) = _
            rw [decide_eq_true c]
            rfl
          · rw [decide_eq_false c]
            walk_at "go"
            refine iteT ?_
            walk_at "go"
            have e2 : ascV n 0 xs = false := by
              rw [eq]
              show (decide (l ≤ j ∧ j ≤ n - 1) && ascV n (j + 1) (xs.drop (i + 1))) = _
              rw [decide_eq_false c]
              rfl
            rw [e2] at k
            exact k
        · refine ⟨_, _, _, rfl, .inr ⟨ni, ?_⟩⟩
          walk_at "go"
          refine iteT ?_
          walk_at "go"
          have e2 : ascV n 0 xs = false := by
            rw [eq]
            exact ascV_odd nj
          rw [e2] at k
          exact k
      · rintro σ H1 ⟨rfl, l, a, rfl, eq⟩
        rw [List.drop_length] at eq
        rw [eq] at k
        walk_at "go"
        exact k
theorem ok_check_ends (T : Txt K mg) : FnOk P w K mg base (L2.CX P w) 4 T.a_check_ends T.fd_check_ends ["stands", "ends"] (sp_check_ends K) := by
  refine T.F_check_ends.okX sc_check_ends (fun vs H Q E h => ?_) (fun cdv A outer s H vs Q E hr h => ?_)
  · obtain ⟨t, m, rfl, _⟩ := h
    rfl
  · obtain ⟨t, m, rfl, ht, o, k⟩ := h
    refine ⟨_, (PSs.nox (pss_one (ps_if (pt_not (pt_val (pe_call (ok_is_ascending T) (hr.mono (by decide)) (by rfl) T.m_is_ascending T.k_is_ascending T.b_is_ascending .nil passL (pa_cons (pv 1) (pa_cons (pv 0) pa_nil)))))
  (pss_one ps_never)
  pss_nil))), ?_⟩
    walk_at "begin"
    walk_at "go"
    refine ⟨_, _, rfl, .inr ⟨t, _, rfl, ht, fun x h => ?_, ?_⟩⟩
    · obtain ⟨e, _, rfl⟩ := List.mem_map.mp h
      exact .inl ⟨_, rfl⟩
    rw [show ascV (m.n : Nat) 0 (nats m.es) = true from ascV_nats (l := 0) (fun e h => o.eb e h) o.eu (fun _ _ => Nat.zero_le _)]
    walk_at "go"
    refine iteF ?_
    walk_at "go"
    exact k H (Same.refl _)
theorem ok_Machine_init (T : Txt K mg) : FnOk P w K mg base (L2.CX P w) 6 T.a_Machine_init T.fd_Machine_init ["self", "stands", "steps", "ends"] (sp_init K T.c_Machine) := by
  refine T.F_Machine_init.okX sc_Machine_init (fun vs H Q E h => ?_) (fun cdv A outer s H vs Q E hr h => ?_)
  · obtain ⟨x, dx, t, u, m, rfl, _⟩ := h
    rfl
  · obtain ⟨x, dx, t, u, m, rfl, hx, ⟨⟨us, ht, hs⟩, hu⟩, o, k⟩ := h
    refine ⟨_, (PSs.nox (pss_cons (ps_expr (pe_call (ok_check_stands T) (hr.mono (by decide)) (by rfl) T.m_check_stands T.k_check_stands T.b_check_stands .nil passL (pa_cons (pv 1) pa_nil)))
  (pss_cons (ps_expr (pe_call (ok_check_steps T) (hr.mono (by decide)) (by rfl) T.m_check_steps T.k_check_steps T.b_check_steps .nil passL (pa_cons (pv 1) (pa_cons (pv 2) pa_nil))))
  (pss_cons (ps_expr (pe_call (ok_check_ends T) (hr.mono (by decide)) (by rfl) T.m_check_ends T.k_check_ends T.b_check_ends .nil passL (pa_cons (pv 1) (pa_cons (pv 3) pa_nil))))
  (pss_cons (ps_fld (pv 0) (pv 1) rfl)
  (pss_cons (ps_fld (pv 0) (pv 2) rfl)
  (pss_one (ps_fld (pv 0) (pv 3) rfl)))))))), ?_⟩
    walk_at "begin"
    walk_at "go"
    refine ⟨_, rfl, by have := o.n1; omega, by have := o.n8; omega, ?_⟩
    walk_at "go"
    refine ⟨t, us, m, rfl, ht, hs, o, fun H1 z1 => ?_⟩
    walk_at "go"
    refine ⟨u, m, rfl, (same_tups z1).sq hu, o, fun H2 z2 => ?_⟩
    walk_at "go"
    have e2 : H2 x = some (.ins T.c_Machine dx []) := z2 _ _ (z1 _ _ hx)
    refine ⟨_, rfl, _, rfl, x, _, dx, _, rfl, e2, T.cl_Machine, T.n__stands, (by decide : 0 < 1000), ?_⟩
    refine ⟨_, rfl, _, rfl, x, _, dx, _, rfl, upd_same, T.cl_Machine, T.n__steps, few 1 (by decide) (length_putF _ _ _), ?_⟩
    refine ⟨_, rfl, _, rfl, x, _, dx, _, rfl, upd_same, T.cl_Machine, T.n__ends, few 2 (by decide) (Nat.le_trans (length_putF _ _ _) (Nat.succ_le_succ (length_putF _ _ _))), ?_⟩
    refine k _ (((Keep.of_same (z1.trans z2)).trans Keep.at_).trans (Keep.at_.trans Keep.at_)) ?_
    rw [upd_same]
    rfl
theorem ok_law_machine (T : Txt K mg) : FnOk P w K mg base (L2.CX P w) 8 T.a_law_machine T.fd_law_machine ["_law_d"] (sp_machine K T.c_Machine) := by
  refine T.F_law_machine.okX sc_law_machine (fun vs H Q E h => ?_) (fun cdv A outer s H vs Q E hr h => ?_)
  · obtain ⟨d, m, rfl, _⟩ := h
    rfl
  · obtain ⟨d, m, rfl, ⟨t, u, hd, hp⟩, o, k⟩ := h
    refine ⟨_, (PSs.nox (pss_one (ps_ret (pe_make T.mk_Machine (ok_Machine_init T) (hr.mono (by decide)) (by rfl) T.m_Machine T.b_Machine_init .nil passL (pa_cons (pe_dget (hu_of hr) (pv 0) pe_str (fun _ _ => rfl)) (pa_cons (pe_dget (hu_of hr) (pv 0) pe_str (fun _ _ => rfl)) (pa_cons (pe_dget (hu_of hr) (pv 0) pe_str (fun _ _ => rfl)) pa_nil))))))), ?_⟩
    walk_at "begin"
    walk_at "go"
    refine ⟨d, .int (m.n : Nat), rfl, DGet.k (k := .inr "stands") hd, ?_⟩
    walk_at "go"
    refine ⟨d, .ref t, rfl, DGet.k (k := .inr "steps") hd, ?_⟩
    walk_at "go"
    refine ⟨d, .ref u, rfl, DGet.k (k := .inr "ends") hd, ?_⟩
    walk_at "go"
    intro x dx hx hdx ne
    refine ⟨x, dx, t, u, m, rfl, upd_same, (same_tups ((Same.new hdx).trans (Same.new ?_))).parts hp, o, fun H' z e => ⟨rfl, ?_⟩⟩
    · rw [upd_ne ne.symm]; exact hx
    · have zz : Same H H' := fun b ob eb => z b ob (ne_of_none eb hx) (by rw [upd_ne (ne_of_none eb hx), upd_ne (ne_of_none eb hdx)]; exact eb)
      exact k x H' zz hx ⟨dx, t, u, e, (same_tups zz).parts hp⟩
end
/-! ### steps in a tuple or in a list -/
def SqS (K : PySem.W.Frag) (H : Hp) (a : Addr) (xs : List V) : Prop := SqT K H a xs ∨ SqL K H a xs
theorem SqS.same {K : PySem.W.Frag} {H H' : Hp} {a : Addr} {xs : List V} (h : SqS K H a xs) (z : Same H H') : SqS K H' a xs := h.imp (fun h => (same_tups z).sq h) fun h => z.seq h
def StSq (K : PySem.W.Frag) (H : Hp) (t : Addr) (ss : List Stp) : Prop := ∃ us, SqS K H t us ∧ StpsAt K H us ss
theorem StSq.of {K : PySem.W.Frag} {H : Hp} {t : Addr} {ss : List Stp} (h : StAt K H t ss) : StSq K H t ss := let ⟨us, a, b⟩ := h; ⟨us, .inl a, b⟩
theorem StSq.same {K : PySem.W.Frag} {H H' : Hp} {t : Addr} {ss : List Stp} (h : StSq K H t ss) (z : Same H H') : StSq K H' t ss := let ⟨us, a, b⟩ := h; ⟨us, a.same z, (same_tups z).steps b⟩
def iSq (K : PySem.W.Frag) (tl : TE) : TI := fun σ H R => iTup K tl σ H R ∨ iList K tl σ H R
theorem pi_sq {X : L2.Cx} {tg l : Expr} {tl : TE} (hl : PE X l tl) : PI X tg l (iSq X.K tl) := ⟨fun pins s σ H R I h => h.elim ((pi_tup hl).run pins s σ H R I) ((pi_list hl).run pins s σ H R I)⟩
theorem for_sq {K : PySem.W.Frag} {t : Addr} {xs : List V} {j : Nat} {g : TG} {tb : TS} {D : Ends} {σ : L2.St} {H Hb : Hp} (e : σ[j]? = some (some (.ref t))) (hx : SqS K Hb t xs) (Pv : Nat → L2.St → Hp → Prop) (h0 : Pv 0 σ H) (hl : ∀ i σ H, Pv i σ H → Same Hb H)
    (hs : ∀ i x σ H, xs[i]? = some x → Pv i σ H → g x σ H fun σ2 H2 => tb { D with nx := Pv (i + 1), ct := Pv (i + 1), bk := D.nx } σ2 H2) (hd : ∀ σ H, Pv xs.length σ H → D.nx σ H) :
    iSq K (tVar j) σ H fun J H1 => ∃ W : Nat → Nat → L2.St → Hp → Prop, (∃ m, W 0 m σ H1) ∧ ∀ i m σ H, W i m σ H →
      (J.stop i H ∧ D.nx σ H) ∨ (J.go i H ∧ ∃ N : L2.St → Hp → Prop, (∀ σ' H', N σ' H' → ∃ m', m' < m ∧ W (i + 1) m' σ' H') ∧ ∀ x H', J.yld i H x H' → g x σ H' fun σ2 H2 => tb { D with nx := N, ct := N, bk := D.nx } σ2 H2) := by
  have z0 := hl _ _ _ h0
  rcases hx with hx | hx
  · exact .inl (k_var e ⟨t, rfl, ⟨xs, (same_tups z0).sq hx⟩, for_tup Pv h0 (fun i σ H _ p => (same_tups (hl _ _ _ p)).sq hx) hs hd⟩)
  · exact .inr (k_var e ⟨t, rfl, ⟨xs, z0.seq hx⟩, for_list Pv h0 (fun i σ H _ p => (hl _ _ _ p).seq hx) hs hd⟩)
/-! ### the drawn machines -/
def sp_parts (K : PySem.W.Frag) : Sp := fun vs H Q _ => ∃ (a : Addr) (st : Nat) (sz : Int), vs = [.ref a, .int (st : Nat), .int sz] ∧ 1 ≤ st ∧ st ≤ 8 ∧ 0 ≤ sz ∧ 2 * sz + 1 ≤ 10 ^ 30 ∧ RowOk K H a ∧
  ∀ (d : Addr) (m : MD) (H' : Hp), m.Ok → m.n ≤ st → (∀ s ∈ m.ss, -(2 * sz + 1) ≤ s.g ∧ s.g ≤ 2 * sz + 1) → DAt K H' d m → RowOk K H' a → Keep a H H' → H d = none → Q (.ref d) H'
theorem abcd_cut {k : Nat} (h1 : 1 ≤ k) (h4 : k ≤ 4) : cutS "abcd" none (some ((k : Nat) : Int)) = ⟨(([97, 98, 99, 100] : List Nat).take k).toArray⟩ := by
  have z : k = 1 ∨ k = 2 ∨ k = 3 ∨ k = 4 := by omega
  rcases z with rfl | rfl | rfl | rfl <;> decide
theorem abcd_at {k j c : Nat} (h : (([97, 98, 99, 100] : List Nat).take k).toArray[j]? = some c) : c = 97 + j ∧ j < 4 := by
  rw [List.getElem?_toArray, List.getElem?_take] at h
  split at h
  · match j, h with
    | 0, h => simp at h; omega
    | 1, h => simp at h; omega
    | 2, h => simp at h; omega
    | 3, h => simp at h; omega
    | n + 4, h => simp at h
  · cases h
/-- the steps so far: of the stands below i, and of i by the first j letters -/
structure Sofar (K : PySem.W.Frag) (H : Hp) (l : Addr) (n : Nat) (sz : Int) (i j : Nat) (ss : List Stp) : Prop where
  at_ : ∃ vs, H l = some (.lst vs) ∧ StpsAt K H vs ss
  ok : ∀ s ∈ ss, s.Ok n
  up : ss.Pairwise Stp.lt
  bd : ∀ s ∈ ss, s.b < i ∨ (s.b = i ∧ s.c < 97 + j)
  gb : ∀ s ∈ ss, -(2 * sz + 1) ≤ s.g ∧ s.g ≤ 2 * sz + 1
  len : ss.length ≤ 4 * i + j
theorem Sofar.keep {K : PySem.W.Frag} {H H' : Hp} {l a : Addr} {n i j : Nat} {sz : Int} {ss : List Stp} {xs : List V} (h : Sofar K H l n sz i j ss) (k : Keep a H H') (ha : H a = some (.lst xs)) (ne : l ≠ a) : Sofar K H' l n sz i j ss :=
  let ⟨vs, e, q⟩ := h.at_
  ⟨⟨vs, k _ _ ne e, (k.tups ha).steps q⟩, h.ok, h.up, h.bd, h.gb, h.len⟩
theorem Sofar.more {K : PySem.W.Frag} {H : Hp} {l : Addr} {n i j j' : Nat} {sz : Int} {ss : List Stp} (h : Sofar K H l n sz i j ss) (e : j ≤ j') : Sofar K H l n sz i j' ss :=
  ⟨h.at_, h.ok, h.up, fun s hs => (h.bd s hs).imp id fun z => ⟨z.1, by omega⟩, h.gb, by have := h.len; omega⟩
theorem Sofar.line {K : PySem.W.Frag} {H : Hp} {l : Addr} {n i j : Nat} {sz : Int} {ss : List Stp} (h : Sofar K H l n sz i j ss) (e : j ≤ 4) : Sofar K H l n sz (i + 1) 0 ss :=
  ⟨h.at_, h.ok, h.up, fun s hs => .inl (by rcases h.bd s hs with z | z <;> omega), h.gb, by have := h.len; omega⟩
theorem Sofar.snoc {K : PySem.W.Frag} {H : Hp} {l p : Addr} {n i j e : Nat} {sz g : Int} {ss : List Stp} (h : Sofar K H l n sz i j ss) (hp : H p = none) (hi : i < n) (hj : j < 4) (he : e < n) (z1 : 2 * sz + 1 ≤ 10 ^ 30)
    (g1 : -(2 * sz + 1) ≤ g) (g2 : g ≤ 2 * sz + 1) : ∀ vs, H l = some (.lst vs) →
    Sofar K (upd (upd H p (.tup (stpV ⟨i, 97 + j, e, g⟩))) l (.lst (vs ++ [.ref p]))) l n sz i (j + 1) (ss ++ [⟨i, 97 + j, e, g⟩]) := fun vs ev => by
  obtain ⟨vs', e', q⟩ := h.at_
  rw [ev] at e'
  cases e'
  have np : l ≠ p := ne_of_none ev hp
  have t1 : Tups H (upd H p (.tup (stpV ⟨i, 97 + j, e, g⟩))) := Tups.new hp
  have el : (upd H p (.tup (stpV ⟨i, 97 + j, e, g⟩))) l = some (.lst vs) := by rw [upd_ne np]; exact ev
  have t2 := Tups.lst (o := .lst (vs ++ [.ref p])) el
  have mem : ∀ s, s ∈ ss ++ [(⟨i, 97 + j, e, g⟩ : Stp)] → s ∈ ss ∨ s = ⟨i, 97 + j, e, g⟩ := fun s hs => by simpa using hs
  refine ⟨⟨_, upd_same, (t2.steps ((t1.steps q).snoc (SqT.of upd_same)))⟩, fun s hs => ?_, ?_, fun s hs => ?_, fun s hs => ?_, ?_⟩
  · rcases mem s hs with hs | rfl
    · exact h.ok s hs
    · exact ⟨hi, by show 97 ≤ 97 + j; omega, by show 97 + j ≤ 100; omega, he, by show -(10 ^ 30) ≤ g; omega, by show g ≤ 10 ^ 30; omega⟩
  · refine List.pairwise_append.mpr ⟨h.up, List.pairwise_singleton _ _, fun s hs t ht => ?_⟩
    have ht' : t = ⟨i, 97 + j, e, g⟩ := by simpa using ht
    subst ht'
    rcases h.bd s hs with z | ⟨z, z'⟩
    · exact .inl z
    · exact .inr ⟨z, z'⟩
  · rcases mem s hs with hs | rfl
    · rcases h.bd s hs with z | ⟨z, z'⟩
      · exact .inl z
      · exact .inr ⟨z, by omega⟩
    · exact .inr ⟨rfl, by show 97 + j < 97 + (j + 1); omega⟩
  · rcases mem s hs with hs | rfl
    · exact h.gb s hs
    · exact ⟨g1, g2⟩
  · rw [List.length_append, List.length_singleton]
    have := h.len
    omega
section
variable {P : Program} {w : World} {K : PySem.W.Frag} {mg : Str → Option Value} {base : Heap}
theorem ok_law_parts (T : Txt K mg) : FnOk P w K mg base (L2.CX P w) 2 T.a_law_parts T.fd_law_parts ["_law_row", "_law_stands", "_law_size"] (sp_parts K) := by
  refine T.F_law_parts.okX sc_law_parts (fun vs H Q E h => ?_) (fun cdv A outer s H vs Q E hr h => ?_)
  · obtain ⟨a, st, sz, rfl, _⟩ := h
    rfl
  · obtain ⟨a, st, sz, rfl, st1, st8, sz0, sz1, R0, k⟩ := h
    refine ⟨_, (PSs.nox (pss_cons (ps_par (i := 3) (j := 4) (by rfl) sc_law_parts.nd rfl rfl (by decide) rfl rfl (pa_cons (pe_op op_add pe_int (pe_call (ok_law_taken T) (hr.mono (by decide)) (by rfl) T.m_law_taken T.k_law_taken T.b_law_taken .nil passL (pa_cons (pv 0) (pa_cons (pv 1) pa_nil)))) (pa_cons (pe_call (ok_law_taken T) (hr.mono (by decide)) (by rfl) T.m_law_taken T.k_law_taken T.b_law_taken .nil passL (pa_cons (pv 0) (pa_cons pe_int pa_nil))) pa_nil)) (by rfl))
  (pss_cons (ps_setLc (i := 5) (own := [("_law_stand", 13)]) (g := (gName 13)) (tt := tYes) rfl sc_law_parts.nd rfl rfl (sw_true rfl rfl rfl (by decide +kernel)) (pi_range1 (by rfl) T.z_range (pa_cons (pv 3) pa_nil)) (blkOk_by (own := [("_law_stand", 13)]) (N := ["_law_row", "_law_stands", "_law_size", "_law_many", "_law_kind", "_law_heights", "_law_steps", "_law_letters", "_law_begun", "_law_letter", "_law_end", "_law_gain", "_law_ends", "_law_stand"]) (sc := defScope s_law_parts) (by decide +kernel)) (fun _ _ _ _ _ => (pg_name (i := 13) sc_law_parts.nd rfl (Or.inl rfl))) (fun _ _ _ _ _ => pts_nil) (fun _ _ _ _ _ => (pe_op op_sub (pe_call (ok_law_taken T) (hr.mono (by decide)) (by rfl) T.m_law_taken T.k_law_taken T.b_law_taken .nil passL (pa_cons (pv 0) (pa_cons (pe_op op_add (pe_op op_mulW pe_int (pv 2)) pe_int) pa_nil))) (pv 2))))
  (pss_cons (ps_par (i := 6) (j := 7) (by rfl) sc_law_parts.nd rfl rfl (by decide) rfl rfl (pa_cons (pe_lst pa_nil) (pa_cons (pe_slice sl_str pe_str po_none (po_some (pe_op op_add pe_int (pe_call (ok_law_taken T) (hr.mono (by decide)) (by rfl) T.m_law_taken T.k_law_taken T.b_law_taken .nil passL (pa_cons (pv 0) (pa_cons pe_int pa_nil)))))) pa_nil)) (by rfl))
  (pss_cons (ps_for PassesOwn.never rfl (pi_range1 (by rfl) T.z_range (pa_cons (pv 3) pa_nil)) (pg_name (i := 8) sc_law_parts.nd rfl (Or.inl rfl))
  (pss_one (ps_for PassesOwn.never rfl (pi_str (pv 7)) (pg_name (i := 9) sc_law_parts.nd rfl (Or.inl rfl))
  (pss_one (ps_if (pt_cmpR op_gt (pe_call (ok_law_taken T) (hr.mono (by decide)) (by rfl) T.m_law_taken T.k_law_taken T.b_law_taken .nil passL (pa_cons (pv 0) (pa_cons pe_int pa_nil))) pe_int (nomark _))
  (pss_cons (ps_set (i := 10) sc_law_parts.nd rfl (Or.inl rfl) (pe_call (ok_law_taken T) (hr.mono (by decide)) (by rfl) T.m_law_taken T.k_law_taken T.b_law_taken .nil passL (pa_cons (pv 0) (pa_cons (pv 3) pa_nil))))
  (pss_cons (ps_set (i := 11) sc_law_parts.nd rfl (Or.inl rfl) (pe_op op_sub (pe_ix ix_list (pv 5) (pv 10) (fun _ _ => rfl)) (pe_ix ix_list (pv 5) (pv 8) (fun _ _ => rfl))))
  (C8.pss_cut (ps_if (PW.pt (pw_or (PW.pt (pw_and (pt_cmpR op_eq (pv 4) pe_int (nomark _)) (pw_and1 (pt_cmpR op_eq (pe_call (ok_law_taken T) (hr.mono (by decide)) (by rfl) T.m_law_taken T.k_law_taken T.b_law_taken .nil passL (pa_cons (pv 0) (pa_cons pe_int pa_nil))) pe_int (nomark _))))) (pw_or1 (pt_cmpR op_eq (pv 4) pe_int (nomark _)))))
  (pss_one (ps_set (i := 11) sc_law_parts.nd rfl (Or.inl rfl) (pe_op op_sub (pe_call (ok_law_taken T) (hr.mono (by decide)) (by rfl) T.m_law_taken T.k_law_taken T.b_law_taken .nil passL (pa_cons (pv 0) (pa_cons (pe_op op_add (pe_op op_mulW pe_int (pv 2)) pe_int) pa_nil))) (pv 2))))
  pss_nil)
  (C8.pss_cut (ps_if (PW.pt (pw_and (pt_cmpR op_eq (pv 4) pe_int (nomark _)) (pw_and1 (pt_cmpR op_eq (pe_call (ok_law_taken T) (hr.mono (by decide)) (by rfl) T.m_law_taken T.k_law_taken T.b_law_taken .nil passL (pa_cons (pv 0) (pa_cons pe_int pa_nil))) pe_int (nomark _)))))
  (pss_one (ps_set (i := 11) sc_law_parts.nd rfl (Or.inl rfl) (pe_op op_add (pv 11) pe_int)))
  pss_nil)
  (pss_one (ps_expr (pe_bm PySem.F.plainAttrs_list PySem.F.slot_list_append PySem.F.type_list_append mt_append (pv 6) (pa_cons (pe_tup (pa_cons (pv 8) (pa_cons (pv 9) (pa_cons (pv 10) (pa_cons (pv 11) pa_nil))))) pa_nil))))))))
  pss_nil)))))
  (pss_cons (ps_set (i := 12) sc_law_parts.nd rfl (Or.inl rfl) (pe_callTy call_tuple_of (by rfl) T.z_tuple PySem.Pv.boot_tuple (pa_cons (pe_lc (own := [("_law_stand", 13)]) (g := (gName 13)) rfl sc_law_parts.nd (pi_range1 (by rfl) T.z_range (pa_cons (pv 3) pa_nil)) (blkOk_by (own := [("_law_stand", 13)]) (N := ["_law_row", "_law_stands", "_law_size", "_law_many", "_law_kind", "_law_heights", "_law_steps", "_law_letters", "_law_begun", "_law_letter", "_law_end", "_law_gain", "_law_ends", "_law_stand"]) (sc := defScope s_law_parts) (by decide +kernel)) (fun _ _ _ _ _ => (pg_name (i := 13) sc_law_parts.nd rfl (Or.inl rfl))) (fun _ _ _ _ _ => (pts_one (pt_cmpR op_eq (pe_call (ok_law_taken T) (hr.mono (by decide)) (by rfl) T.m_law_taken T.k_law_taken T.b_law_taken .nil passL (pa_cons (pv 0) (pa_cons pe_int pa_nil))) pe_int (nomark _)))) (fun _ _ _ _ _ => (pv 13))) pa_nil)))
  (pss_one (ps_ret (pe_disp (pps_cons pe_str (pv 3) (pps_cons pe_str (pe_callTy call_tuple_of (by rfl) T.z_tuple PySem.Pv.boot_tuple (pa_cons (pv 6) pa_nil)) (pps_cons pe_str (pv 12) pps_nil))) (by rfl) (by rfl) (fun z => by cases z) (by decide)))))))))), ?_⟩
    walk_at "begin"
    walk_at "go"
    refine ⟨a, _, rfl, by omega, by omega, R0, fun x1 H1 x1a x1b R1 K1 => ?_⟩
    obtain ⟨y, rfl⟩ := Int.eq_ofNat_of_zero_le x1a
    walk_at "go"
    refine ⟨a, 4, rfl, by omega, by decide, R1, fun kind H2 kda kdb R2 K2 => ?_⟩
    walk_at "go"
    have en : (1 + (y : Int)) = ((y + 1 : Nat) : Int) := by omega
    rw [en]
    refine k_rg (by omega) (by omega) fun D hD => ?_
    have K02 := K1.trans K2
    have nD : a ≠ D := R2.ne hD
    have hD0 : H D = none := K02.free nD.symm hD
    have CM : CMulW 2 sz := wide_mul (a := 2) (b := 101) (by decide) (by omega) (by decide) (by decide) (by decide)
    have small : ∀ {hs : List Int} {i : Nat}, hs.length = i → i < 100 → (hs.map V.int).length < sizeLine := fun e q => by
      rw [List.length_map, e]
      exact Nat.lt_trans q (by decide)
    -- the heights
    refine lc_range (lo := 0) (n := (((y + 1 : Nat) : Int)).toNat) (fun i H' => Keep a H H' ∧ RowOk K H' a ∧ ∃ hs : List Int, H' D = some (.lst (hs.map V.int)) ∧ hs.length = i ∧ ∀ h ∈ hs, -sz ≤ h ∧ h ≤ sz)
      ⟨K02.trans (Keep.new hD), R2.same (Same.new hD), [], upd_same, rfl, fun _ h => absurd h (by simp)⟩ ?_ ?_
    · rintro i H3 hi ⟨K3, R3, hs, eD, hl, hb⟩
      walk_at "go"
      refine ⟨rfl, ?_⟩
      walk_at "go"
      refine iteT ?_
      walk_at "go"
      refine k_I CM ?_
      walk_at "go"
      refine ⟨a, _, rfl, by omega, by omega, R3, fun x H4 xa xb R4 K4 => ?_⟩
      walk_at "go"
      have eD4 := K4 _ _ nD.symm eD
      refine ⟨_, eD4, small hl (by omega), (K3.trans K4).mut hD0, R4.keep nD eD4 Keep.at_, hs ++ [x - sz], ?_, ?_, ?_⟩
      · rw [upd_same, List.map_append]; rfl
      · rw [List.length_append, hl]; rfl
      · intro h hh
        rcases List.mem_append.mp hh with hh | hh
        · exact hb h hh
        · have : h = x - sz := by simpa using hh
          omega
    · rintro H3 ⟨K3, R3, hs, eD, hl, hb⟩
      walk_at "go"
      refine ⟨Nat.zero_le _, fun l hl0 => ?_⟩
      have nl : a ≠ l := R3.ne hl0
      have hlH : H l = none := K3.free nl.symm hl0
      have nDl : D ≠ l := ne_of_none eD hl0
      walk_at "go"
      refine ⟨a, 4, rfl, by omega, by decide, R3.same (Same.new hl0), fun x2 H4 xa xb R4 K4 => ?_⟩
      obtain ⟨y2, rfl⟩ := Int.eq_ofNat_of_zero_le xa
      have en2 : (1 + (y2 : Int)) = ((y2 + 1 : Nat) : Int) := by omega
      walk_at "go"
      rw [en2]
      refine k_slS (by decide) ?_
      rw [abcd_cut (by omega) (by omega)]
      walk_at "go"
      refine k_rg (by omega) (by omega) ?_
      have K04 : Keep a H H4 := (K3.trans (Keep.new hl0)).trans K4
      have eD4 : H4 D = some (.lst (hs.map V.int)) := K4 _ _ nD.symm (Keep.new (a := a) hl0 _ _ nD.symm eD)
      have el4 : H4 l = some (.lst []) := K4 _ _ nl.symm upd_same
      clear K3 R3 eD K4
      -- the steps
      obtain ⟨LT, hLT⟩ : ∃ z : Str, z = ⟨(([97, 98, 99, 100] : List Nat).take (y2 + 1)).toArray⟩ := ⟨_, rfl⟩
      rw [← hLT]
      have nat : ∀ z : Nat, ((z : Int)).toNat = z := fun z => rfl
      refine for_range (lo := 0) (n := (((y + 1 : Nat) : Int)).toNat) (fun i σ H' => ∃ ss s8 s9 s10 s11, Keep a H H' ∧ RowOk K H' a ∧ H' D = some (.lst (hs.map V.int)) ∧ Sofar K H' l (y + 1) sz i 0 ss ∧
        σ = [some (.ref a), some (.int (st : Nat)), some (.int sz), some (.int ((y + 1 : Nat) : Int)), some (.int kind), some (.ref D), some (.ref l), some (.str LT), s8, s9, s10, s11, none, none])
        ⟨[], none, none, none, none, K04, R4, eD4, ⟨⟨[], el4, rfl, fun _ _ h => absurd h (by simp)⟩, fun _ h => absurd h (by simp), .nil, fun _ h => absurd h (by simp), fun _ h => absurd h (by simp), Nat.zero_le _⟩, rfl⟩ ?_ ?_
      · rintro i σ H5 hi ⟨ss, s8, s9, s10, s11, K5, R5, eD5, S5, rfl⟩
        walk_at "go"
        refine ⟨_, rfl, for_it walk_str (fun j σ H' => ∃ ss s9 s10 s11, Keep a H H' ∧ RowOk K H' a ∧ H' D = some (.lst (hs.map V.int)) ∧ Sofar K H' l (y + 1) sz i j ss ∧
          σ = [some (.ref a), some (.int (st : Nat)), some (.int sz), some (.int ((y + 1 : Nat) : Int)), some (.int kind), some (.ref D), some (.ref l), some (.str LT), some (.int (0 + (i : Nat))), s9, s10, s11, none, none])
          ⟨ss, s9, s10, s11, K5, R5, eD5, S5, rfl⟩ (fun _ _ _ _ _ => trivial) ?_ ?_⟩
        · rintro j x σ H6 H6' hj ⟨ss, s9, s10, s11, K6, R6, eD6, S6, rfl⟩ ⟨rfl, c, hc, rfl⟩
          have hc' : c = 97 + j ∧ j < 4 := by
            rw [hLT] at hc
            exact abcd_at hc
          obtain ⟨rfl, j4⟩ := hc'
          walk_at "go"
          refine ⟨a, 4, rfl, by omega, by decide, R6, fun x1 H7 _ _ R7 K7 => ?_⟩
          walk_at "go"
          have eD7 := K7 _ _ nD.symm eD6
          obtain ⟨lr, er6⟩ := R6.lst
          have S7 := S6.keep K7 er6 nl.symm
          refine k_ite (fun c1 => ?_) (fun c1 => ?_)
          · walk_at "go"
            refine ⟨a, _, rfl, by omega, by omega, R7, fun x2 H8 x2a x2b R8 K8 => ?_⟩
            obtain ⟨e, rfl⟩ := Int.eq_ofNat_of_zero_le x2a
            have eD8 := K8 _ _ nD.symm eD7
            obtain ⟨lr7, er7⟩ := R7.lst
            have S8 := S7.keep K8 er7 nl.symm
            walk_at "go"
            have le : e < hs.length := by rw [hl, nat]; omega
            have li : i < hs.length := by rw [hl, nat]; omega
            refine k_ixL (SqL.of eD8) (v := .int (hs[e]'le)) (at_of (j := e) rfl (by rw [List.getElem?_map, List.getElem?_eq_getElem le]; rfl)) ?_
            walk_at "go"
            refine k_ixL (SqL.of eD8) (v := .int (hs[i]'li)) (at_of (j := i) (by omega) (by rw [List.getElem?_map, List.getElem?_eq_getElem li]; rfl)) ?_
            have be := hb _ (List.getElem_mem le)
            have bi := hb _ (List.getElem_mem li)
            generalize hs[e]'le = he at be ⊢
            generalize hs[i]'li = hi' at bi ⊢
            walk_at "go"
            have K68 := (K6.trans K7).trans K8
            refine k_cut (fun σ' H' => ∃ g, -(2 * sz) ≤ g ∧ g ≤ 2 * sz ∧ Keep a H H' ∧ RowOk K H' a ∧ H' D = some (.lst (hs.map V.int)) ∧ Sofar K H' l (y + 1) sz i j ss ∧
              σ' = [some (.ref a), some (.int (st : Nat)), some (.int sz), some (.int ((y + 1 : Nat) : Int)), some (.int kind), some (.ref D), some (.ref l), some (.str LT), some (.int (0 + (i : Nat))), some (.str ⟨#[97 + j]⟩), some (.int (e : Nat)), some (.int g), none, none]) ?_ ?_
            · have old : ∀ H', Keep a H8 H' → RowOk K H' a → H' D = some (.lst (hs.map V.int)) ∧ Sofar K H' l (y + 1) sz i j ss := fun H' kk rr => by
                obtain ⟨lr8, er8⟩ := R8.lst
                exact ⟨kk _ _ nD.symm eD8, S8.keep kk er8 nl.symm⟩
              have draw : ∀ H9, Keep a H8 H9 → RowOk K H9 a → ∀ x H10, 0 ≤ x → x < 2 * sz + 1 → RowOk K H10 a → Keep a H9 H10 → -(2 * sz) ≤ x - sz ∧ x - sz ≤ 2 * sz ∧ Keep a H H10 ∧ RowOk K H10 a ∧ H10 D = some (.lst (hs.map V.int)) ∧ Sofar K H10 l (y + 1) sz i j ss := fun H9 k9 r9 x H10 x0 x1 r10 k10 => by
                have o := old H10 (k9.trans k10) r10
                exact ⟨by omega, by omega, (K68.trans k9).trans k10, r10, o.1, o.2⟩
              walk_at "go"
              refine k_ite (fun d1 => ?_) (fun d1 => ?_)
              · walk_at "go"
                refine ⟨a, 4, rfl, by omega, by decide, R8, fun x3 H9 _ _ R9 K9 => ?_⟩
                walk_at "go"
                refine k_ite (fun d2 => ?_) (fun d2 => ?_)
                · refine iteT ?_
                  walk_at "go"
                  refine k_I CM ?_
                  walk_at "go"
                  refine ⟨a, _, rfl, by omega, by omega, R9, fun x4 H10 x4a x4b R10 K10 => ?_⟩
                  walk_at "go"
                  obtain ⟨q1, q2, q3, q4, q5, q6⟩ := draw H9 K9 R9 x4 H10 x4a x4b R10 K10
                  exact ⟨_, q1, q2, q3, q4, q5, q6, rfl⟩
                · walk_at "go"
                  refine k_ite (fun d3 => ?_) (fun d3 => ?_)
                  · rw [d1] at d3; exact absurd d3 (by decide)
                  · walk_at "go"
                    exact ⟨_, by omega, by omega, K68.trans K9, R9, (old H9 K9 R9).1, (old H9 K9 R9).2, rfl⟩
              · refine iteF ?_
                walk_at "go"
                refine k_ite (fun d3 => ?_) (fun d3 => ?_)
                · walk_at "go"
                  refine k_I CM ?_
                  walk_at "go"
                  refine ⟨a, _, rfl, by omega, by omega, R8, fun x4 H10 x4a x4b R10 K10 => ?_⟩
                  walk_at "go"
                  obtain ⟨q1, q2, q3, q4, q5, q6⟩ := draw H8 (Keep.refl _ _) R8 x4 H10 x4a x4b R10 K10
                  exact ⟨_, q1, q2, q3, q4, q5, q6, rfl⟩
                · walk_at "go"
                  exact ⟨_, by omega, by omega, K68, R8, eD8, S8, rfl⟩
            · rintro σ' H9 ⟨g, g1, g2, K9, R9, eD9, S9, rfl⟩
              refine k_cut (fun σ' H' => ∃ g, -(2 * sz + 1) ≤ g ∧ g ≤ 2 * sz + 1 ∧ Keep a H H' ∧ RowOk K H' a ∧ H' D = some (.lst (hs.map V.int)) ∧ Sofar K H' l (y + 1) sz i j ss ∧
                σ' = [some (.ref a), some (.int (st : Nat)), some (.int sz), some (.int ((y + 1 : Nat) : Int)), some (.int kind), some (.ref D), some (.ref l), some (.str LT), some (.int (0 + (i : Nat))), some (.str ⟨#[97 + j]⟩), some (.int (e : Nat)), some (.int g), none, none]) ?_ ?_
              · walk_at "go"
                refine k_ite (fun d1 => ?_) (fun d1 => ?_)
                · walk_at "go"
                  refine ⟨a, 3, rfl, by omega, by decide, R9, fun x3 H10 _ _ R10 K10 => ?_⟩
                  obtain ⟨lr9, er9⟩ := R9.lst
                  have eD10 := K10 _ _ nD.symm eD9
                  have S10 := S9.keep K10 er9 nl.symm
                  walk_at "go"
                  refine k_ite (fun d2 => ?_) (fun d2 => ?_)
                  · walk_at "go"
                    exact ⟨_, by omega, by omega, K9.trans K10, R10, eD10, S10, rfl⟩
                  · walk_at "go"
                    exact ⟨_, by omega, by omega, K9.trans K10, R10, eD10, S10, rfl⟩
                · refine iteF ?_
                  walk_at "go"
                  exact ⟨_, by omega, by omega, K9, R9, eD9, S9, rfl⟩
              · rintro σ' H10 ⟨g, g1, g2, K10, R10, eD10, S10, rfl⟩
                walk_at "go"
                obtain ⟨vs10, el10, _⟩ := S10.at_
                refine ⟨.inl ⟨rfl, _, SqL.of el10⟩, ?_⟩
                walk_at "go"
                refine ⟨(by decide : 4 ≤ sizeLine), fun p hp => ?_⟩
                have z0 : (0 + (i : Nat) : Int) = ((i : Nat) : Int) := by omega
                rw [z0]
                walk_at "go"
                have npl : l ≠ p := ne_of_none el10 hp
                have npD : D ≠ p := ne_of_none eD10 hp
                have el11 : (upd H10 p (.tup [.int (i : Nat), .str ⟨#[97 + j]⟩, .int (e : Nat), .int g])) l = some (.lst vs10) := by rw [upd_ne npl]; exact el10
                have lv : vs10.length < sizeLine := by
                  obtain ⟨vs', e', q'⟩ := S10.at_
                  rw [el10] at e'
                  cases e'
                  have := S10.len
                  have : vs10.length < 100 := by rw [q'.1]; omega
                  exact Nat.lt_trans this (by decide)
                refine k_append el11 lv ?_
                walk_at "go"
                have S11 := S10.snoc hp (by omega) j4 (show e < y + 1 by omega) sz1 g1 g2 vs10 el10
                have R11 := R10.same (Same.new (o := .tup [.int (i : Nat), .str ⟨#[97 + j]⟩, .int (e : Nat), .int g]) hp)
                refine ⟨_, some (.str ⟨#[97 + j]⟩), some (.int (e : Nat)), some (.int g), (K10.trans (Keep.new hp)).mut hlH, R11.keep nl el11 Keep.at_, ?_, S11, ?_⟩
                · rw [upd_ne nDl, upd_ne npD]; exact eD10
                · rfl
          · walk_at "go"
            exact ⟨ss, _, _, _, K6.trans K7, R7, eD7, S7.more (Nat.le_succ _), rfl⟩
        · rintro σ H6 ⟨ss, s9, s10, s11, K6, R6, eD6, S6, rfl⟩
          refine ⟨ss, _, _, _, _, K6, R6, eD6, S6.line ?_, rfl⟩
          rw [hLT]
          simp
          omega
      · rintro σ H5 ⟨ss, s8, s9, s10, s11, K5, R5, eD5, S5, rfl⟩
        obtain ⟨vs, el5, q5⟩ := S5.at_
        walk_at "go"
        refine k_rg (by omega) (by omega) fun B hB => ?_
        have nB : a ≠ B := R5.ne hB
        have hB0 : H B = none := K5.free nB.symm hB
        have nlB : l ≠ B := ne_of_none el5 hB
        -- the ends
        refine lc_range (lo := 0) (n := (((y + 1 : Nat) : Int)).toNat) (fun i H' => Keep a H H' ∧ RowOk K H' a ∧ H' l = some (.lst vs) ∧ StpsAt K H' vs ss ∧ ∃ es : List Nat, H' B = some (.lst (nats es)) ∧ es.length ≤ i ∧ (∀ e ∈ es, e < i) ∧ es.Pairwise (· < ·))
          ⟨K5.trans (Keep.new hB), R5.same (Same.new hB), by rw [upd_ne nlB]; exact el5, (Tups.new hB).steps q5, [], upd_same, Nat.le_refl _, fun _ h => absurd h (by simp), .nil⟩ ?_ ?_
        · rintro i H6 hi ⟨K6, R6, el6, q6, es, eB, h1, h2, h3⟩
          obtain ⟨lr6, er6⟩ := R6.lst
          walk_at "go"
          refine ⟨rfl, ?_⟩
          walk_at "go"
          refine ⟨a, 2, rfl, by omega, by decide, R6, fun x H7 _ _ R7 K7 => ?_⟩
          have eB7 := K7 _ _ nB.symm eB
          have el7 := K7 _ _ nl.symm el6
          have q7 := (K7.tups er6).steps q6
          walk_at "go"
          refine k_ite (fun c => ?_) (fun c => ?_)
          · walk_at "go"
            have z0 : (0 + (i : Nat) : Int) = ((i : Nat) : Int) := by omega
            rw [z0]
            refine ⟨_, eB7, ?_, (K6.trans K7).mut hB0, R7.keep nB eB7 Keep.at_, by rw [upd_ne nlB]; exact el7, (Tups.lst eB7).steps q7, es ++ [i], ?_, ?_, ?_, ?_⟩
            · have : (nats es).length < 100 := by unfold nats; rw [List.length_map]; omega
              exact Nat.lt_trans this (by decide)
            · rw [upd_same]; unfold nats; rw [List.map_append]; rfl
            · rw [List.length_append]; simp; omega
            · intro e he
              rcases List.mem_append.mp he with he | he
              · have := h2 e he; omega
              · have : e = i := by simpa using he
                omega
            · refine List.pairwise_append.mpr ⟨h3, List.pairwise_singleton _ _, fun e he f hf => ?_⟩
              have : f = i := by simpa using hf
              have := h2 e he
              omega
          · exact ⟨K6.trans K7, R7, el7, q7, es, eB7, by omega, fun e he => by have := h2 e he; omega, h3⟩
        · rintro H6 ⟨K6, R6, el6, q6, es, eB, h1, h2, h3⟩
          walk_at "go"
          refine ⟨B, _, rfl, .inl ⟨SqL.of eB, fun u hu => ?_⟩⟩
          have nu : a ≠ u := R6.ne hu
          have K7 := K6.trans (Keep.new (o := .tup (nats es)) hu)
          have R7 := R6.same (Same.new (o := .tup (nats es)) hu)
          have el7 : (upd H6 u (.tup (nats es))) l = some (.lst vs) := by rw [upd_ne (ne_of_none el6 hu)]; exact el6
          have q7 := (Tups.new (o := .tup (nats es)) hu).steps q6
          walk_at "go"
          intro d hd
          have K8 := K7.trans (Keep.new (o := .dK []) hd)
          have R8 := R7.same (Same.new (o := .dK []) hd)
          have el8 : (upd (upd H6 u (.tup (nats es))) d (.dK [])) l = some (.lst vs) := by rw [upd_ne (ne_of_none el7 hd)]; exact el7
          have q8 := (Tups.new (o := .dK []) hd).steps q7
          have hd0 : H d = none := K7.free (R7.ne hd).symm hd
          walk_at "go"
          refine ⟨l, vs, rfl, .inl ⟨SqL.of el8, fun t ht => ?_⟩⟩
          walk_at "go"
          have ntd : d ≠ t := ne_of_none upd_same ht
          have e1 : (upd (upd (upd H6 u (.tup (nats es))) d (.dK [])) t (.tup vs)) d = some (.dK []) := by rw [upd_ne ntd, upd_same]
          refine ⟨e1, [(.inr "stands", .int ((y + 1 : Nat) : Int)), (.inr "steps", .ref t), (.inr "ends", .ref u)], rfl, (by decide : 3 ≤ 15), ?_⟩
          have em : mergeK [] [((.inr "stands" : Key), V.int ((y + 1 : Nat) : Int)), (.inr "steps", .ref t), (.inr "ends", .ref u)] = [(.inr "stands", .int ((y + 1 : Nat) : Int)), (.inr "steps", .ref t), (.inr "ends", .ref u)] := rfl
          rw [em]
          have t9 : Tups (upd (upd H6 u (.tup (nats es))) d (.dK [])) (upd (upd (upd H6 u (.tup (nats es))) d (.dK [])) t (.tup vs)) := Tups.new ht
          have nuD : u ≠ d := ne_of_none (upd_same (H := H6) (o := .tup (nats es))) hd
          have t10 : Tups (upd (upd (upd H6 u (.tup (nats es))) d (.dK [])) t (.tup vs)) (upd (upd (upd (upd H6 u (.tup (nats es))) d (.dK [])) t (.tup vs)) d (.dK [(.inr "stands", .int ((y + 1 : Nat) : Int)), (.inr "steps", .ref t), (.inr "ends", .ref u)])) :=
            ⟨fun b xs e => by rw [upd_ne (fun z => by rw [z, e1] at e; cases e)]; exact e, fun b o xs e => by rw [upd_ne (fun z => by rw [z, e1] at e; cases e)]; exact e⟩
          refine k d ⟨y + 1, ss, es⟩ _ ⟨by show 1 ≤ y + 1; omega, by show y + 1 ≤ 8; omega, S5.ok, S5.up, ?_, fun e he => ?_, h3, ?_⟩ (by show y + 1 ≤ st; omega) S5.gb ⟨t, u, upd_same, ⟨vs, t10.sq (SqT.of upd_same), (t10.steps (t9.steps q8))⟩, ?_⟩ ?_ ?_ hd0
          · have := S5.len
            show ss.length ≤ 32
            rw [nat] at this
            omega
          · have := h2 e he
            rw [nat] at this
            exact this
          · show es.length ≤ 8
            rw [nat] at h1
            omega
          · exact t10.sq (t9.sq ((Tups.new (o := .dK []) hd).sq (SqT.of upd_same)))
          · have R9 := R8.same (Same.new (o := .tup vs) ht)
            obtain ⟨sc, ns, i, z, r, e, q, rest⟩ := R9
            have nad : a ≠ d := R7.ne hd
            refine ⟨sc, ns, i, z, r, by rw [upd_ne nad]; exact e, ?_, rest⟩
            rcases q with ⟨o, q⟩ | q
            · exact .inl ⟨o, by rw [upd_ne (fun z => by rw [z, e1] at q; cases q)]; exact q⟩
            · exact .inr q
          · exact (K8.trans (Keep.new ht)).mut hd0
end
/-! ### name = {k: v for ..} -/
theorem sw_trueD {kx vx : Expr} {gs : List Comprehension} {scope : Scope} {pos py : Pos} {y : Str} {n : Nat} {env : Env} (hk : env.scope.kind = .function) (hy : env.scope.names.lookup y = some .local) (hl : (py.line == pos.line) = true)
    (ha : (scope.names.any fun (m, c) => m == y && (c == .local || c == .cell)) = false) : swapsWith (.DictComp kx vx gs scope pos) (some (.Name y py)) n env = pure true := by
  have k1 : env.kindOf y = some .local := hy
  have k2 : env.blockKind = .function := by
    unfold Env.blockKind
    rw [hk]
    rfl
  unfold swapsWith
  simp only [k1, k2, ha, Expr.pos, hl]
  rfl
section
variable {X : Cx}
theorem ps_setDc {i : Nat} {y : Str} {py : Pos} {kx vx tg it : Expr} {ifs : List Expr} {scope : Scope} {own : List (Str × Nat)} {pos sp : Pos} {wi : TI} {g : TG} {tt : TT} {tk tv : TE} (hc : X.calm = true) (hN : X.N.Nodup)
    (hy : X.N[i]? = some y) (hyl : X.env.scope.names.lookup y = some .local) (hsw : swapsWith (.DictComp kx vx [⟨tg, it, ifs, 0⟩] scope pos) (some (.Name y py)) sp.line X.env = pure true)
    (hi : PI X tg it wi) (ok : BlkOk X.N X.env.scope scope own)
    (hg : ∀ (s : Shared) (H : Hp) (C : Addr) (cl : List (Str × Addr)) (fp : List Addr), PG (X.blk s H scope (compEnvC scope cl C X.env) fp) tg g)
    (ht : ∀ (s : Shared) (H : Hp) (C : Addr) (cl : List (Str × Addr)) (fp : List Addr), PTs (X.blk s H scope (compEnvC scope cl C X.env) fp) ifs tt)
    (hk : ∀ (s : Shared) (H : Hp) (C : Addr) (cl : List (Str × Addr)) (fp : List Addr), PE (X.blk s H scope (compEnvC scope cl C X.env) fp) kx tk)
    (hv : ∀ (s : Shared) (H : Hp) (C : Addr) (cl : List (Str × Addr)) (fp : List Addr), PE (X.blk s H scope (compEnvC scope cl C X.env) fp) vx tv)
    (hs : ∀ x, foldedSetIterable it X.env x = pure x := by intro _; rfl) :
    PS X (.Assign [.Name y py] (.DictComp kx vx [⟨tg, it, ifs, 0⟩] scope pos) sp) (tAsg (tDc wi g tt tk tv (own.map (·.2))) (gName i)) := by
  constructor
  intro pins s σ H D I h
  rw [exec_Assign_Name_used _ _ _ _ hsw]
  refine wpAny_bind (wpAny_standAt (wpAny_bind ?_))
  show wpAny _ X.A (do let _ ← comprehension (.DictComp kx vx [⟨tg, it, ifs, 0⟩] scope pos) scope X.env (firstIterPos [⟨tg, it, ifs, 0⟩] pos) newDict false (eval it X.env) (some (assign (.Name y py) X.env))) _ _ s
  have h' : tDc wi g tt tk tv (own.map (·.2)) σ H (fun x H1 => gName i x σ H1 D.nx) := h
  refine wpAny_bind (thn (dc_core (Qf := fun _ s' => SP X pins D .next s') hc hN I hi ok hg ht hk hv hs h' ?_) fun _ s' hq => wpAny_pure (wpAny_pure hq))
  intro L C s' m H' I' q hn f
  show wpAny _ _ (assign (.Name y py) X.env (.ref L)) _ _ _
  refine wpAny_assign_Name (store_ok2 (v := V.ref L) I' hN hy (.inl hyl) rfl ?_ (.inr hyl))
  rintro s2 I2 ⟨a, sb, ha⟩
  obtain ⟨f0, f1, f2, f3, f4, f5⟩ := f
  have ne : C ≠ a := by
    rcases ha with z | z
    · rw [z]; exact f1
    · exact fun e => f4 y a z e.symm
  exact ⟨m, hn.sameBut sb ne, fun h3 sb3 => ⟨_, H', I2.turned (t' := s2.toks) (fun b o hb e => (sb3.2 b hb).trans e) f0 f1 f3 f4 f5, q⟩⟩
/-- over a list that stays -/
theorem dc_lst {K : PySem.W.Frag} {a : Addr} {xs : List V} {g : TG} {tt : TT} {tk tv : TE} {vs : List Nat} {σ : L2.St} {H1 : Hp} {D : Addr} {Qd : Hp → Prop} (Pv : Nat → Hp → Prop) (h0 : Pv 0 (upd H1 D (.dK [])))
    (hl : ∀ i H, i ≤ xs.length → Pv i H → SqL K H a xs)
    (hs : ∀ i x H, xs[i]? = some x → Pv i H → g x (wipe σ vs) H fun σ2 H2 => wipe σ2 vs = wipe σ vs ∧ tt σ2 H2 fun b H3 =>
      if b = true then tk σ2 H3 fun y H4 => tv σ2 H4 fun z H5 => ∃ kvs k, y = kV k ∧ H5 D = some (.dK kvs) ∧ kvs.length < sizeLine ∧ Pv (i + 1) (upd H5 D (.dK (putK kvs k z))) else Pv (i + 1) H3) (hd : ∀ H, Pv xs.length H → Qd H) :
    ∃ W : Nat → Nat → Hp → Prop, (∃ m, W 0 m (upd H1 D (.dK []))) ∧ ∀ i m H, W i m H → ((Itl K a).stop i H ∧ Qd H) ∨
      ((Itl K a).go i H ∧ ∃ Nx : Hp → Prop, (∀ H', Nx H' → ∃ m', m' < m ∧ W (i + 1) m' H') ∧ ∀ x H', (Itl K a).yld i H x H' → g x (wipe σ vs) H' fun σ2 H2 => wipe σ2 vs = wipe σ vs ∧ tt σ2 H2 fun b H3 =>
        if b = true then tk σ2 H3 fun y H4 => tv σ2 H4 fun z H5 => ∃ kvs k, y = kV k ∧ H5 D = some (.dK kvs) ∧ kvs.length < sizeLine ∧ Nx (upd H5 D (.dK (putK kvs k z))) else Nx H3) := by
  refine ⟨fun i m H => m + i = xs.length ∧ Pv i H, ⟨xs.length, by simp, h0⟩, fun i m H ⟨em, hP⟩ => ?_⟩
  have sq := hl i H (by omega) hP
  by_cases c : i < xs.length
  · refine .inr ⟨⟨xs, xs[i], sq, List.getElem?_eq_getElem c⟩, Pv (i + 1), fun H' z => ⟨m - 1, by omega, by omega, z⟩, ?_⟩
    rintro x H' ⟨rfl, hx⟩
    exact hs i x _ (hx xs sq) hP
  · have e : i = xs.length := by omega
    exact .inl ⟨⟨xs, sq, by omega⟩, hd H (e ▸ hP)⟩
end
/-! ### rows by their codes; what is best so far, by stand -/
abbrev Wd := List Nat
def sOf (w : Wd) : Str := ⟨w.toArray⟩
theorem sOf_snoc (w : Wd) (c : Nat) : sOf w ++ ⟨#[c]⟩ = sOf (w ++ [c]) := by
  show Str.mk (w.toArray ++ #[c]) = _
  rw [List.append_toArray]
  rfl
theorem sOf_len (w : Wd) : (sOf w).length = w.length := by
  show w.toArray.size = _
  simp
theorem sOf_cps (w : Wd) : (sOf w).cps.toList = w := rfl
theorem sOf_inj {v w : Wd} (h : sOf v = sOf w) : v = w := by
  have := congrArg (fun s => s.cps.toList) h
  exact this
abbrev RF := Nat → Option (Int × Wd)
def better (x : Int × Wd) : Option (Int × Wd) → Bool
  | none => true
  | some y => decide (y.1 < x.1) || (decide (x.1 = y.1) && decide (x.2 < y.2))
def RF.put (f : RF) (k : Nat) (x : Int × Wd) : RF := fun j => if j = k then some x else f j
def turnL (sg : Int) (f acc : RF) (s : Stp) : RF := match f s.b with
  | none => acc
  | some y => if better (y.1 + sg * s.g, y.2 ++ [s.c]) (acc s.e) = true then acc.put s.e (y.1 + sg * s.g, y.2 ++ [s.c]) else acc
def longer (sg : Int) (f : RF) (ss : List Stp) : RF := ss.foldl (turnL sg f) fun _ => none
/-! ### dicts from stands to tuples -/
def ent2 (x : Int × Wd) : List V := [.int x.1, .str (sOf x.2)]
def E2 (f : RF) : Nat → Option (List V) := fun n => (f n).map ent2
def KvOk (K : PySem.W.Frag) (H : Hp) (kvs : List (Key × V)) (e : Nat → Option (List V)) : Prop :=
  (∀ p ∈ kvs, ∃ n : Nat, p.1 = .inl (n : Int)) ∧ ∀ n : Nat, (e n = none → valV kvs (.inl (n : Int)) = none) ∧ ∀ l, e n = some l → ∃ p, valV kvs (.inl (n : Int)) = some (.ref p) ∧ SqT K H p l
section
variable {K : PySem.W.Frag} {H H' : Hp} {kvs : List (Key × V)} {e : Nat → Option (List V)}
theorem KvOk.tups (h : KvOk K H kvs e) (t : Tups H H') : KvOk K H' kvs e := ⟨h.1, fun n => ⟨(h.2 n).1, fun l el => let ⟨p, q, z⟩ := (h.2 n).2 l el; ⟨p, q, t.sq z⟩⟩⟩
theorem KvOk.nil : KvOk K H [] fun _ => none := ⟨fun _ h => absurd h (by simp), fun n => ⟨fun _ => rfl, fun l h => by cases h⟩⟩
theorem KvOk.put {n : Nat} {p : Addr} {l : List V} (h : KvOk K H kvs e) (hp : SqT K H p l) : KvOk K H (putK kvs (.inl (n : Int)) (.ref p)) fun j => if j = n then some l else e j := by
  refine ⟨fun q hq => ?_, fun j => ?_⟩
  · unfold putK at hq
    split at hq
    · obtain ⟨r, hr, rfl⟩ := List.mem_map.mp hq
      split
      · rename_i z; exact ⟨n, z⟩
      · exact h.1 r hr
    · rcases List.mem_append.mp hq with hq | hq
      · exact h.1 q hq
      · have : q = (.inl (n : Int), .ref p) := by simpa using hq
        exact ⟨n, by rw [this]⟩
  · rw [valV_put]
    by_cases c : j = n
    · have c' : (Sum.inl (j : Int) : Key) = .inl (n : Int) := by rw [c]
      simp only [if_pos c, if_pos c']
      refine ⟨fun z => (by cases z), fun l' el => ?_⟩
      cases el
      exact ⟨p, rfl, hp⟩
    · have c' : ¬ (Sum.inl (j : Int) : Key) = .inl (n : Int) := fun z => c (by injection z with z; omega)
      simp only [if_neg c, if_neg c']
      exact h.2 j
theorem KvOk.congr {e' : Nat → Option (List V)} (h : KvOk K H kvs e) (q : ∀ n, e n = e' n) : KvOk K H kvs e' := (funext q : e = e') ▸ h
end
theorem E2_put (f : RF) (k : Nat) (x : Int × Wd) (n : Nat) : (if n = k then some (ent2 x) else E2 f n) = E2 (f.put k x) n := by
  unfold E2 RF.put
  by_cases c : n = k
  · rw [if_pos c, if_pos c]; rfl
  · rw [if_neg c, if_neg c]
theorem Same.mut {p : Addr} {H H' : Hp} {o : HO} (x : Same H H') (hp : H p = none) : Same H (upd H' p o) := fun b u h => by rw [upd_ne (ne_of_none h hp)]; exact x b u h
theorem Tups.dk {p : Addr} {H : Hp} {kvs : List (Key × V)} {o : HO} (h : H p = some (.dK kvs)) : Tups H (upd H p o) :=
  ⟨fun b xs e => by rw [upd_ne (fun z => by rw [z, h] at e; cases e)]; exact e, fun b _ xs e => by rw [upd_ne (fun z => by rw [z, h] at e; cases e)]; exact e⟩
theorem Tups.dT {p : Addr} {H : Hp} {kvs : List (List Key × V)} {o : HO} (h : H p = some (.dT kvs)) : Tups H (upd H p o) :=
  ⟨fun b xs e => by rw [upd_ne (fun z => by rw [z, h] at e; cases e)]; exact e, fun b _ xs e => by rw [upd_ne (fun z => by rw [z, h] at e; cases e)]; exact e⟩
theorem take_fold {α β : Type} (f : β → α → β) (z : β) {l : List α} {i : Nat} {x : α} (h : l[i]? = some x) : (l.take (i + 1)).foldl f z = f ((l.take i).foldl f z) x := by
  rw [List.take_add_one, h, List.foldl_append]
  rfl
/-! ### the parts read off a machine -/
section
variable {P : Program} {w : World} {K : PySem.W.Frag} {mg : Str → Option Value} {base : Heap}
theorem ok_Machine_stands (T : Txt K mg) : FnOk P w K mg base (L2.CX P w) 1 T.a_Machine_stands T.fd_Machine_stands ["self"] (getSp T.c_Machine "_stands") := by
  refine T.F_Machine_stands.okX sc_Machine_stands (fun vs H Q E h => ?_) (fun cdv A outer s H vs Q E hr h => ?_)
  · obtain ⟨a, dx, fs, v, rfl, _⟩ := h
    rfl
  · obtain ⟨a, dx, fs, v, rfl, ha, hl, k⟩ := h
    refine ⟨_, (PSs.nox (pss_one (ps_ret (pe_fld (pv 0) rfl)))), ?_⟩
    exact ⟨_, rfl, a, _, dx, fs, v, rfl, ha, T.cl_Machine, T.n__stands, hl, k⟩
theorem ok_Machine_steps (T : Txt K mg) : FnOk P w K mg base (L2.CX P w) 1 T.a_Machine_steps T.fd_Machine_steps ["self"] (getSp T.c_Machine "_steps") := by
  refine T.F_Machine_steps.okX sc_Machine_steps (fun vs H Q E h => ?_) (fun cdv A outer s H vs Q E hr h => ?_)
  · obtain ⟨a, dx, fs, v, rfl, _⟩ := h
    rfl
  · obtain ⟨a, dx, fs, v, rfl, ha, hl, k⟩ := h
    refine ⟨_, (PSs.nox (pss_one (ps_ret (pe_fld (pv 0) rfl)))), ?_⟩
    exact ⟨_, rfl, a, _, dx, fs, v, rfl, ha, T.cl_Machine, T.n__steps, hl, k⟩
end
/-! ### which stands have a better row; which stands letters lead to -/
inductive Reach (ss : List Stp) (l : List Nat) : Nat → Prop
  | base {n : Nat} : n ∈ l → Reach ss l n
  | step {s : Stp} : s ∈ ss → Reach ss l s.b → Reach ss l s.e
def fkv (F : List Nat) : List (Key × V) := F.map fun (n : Nat) => ((.inl (n : Int) : Key), V.bl true)
theorem key_eq (a b : Nat) : ((Sum.inl (a : Int) : Key) = .inl (b : Int)) ↔ a = b := ⟨fun z => by injection z with z; omega, fun z => by rw [z]⟩
theorem valV_fkv (n : Nat) : ∀ F : List Nat, valV (fkv F) (.inl (n : Int)) = if n ∈ F then some (.bl true) else none
  | [] => rfl
  | a :: F => by
    have ih := valV_fkv n F
    by_cases c : a = n
    · rw [if_pos (by rw [c]; exact List.mem_cons_self)]
      exact valV_pos (p := ((.inl (a : Int) : Key), V.bl true)) ((key_eq a n).mpr c)
    · have e : valV (fkv (a :: F)) (.inl (n : Int)) = valV (fkv F) (.inl (n : Int)) := valV_neg (p := ((.inl (a : Int) : Key), V.bl true)) fun z => c ((key_eq a n).mp z)
      rw [e, ih]
      by_cases d : n ∈ F
      · rw [if_pos d, if_pos (List.mem_cons_of_mem _ d)]
      · rw [if_neg d, if_neg (fun z => by rcases List.mem_cons.mp z with z | z; exact c z.symm; exact d z)]
def addN (F : List Nat) (n : Nat) : List Nat := if n ∈ F then F else F ++ [n]
theorem addN_mem {F : List Nat} {n k : Nat} : k ∈ addN F n ↔ k ∈ F ∨ k = n := by
  unfold addN
  by_cases c : n ∈ F
  · rw [if_pos c]
    exact ⟨.inl, fun z => by rcases z with z | rfl <;> assumption⟩
  · rw [if_neg c, List.mem_append, List.mem_singleton]
theorem addN_nodup {F : List Nat} {n : Nat} (h : F.Nodup) : (addN F n).Nodup := by
  unfold addN
  by_cases c : n ∈ F
  · rw [if_pos c]; exact h
  · rw [if_neg c]
    exact List.nodup_append.mpr ⟨h, by simp, fun a ha b hb e => by rw [List.mem_singleton] at hb; rw [e, hb] at ha; exact c ha⟩
theorem putK_fkv (F : List Nat) (n : Nat) : putK (fkv F) (.inl (n : Int)) (.bl true) = fkv (addN F n) := by
  by_cases c : n ∈ F
  · unfold addN putK
    have h := valV_any (.inl (n : Int) : Key) (fkv F)
    rw [valV_fkv, if_pos c] at h
    rw [h, if_pos c, if_pos (show (some (V.bl true)).isSome = true from rfl)]
    unfold fkv
    rw [List.map_map]
    refine List.map_congr_left fun a _ => ?_
    show (if (Sum.inl (a : Int) : Key) = .inl (n : Int) then ((Sum.inl (a : Int) : Key), V.bl true) else ((Sum.inl (a : Int) : Key), V.bl true)) = _
    split <;> rfl
  · rw [putK_new _ (by rw [valV_fkv, if_neg c])]
    unfold addN fkv
    rw [if_neg c, List.map_append]
    rfl
theorem nats_snoc (l : List Nat) (n : Nat) : nats (l ++ [n]) = nats l ++ [.int (n : Nat)] := by unfold nats; rw [List.map_append]; rfl
theorem nats_at {l : List Nat} {i : Nat} {x : V} (h : (nats l)[i]? = some x) : ∃ n, l[i]? = some n ∧ x = .int (n : Nat) := by
  unfold nats at h
  rw [List.getElem?_map] at h
  cases e : l[i]? with
  | none => rw [e] at h; cases h
  | some n => rw [e] at h; exact ⟨n, rfl, (Option.some.inj h).symm⟩
theorem nodup_small {F : List Nat} {n : Nat} (h : F.Nodup) (b : ∀ k ∈ F, k < n) : F.length ≤ n := by
  induction n generalizing F with
  | zero =>
    cases F with
    | nil => exact Nat.le_refl _
    | cons a F => exact absurd (b a List.mem_cons_self) (Nat.not_lt_zero _)
  | succ n ih =>
    by_cases c : n ∈ F
    · have e1 := ih (F := F.erase n) (h.erase n) fun k hk => by
        have hk' := (List.Nodup.mem_erase_iff h).mp hk
        have := b k hk'.2
        have := hk'.1
        omega
      rw [List.length_erase_of_mem c] at e1
      omega
    · have := ih h fun k hk => by
        have := b k hk
        have : k ≠ n := fun z => c (z ▸ hk)
        omega
      omega
def sp_led (K : PySem.W.Frag) : Sp := fun vs H Q _ => ∃ (t p : Addr) (N : Nat) (ss : List Stp) (l : List Nat), vs = [.ref t, .ref p] ∧ StSq K H t ss ∧ SsOk N ss ∧ H p = some (.lst (nats l)) ∧ (∀ n ∈ l, n < N) ∧ l.length ≤ 300 ∧
  ∀ q (l' : List Nat) H', Same H H' → H q = none → H' q = some (.lst (nats l')) → (∀ n, n ∈ l' ↔ Reach ss l n) → l'.Pairwise (· < ·) → Q (.ref q) H'
theorem nodup_sub {α : Type} [DecidableEq α] : ∀ {l T : List α}, l.Nodup → (∀ x ∈ l, x ∈ T) → l.length ≤ T.length
  | [], _, _, _ => Nat.zero_le _
  | a :: l, T, h, s => by
    have q := List.nodup_cons.mp h
    have i := nodup_sub (T := T.erase a) q.2 fun x hx => (List.mem_erase_of_ne (fun e => q.1 (by rw [← e]; exact hx))).mpr (s x (List.mem_cons_of_mem _ hx))
    have m := s a List.mem_cons_self
    have := List.length_erase_of_mem m
    have := List.length_pos_of_mem m
    rw [List.length_cons]
    omega
theorem inV_nats (n : Nat) : ∀ l : List Nat, inV (.int (n : Nat)) (nats l) = decide (n ∈ l)
  | [] => rfl
  | a :: l => by
    have ih := inV_nats n l
    unfold inV nats at ih ⊢
    rw [List.map_cons, List.any_cons, ih]
    have e : eqV (.int (a : Nat)) (.int (n : Nat)) = decide (n = a) := by
      show ((((a : Nat) : Int)) == ((n : Nat) : Int)) = decide (n = a)
      rw [Bool.eq_iff_iff, beq_iff_eq, decide_eq_true_iff]
      omega
    rw [e]
    by_cases c : n = a
    · subst c
      simp
    · simp [c]
theorem flat_nats : ∀ l : List Nat, (nats l).all flatV = true
  | [] => rfl
  | a :: l => by
    show (flatV (.int (a : Nat)) && (nats l).all flatV) = true
    rw [flat_nats l]
    rfl
theorem dec_int (a b : Int) : decide (V.int a = V.int b) = decide (a = b) := decide_eq_decide.mpr ⟨fun h => by injection h, fun h => by rw [h]⟩
/-! ### a machine is one -/
def sp_check_machine (C : Addr) : Sp := fun vs H Q _ => ∃ x dx fs, vs = [.ref x] ∧ H x = some (.ins C dx fs) ∧ Q .non H
section
variable {P : Program} {w : World} {K : PySem.W.Frag} {mg : Str → Option Value} {base : Heap}
theorem ty_Machine (T : Txt K mg) {H : Hp} {x dx : Addr} {fs : List (Str × V)} (h : H x = some (.ins T.c_Machine dx fs)) : TyX K H (.ref x) (.ref T.c_Machine) := .base (.ins h T.cl_Machine T.i1_Machine T.i2_Machine T.i3_Machine T.i4_Machine)
theorem kit_self {C : Addr} : PySem.W.kitOne K (.ref C) (.ref C) = some true := by
  unfold PySem.W.kitOne
  rw [if_pos (by simp)]
theorem ok_check_machine (T : Txt K mg) : FnOk P w K mg base (L2.CX P w) 1 T.a_check_machine T.fd_check_machine ["value"] (sp_check_machine T.c_Machine) := by
  refine T.F_check_machine.okX sc_check_machine (fun vs H Q E h => ?_) (fun cdv A outer s H vs Q E hr h => ?_)
  · obtain ⟨x, dx, fs, rfl, _⟩ := h
    rfl
  · obtain ⟨x, dx, fs, rfl, hx, k⟩ := h
    refine ⟨_, (PSs.nox (pss_one (ps_if (pt_not (pt_val (pe_callB call_isi (by rfl) T.z_isinstance (by decide +kernel) (pa_cons (pv 0) (pa_cons (pe_glob (v := .ref T.c_Machine) (by rfl) T.m_Machine rfl) pa_nil)))))
  (pss_one ps_never)
  pss_nil))), ?_⟩
    walk_at "begin"
    walk_at "go"
    refine k_isi (.own _) (ty_Machine T hx) kit_self ?_
    walk_at "go"
    refine iteF ?_
    walk_at "go"
    exact k
end
/-! ### the steps from a stand -/
def nxV (s : Stp) : List V := [.str ⟨#[s.c]⟩, .int (s.e : Nat), .int s.g]
def NxAt (K : PySem.W.Frag) (H : Hp) (vs : List V) (ns : List Stp) : Prop := vs.length = ns.length ∧ ∀ (i : Nat) (s : Stp), ns[i]? = some s → ∃ p, vs[i]? = some (V.ref p) ∧ SqT K H p (nxV s)
theorem NxAt.tups {K : PySem.W.Frag} {H H' : Hp} {vs : List V} {ns : List Stp} (h : NxAt K H vs ns) (t : Tups H H') : NxAt K H' vs ns := ⟨h.1, fun i s e => let ⟨p, q, z⟩ := h.2 i s e; ⟨p, q, t.sq z⟩⟩
theorem NxAt.snoc {K : PySem.W.Frag} {H : Hp} {vs : List V} {ns : List Stp} {p : Addr} {s : Stp} (h : NxAt K H vs ns) (q : SqT K H p (nxV s)) : NxAt K H (vs ++ [V.ref p]) (ns ++ [s]) := by
  refine ⟨by rw [List.length_append, List.length_append, h.1]; rfl, fun i t e => ?_⟩
  by_cases c : i < ns.length
  · rw [List.getElem?_append_left c] at e
    obtain ⟨r, e1, q1⟩ := h.2 i t e
    exact ⟨r, by rw [List.getElem?_append_left (by rw [h.1]; exact c)]; exact e1, q1⟩
  · rw [List.getElem?_append_right (by omega)] at e
    have z : i - ns.length = 0 := by
      have := (List.getElem?_eq_some_iff.mp e).1
      simp at this
      omega
    rw [z] at e
    cases e
    exact ⟨p, by rw [List.getElem?_append_right (by rw [h.1]; omega), h.1, z]; rfl, q⟩
def fromS (m : MD) (n : Nat) : List Stp := m.ss.filter fun s => s.b == n
def sp_next (K : PySem.W.Frag) : Sp := fun vs H Q _ => ∃ (d : Addr) (n : Nat) (m : MD), vs = [.ref d, .int (n : Nat)] ∧ DAt K H d m ∧ m.Ok ∧
  ∀ p us H', Same H H' → H p = none → H' p = some (.lst us) → NxAt K H' us (fromS m n) → Q (.ref p) H'
section
variable {P : Program} {w : World} {K : PySem.W.Frag} {mg : Str → Option Value} {base : Heap}
theorem ok_law_next (T : Txt K mg) : FnOk P w K mg base (L2.CX P w) 1 T.a_law_next T.fd_law_next ["_law_d", "_law_stand"] (sp_next K) := by
  refine T.F_law_next.okX sc_law_next (fun vs H Q E h => ?_) (fun cdv A outer s H vs Q E hr h => ?_)
  · obtain ⟨d, n, m, rfl, _⟩ := h
    rfl
  · obtain ⟨d, n, m, rfl, ⟨t, u, hd, ⟨us, ht, hs⟩, hu⟩, o, k⟩ := h
    refine ⟨_, (PSs.nox (pss_one (ps_ret (pe_lc (own := [("_law_begun", 2), ("_law_letter", 3), ("_law_end", 4), ("_law_gain", 5)]) (g := (gTup K 4 (gCons (gName 2) (gCons (gName 3) (gCons (gName 4) (gCons (gName 5) gNil)))))) rfl sc_law_next.nd (pi_tup (pe_dget (hu_of hr) (pv 0) pe_str (fun _ _ => rfl))) (blkOk_by (own := [("_law_begun", 2), ("_law_letter", 3), ("_law_end", 4), ("_law_gain", 5)]) (N := ["_law_d", "_law_stand", "_law_begun", "_law_letter", "_law_end", "_law_gain"]) (sc := defScope s_law_next) (by decide +kernel)) (fun _ _ _ _ _ => (pg_tup rfl (pgs_cons (pg_name (i := 2) sc_law_next.nd rfl (Or.inl rfl)) (pgs_cons (pg_name (i := 3) sc_law_next.nd rfl (Or.inl rfl)) (pgs_cons (pg_name (i := 4) sc_law_next.nd rfl (Or.inl rfl)) (pgs_cons (pg_name (i := 5) sc_law_next.nd rfl (Or.inl rfl)) pgs_nil)))))) (fun _ _ _ _ _ => (pts_one (pt_cmpR op_eq (pv 2) (pv 1) (nomark _)))) (fun _ _ _ _ _ => (pe_tup (pa_cons (pv 3) (pa_cons (pv 4) (pa_cons (pv 5) pa_nil))))))))), ?_⟩
    walk_at "begin"
    walk_at "go"
    refine ⟨d, .ref t, rfl, DGet.k (k := .inr "steps") hd, t, rfl, ⟨us, ht⟩, fun D hD => ?_⟩
    refine lc_tup (xs := us) (fun i H' => Same H H' ∧ ∃ ws, H' D = some (.lst ws) ∧ NxAt K H' ws ((m.ss.take i).filter fun s => s.b == n) ∧ ws.length ≤ i) ⟨Same.new hD, [], upd_same, ⟨rfl, fun i s e => by simp at e⟩, Nat.le_refl _⟩
      (fun i H' _ ⟨z, _⟩ => (same_tups z).sq ht) ?_ ?_
    · rintro i y H1 hy ⟨z, ws, eD, nx, lw⟩
      have il : i < m.ss.length := by rw [← hs.1]; exact (List.getElem?_eq_some_iff.mp hy).1
      have ei : m.ss[i]? = some (m.ss[i]'il) := List.getElem?_eq_getElem il
      obtain ⟨q, eq, hq⟩ := hs.2 i _ ei
      rw [hy] at eq
      cases eq
      have l32 := o.len
      have tk : (m.ss.take (i + 1)).filter (fun s => s.b == n) = (m.ss.take i).filter (fun s => s.b == n) ++ (if (m.ss[i]'il).b == n then [m.ss[i]'il] else []) := by
        rw [List.take_add_one, ei, List.filter_append]
        congr 1
        show List.filter _ [m.ss[i]'il] = _
        rw [List.filter_cons]
        rfl
      rw [tk]
      generalize m.ss[i]'il = s0 at hq
      refine k_gt ((same_tups z).sq hq) rfl ?_
      unfold stpV
      walk_at "go"
      refine ⟨rfl, ?_⟩
      walk_at "go"
      refine k_ite (fun c => ?_) (fun c => ?_)
      · have c' : s0.b = n := by
          injection c with c
          omega
        walk_at "go"
        refine ⟨(by decide : 3 ≤ sizeLine), fun pn hpn => ?_⟩
        have eD2 : (upd H1 pn (.tup [.str ⟨#[s0.c]⟩, .int (s0.e : Nat), .int s0.g])) D = some (.lst ws) := by rw [upd_ne (ne_of_none eD hpn)]; exact eD
        refine ⟨ws, eD2, Nat.lt_trans (show ws.length < 100 by omega) (by decide), Same.mut (z.trans (Same.new hpn)) hD, _, upd_same, ?_, by rw [List.length_append, List.length_singleton]; omega⟩
        rw [if_pos (by rw [c']; exact beq_self_eq_true n)]
        exact ((nx.tups (Tups.new hpn)).snoc (SqT.of upd_same)).tups (Tups.lst eD2)
      · have c' : ¬ s0.b = n := fun z => c (by rw [z])
        refine ⟨z, ws, eD, ?_, by omega⟩
        rw [if_neg (by simpa using c'), List.append_nil]
        exact nx
    · rintro H1 ⟨z, ws, eD, nx, lw⟩
      rw [hs.1, List.take_length] at nx
      walk_at "go"
      exact k D ws H1 z hD eD nx
end
/-! ### words; the steps told as data -/
theorem bl_ne (b : Bool) : decide (V.bl (!b) = V.bl b) = false := by cases b <;> rfl
theorem sOf_fits {w : Wd} (h : w.length ≤ 100) : (sOf w).length ≤ sizeLine := by rw [sOf_len]; exact Nat.le_trans h (by decide)
theorem dp2 {K : PySem.W.Frag} {H : Hp} {p : Addr} {i j : Int} (h : SqT K H p [.int i, .int j]) : Dp K H (.ref p) (.tuple [.int i, .int j]) := .tup h (.cons (.int _) (.cons (.int _) .nil))
theorem eqv2 (i j : Int) : PyData.eqv (.tuple [.int i, .int j]) (.tuple [.int i, .int j]) = true := by
  show ((i == i) && ((j == j) && true)) = true
  simp
def nxD (s : Stp) : PyData := .tuple [.str ⟨#[s.c]⟩, .int (s.e : Nat), .int s.g]
theorem dp_nx {K : PySem.W.Frag} {H : Hp} : ∀ {us : List V} {ns : List Stp}, NxAt K H us ns → DpAll K H us (ns.map nxD)
  | [], [], _ => .nil
  | [], _ :: _, h => by have := h.1; simp at this
  | _ :: _, [], h => by have := h.1; simp at this
  | v :: us, s :: ns, h => by
    obtain ⟨p, e, q⟩ := h.2 0 s rfl
    have ev : v = .ref p := Option.some.inj e
    subst ev
    refine .cons (.tup q (.cons (.str _) (.cons (.int _) (.cons (.int _) .nil)))) (dp_nx (ns := ns) ⟨by have := h.1; simpa using this, fun i t et => h.2 (i + 1) t et⟩)
theorem nx_shaped : ∀ {ns : List Stp}, (∀ s ∈ ns, s.c ≤ 100) → PyData.canLayAll0 (ns.map nxD) = true ∧ PyData.depthAll (ns.map nxD) ≤ 3
  | [], _ => ⟨rfl, Nat.zero_le _⟩
  | s :: ns, h => by
    obtain ⟨h1, h2⟩ := nx_shaped (ns := ns) fun t ht => h t (List.mem_cons_of_mem _ ht)
    have hc := h s List.mem_cons_self
    constructor
    · show (PyData.canLay0 (nxD s) && PyData.canLayAll0 (ns.map nxD)) = true
      rw [h1, Bool.and_true]
      show ((#[s.c].all (· < 0x110000)) && (true && (true && true))) = true
      simp
      omega
    · show max (PyData.depth (nxD s)) (PyData.depthAll (ns.map nxD)) ≤ 3
      have : PyData.depth (nxD s) ≤ 3 := by
        show max _ (max _ (max _ _)) + 1 ≤ 3
        simp [PyData.depth, PyData.depthAll]
      omega
theorem nx_sh {ns : List Stp} (h : ∀ s ∈ ns, s.c ≤ 100) : SeqAt.shaped (.list (ns.map nxD)) = true := by
  obtain ⟨h1, h2⟩ := nx_shaped h
  show (PyData.canLayAll0 (ns.map nxD) && decide (PyData.depthAll (ns.map nxD) + 1 ≤ 64)) = true
  rw [h1, Bool.true_and]
  exact decide_eq_true (by omega)
theorem nx_eqv (ns : List Stp) : PyData.eqv (.list (ns.map nxD)) (.list []) = ns.isEmpty := by
  cases ns with
  | nil => rfl
  | cons s ns => rfl
/-- the rows -/
def stepOf (m : MD) (b c : Nat) : Option Stp := m.ss.find? fun s => s.b == b && s.c == c
def runW (m : MD) : Nat × Int → Wd → Option (Nat × Int)
  | st, [] => some st
  | st, c :: w => match stepOf m st.1 c with
    | none => none
    | some x => runW m (x.e, st.2 + x.g) w
def run (m : MD) (w : Wd) : Option (Nat × Int) := runW m (0, 0) w
theorem runW_snoc (m : MD) (c : Nat) : ∀ (w : Wd) (st : Nat × Int), runW m st (w ++ [c]) = (runW m st w).bind fun q => (stepOf m q.1 c).map fun x => (x.e, q.2 + x.g)
  | [], st => by
    show (match stepOf m st.1 c with | none => none | some x => some (x.e, st.2 + x.g)) = (stepOf m st.1 c).map _
    cases stepOf m st.1 c <;> rfl
  | a :: w, st => by
    show (match stepOf m st.1 a with | none => none | some x => runW m (x.e, st.2 + x.g) (w ++ [c])) = (match stepOf m st.1 a with | none => none | some x => runW m (x.e, st.2 + x.g) w).bind _
    cases stepOf m st.1 a with
    | none => rfl
    | some x => exact runW_snoc m c w (x.e, st.2 + x.g)
theorem stepOf_mem {m : MD} {b c : Nat} {s : Stp} (h : stepOf m b c = some s) : s ∈ m.ss ∧ s.b = b ∧ s.c = c := by
  have h1 := List.mem_of_find?_eq_some h
  have h2 := List.find?_some h
  rw [Bool.and_eq_true] at h2
  exact ⟨h1, by simpa using h2.1, by simpa using h2.2⟩
theorem stepOf_self {m : MD} (o : m.Ok) {s : Stp} (h : s ∈ m.ss) : stepOf m s.b s.c = some s := by
  cases e : stepOf m s.b s.c with
  | none =>
    have := List.find?_eq_none.mp e s h
    simp at this
  | some t =>
    obtain ⟨h1, h2, h3⟩ := stepOf_mem e
    obtain ⟨i, hi, ei⟩ := List.getElem_of_mem h
    obtain ⟨j, hj, ej⟩ := List.getElem_of_mem h1
    have up := List.pairwise_iff_getElem.mp o.up
    have : i = j := by
      rcases Nat.lt_trichotomy i j with c | c | c
      · have := up i j hi hj c
        rw [ei, ej] at this
        rcases this with z | z <;> omega
      · exact c
      · have := up j i hj hi c
        rw [ei, ej] at this
        rcases this with z | z <;> omega
    subst this
    rw [← ei, ← ej]
theorem run_snoc {m : MD} {w : Wd} {c : Nat} {n : Nat} {t : Int} : run m (w ++ [c]) = some (n, t) ↔ ∃ u t' s, run m w = some (u, t') ∧ stepOf m u c = some s ∧ n = s.e ∧ t = t' + s.g := by
  unfold run
  rw [runW_snoc]
  constructor
  · intro h
    cases e : runW m (0, 0) w with
    | none => rw [e] at h; cases h
    | some q =>
      rw [e] at h
      cases e2 : stepOf m q.1 c with
      | none =>
        have h' : (stepOf m q.1 c).map (fun x => (x.e, q.2 + x.g)) = some (n, t) := h
        rw [e2] at h'
        cases h'
      | some s =>
        have h' : (stepOf m q.1 c).map (fun x => (x.e, q.2 + x.g)) = some (n, t) := h
        rw [e2] at h'
        have h2 : (s.e, q.2 + s.g) = (n, t) := Option.some.inj h'
        injection h2 with h3 h4
        exact ⟨q.1, q.2, s, rfl, e2, h3.symm, h4.symm⟩
  · rintro ⟨u, t', s, e, e2, rfl, rfl⟩
    rw [e]
    show (stepOf m u c).map _ = _
    rw [e2]
    rfl
/-! ### two words one after the other -/
theorem runW_append (m : MD) (v : Wd) : ∀ (u : Wd) (st : Nat × Int), runW m st (u ++ v) = (runW m st u).bind fun q => runW m q v
  | [], st => rfl
  | a :: u, st => by
    show (match stepOf m st.1 a with | none => none | some x => runW m (x.e, st.2 + x.g) (u ++ v)) = (match stepOf m st.1 a with | none => none | some x => runW m (x.e, st.2 + x.g) u).bind _
    cases stepOf m st.1 a with
    | none => rfl
    | some x => exact runW_append m v u (x.e, st.2 + x.g)
/-! ### {(a, b): v for ..}: keys that are tuples -/
def tDcT (wi : TI) (g : TG) (tt : TT) (tk tv : TE) (vs : List Nat) : TE := fun σ H Q => wi σ H fun J H1 => ∀ D, H1 D = none → ∃ W : Nat → Nat → Hp → Prop, (∃ m, W 0 m (upd H1 D (.dT []))) ∧ ∀ i m H, W i m H →
  (J.stop i H ∧ Q (.ref D) H) ∨ (J.go i H ∧ ∃ Nx : Hp → Prop, (∀ H', Nx H' → ∃ m', m' < m ∧ W (i + 1) m' H') ∧ ∀ x H', J.yld i H x H' → g x (wipe σ vs) H' fun σ2 H2 => wipe σ2 vs = wipe σ vs ∧ tt σ2 H2 fun b H3 =>
    if b = true then tk σ2 H3 fun y H4 => tv σ2 H4 fun z H5 => ∃ kvs k b, y = .ref b ∧ H5 b = some (.tup (k.map kV)) ∧ H5 D = some (.dT kvs) ∧ kvs.length < sizeLine ∧ Nx (upd H5 D (.dT (putK kvs k z))) else Nx H3)
theorem dictSetT {X : Cx} {pins : List (Addr × Obj)} {σ : L2.St} {H : Hp} {s : Shared} {E : Value → Shared → Prop} {D b : Addr} {kvs : List (List Key × V)} {k : List Key} {v : V} {r : Value} {Q : Unit → Shared → Prop} (hu : X.A.units + 1 < cLine)
    (I : L2.Inv X pins σ H s) (eD : H D = some (.dT kvs)) (eb : H b = some (.tup (k.map kV))) (lz : kvs.length < sizeLine) (rv : RelV v r) (h : ∀ s', L2.Inv X pins σ (upd H D (.dT (putK kvs k v))) s' → Q () s') :
    wpAny (model X.prog X.w) X.A (dictSet D (.ref b) r) Q E s := by
  obtain ⟨z, nsm, xs, rel, dd⟩ := dt_of I.hok eD
  have lx : xs.length ≤ sizeLine := by rw [← Paired.length rel]; exact z
  have ll : (putK kvs k v).length ≤ sizeLine := Nat.le_trans (length_putK kvs k v) lz
  refine wpAny_dictSet_heap (hsz := lx) (Nat.lt_of_succ_lt hu) (key_of I.hok eb) dd fun h' dd' sb => h _ ?_
  obtain ⟨q, es, ep, eq, x2, x3, x4, _, x5⟩ := dd'
  refine d_write I (by rw [eD]; exact True.intro) sb ⟨q, eq⟩ ⟨ll, nsm, _, (rel.put k eb rv).keeps fun c ys ec => ?_, q, es, ep, eq, x2, x3, x4, x5⟩
  rw [upd_ne (ne_of ec eD (fun w => nomatch w))]
  exact ec
section
variable {X : Cx}
theorem dcT_core {pins : List (Addr × Obj)} {s : Shared} {σ : L2.St} {H : Hp} {Q : VK} {kx vx tg it : Expr} {ifs : List Expr} {sc : Scope} {own : List (Str × Nat)} {pos pos' : Pos} {wi : TI} {g : TG} {tt : TT} {tk tv : TE}
    {use : Option (Value → Sem Unit)} {Qf : Value → Shared → Prop} (hu : X.A.units + 1 < cLine) (hc : X.calm = true) (hN : X.N.Nodup) (I : L2.Inv X pins σ H s) (hi : PI X tg it wi) (ok : BlkOk X.N X.env.scope sc own)
    (hg : ∀ (s : Shared) (H : Hp) (C : Addr) (cl : List (Str × Addr)) (fp : List Addr), PG (X.blk s H sc (compEnvC sc cl C X.env) fp) tg g)
    (ht : ∀ (s : Shared) (H : Hp) (C : Addr) (cl : List (Str × Addr)) (fp : List Addr), PTs (X.blk s H sc (compEnvC sc cl C X.env) fp) ifs tt)
    (hk : ∀ (s : Shared) (H : Hp) (C : Addr) (cl : List (Str × Addr)) (fp : List Addr), PE (X.blk s H sc (compEnvC sc cl C X.env) fp) kx tk)
    (hv : ∀ (s : Shared) (H : Hp) (C : Addr) (cl : List (Str × Addr)) (fp : List Addr), PE (X.blk s H sc (compEnvC sc cl C X.env) fp) vx tv)
    (hs : ∀ x, foldedSetIterable it X.env x = pure x) (h : tDcT wi g tt tk tv (own.map (·.2)) σ H Q)
    (post : ∀ D C s' m H', L2.Inv X pins σ H' s' → Q (.ref D) H' → s'.heap.Ns C m → FpOk X pins H' C → compPost (model X.prog X.w) X.A X.xe use Qf (.ref D) C (.ok .next) s') :
    wpAny (model X.prog X.w) X.A (comprehension (.DictComp kx vx [⟨tg, it, ifs, 0⟩] sc pos) sc X.env pos' newDict false (eval it X.env) use) Qf X.xe s := by
  have fr : ∀ y ∈ sc.names, y.2 = .free → ∃ c, X.env.cells.lookup y.1 = some c := by
    intro y hy e
    exact (ok.free y hy e).elim (fun k => I.ok.has _ (.inl k)) (fun k => I.ok.has _ (.inr k))
  refine wpAny_comprehension_free (use := use) rfl hs (closure_ok fr) ok.kind (fun y hy e => by rw [ok.uniq y hy, e]) (thn (hi.run pins s σ H _ I h) ?_)
  intro xv p1 hx
  refine thn hx ?_
  rintro itv p2 ⟨ia, fp, tn, J, G2, rfl, J2, T, st2, f2, q⟩
  refine wpAny_newObj_type (newEnv_comp ?_)
  generalize eD : p2.heap.objs.size = D
  have nD : G2 D = none := J2.hok.fresh (Nat.le_of_eq eD)
  obtain ⟨W, ⟨m0, w0⟩, turn⟩ := q D nD
  generalize ep3 : ({ p2 with heap := p2.heap.push { cls := .type "dict", data := .dict #[] } } : Shared) = p3
  have J3 : L2.Inv X pins σ (upd G2 D (.dT [])) p3 := by
    rw [← ep3]
    refine J2.laid (t' := p2.toks) (fun b o e => Heap.get?_push_of_some _ e) (Nat.le_of_eq eD) ?_
    rw [← eD]
    exact dt_empty p2.heap J2.big
  have hp3 : p3.heap = p2.heap.push { cls := .type "dict", data := .dict #[] } := by rw [← ep3]
  have small : ∀ b ∈ fp, b < p2.heap.objs.size := by
    intro b hb
    obtain ⟨o, e, _⟩ := T.obj _ _ st2 b hb
    exact Heap.lt_size e
  have f3 : ∀ b ∈ fp, FpOk X pins (upd G2 D (.dT [])) b ∧ b < p3.heap.objs.size := by
    intro b hb
    have lt := small b hb
    have up : (upd G2 D (.dT [])) b = none := by
      rw [upd_ne (by rw [← eD]; exact Nat.ne_of_lt lt)]
      exact (f2 b hb).1
    exact ⟨⟨up, (f2 b hb).2⟩, by rw [hp3, Heap.size_push]; exact Nat.lt_succ_of_lt lt⟩
  have st3 : tn 0 p3.heap := T.keep _ _ _ st2 fun b _ o e => by rw [hp3]; exact Heap.get?_push_of_some _ e
  have J4 := block_start J3 ok hN f3
  have pG := hg p3 (upd G2 D (.dT [])) p3.heap.objs.size (cellsFrom (p3.heap.objs.size + 1) sc.names (cloFrom X.env.cells sc.names [])) fp
  have pT := ht p3 (upd G2 D (.dT [])) p3.heap.objs.size (cellsFrom (p3.heap.objs.size + 1) sc.names (cloFrom X.env.cells sc.names [])) fp
  have pK := hk p3 (upd G2 D (.dT [])) p3.heap.objs.size (cellsFrom (p3.heap.objs.size + 1) sc.names (cloFrom X.env.cells sc.names [])) fp
  have pV := hv p3 (upd G2 D (.dT [])) p3.heap.objs.size (cellsFrom (p3.heap.objs.size + 1) sc.names (cloFrom X.env.cells sc.names [])) fp
  show codeAny _ _ (.compStart (.DictComp kx vx [⟨tg, it, ifs, 0⟩] sc pos) 0 (.ref ia) (.ref D) (compEnvC sc (cellsFrom (p3.heap.objs.size + 1) sc.names (cloFrom X.env.cells sc.names [])) p3.heap.objs.size X.env))
    (compPost (model X.prog X.w) X.A X.xe use Qf (.ref D) p3.heap.objs.size) { p3 with heap := pushCells (p3.heap.push { cls := .type "dict", data := .dict #[] }) sc.names }
  have none3 : ∀ b ∈ fp, (upd G2 D (.dT [])) b = none := fun b hb => (f3 b hb).1.1
  generalize ece : compEnvC sc (cellsFrom (p3.heap.objs.size + 1) sc.names (cloFrom X.env.cells sc.names [])) p3.heap.objs.size X.env = ce at J4 pG pT pK pV ⊢
  have locs : ce.locals = p3.heap.objs.size := by subst ece; rfl
  generalize eG3 : upd G2 D (.dT []) = G3 at J3 J4 pG pT pK pV w0 none3 f3
  generalize ep4 : ({ p3 with heap := pushCells (p3.heap.push { cls := .type "dict", data := .dict #[] }) sc.names } : Shared) = p4 at J4 ⊢
  have st4 : tn 0 p4.heap := T.keep _ _ _ st3 fun b _ o e => by rw [← ep4]; exact pushCells_keeps _ _ _ _ (Heap.get?_push_of_some _ e)
  have here : ∀ {σ' : L2.St} {H' : Hp} {s' : Shared}, L2.Inv (X.blk p3 G3 sc ce fp) [] σ' H' s' → (∀ b ∈ fp, H' b = none) → ∀ b ∈ fp, FpOk (X.blk p3 G3 sc ce fp) [] H' b := by
    intro σ' H' s' Z hn b hb
    exact ⟨hn b hb, (Z.ok.exf b hb).1, Z.ok.exfs b hb, .inl hb, fun x c e => (Z.ok.exf b hb).2 x c e, fun p hp => absurd (show p ∈ ([] : List (Addr × Obj)) ++ [] from hp) (by simp)⟩
  have loop : codeAny (model X.prog X.w) X.A (.compLoop (.DictComp kx vx [⟨tg, it, ifs, 0⟩] sc pos) 0 (.ref ia) (.ref D) ce) (compPost (model X.prog X.w) X.A X.xe use Qf (.ref D) p3.heap.objs.size) p4 := by
    refine compLoop_anyD (fun n s' => ∃ i H', L2.Inv (X.blk p3 G3 sc ce fp) [] (wipe σ (own.map (·.2))) H' s' ∧ tn i s'.heap ∧ (∀ b ∈ fp, H' b = none) ∧ W i n H') ?_ m0 ⟨0, G3, J4, st4, none3, w0⟩
    rintro n p5 ⟨i, G5, J5, st5, n5, w5⟩
    rcases turn i n G5 w5 with ⟨stop, qq⟩ | ⟨go, Nx, hNx, step⟩
    · refine thnF (T.done (X.blk p3 G3 sc ce fp) rfl rfl rfl hc i [] p5 _ G5 (fun _ _ => False) J5 (here J5 n5) st5 stop) ?_
      rintro r p6 ⟨rfl, J6⟩
      have J7 : L2.Inv X pins σ G5 p6 := J3.call' (ch := fp) J6.os J6.base J6.hok J6.bare fun b hb => ⟨(f3 b hb).1.2.2.2.1, (f3 b hb).1.2.1, (f3 b hb).1.2.2.2.2.1, (f3 b hb).1.2.2.2.2.2⟩
      have nC : G5 p3.heap.objs.size = none := by
        have z : G5 ce.locals = none := J6.free
        rwa [locs] at z
      obtain ⟨m, hn, _⟩ := J6.loc
      have hn' : p6.heap.Ns ce.locals m := hn
      rw [locs] at hn'
      exact post D p3.heap.objs.size p6 m G5 J7 qq hn' (J3.fpOk (Nat.le_refl _) nC)
    · refine thnF (T.item (X.blk p3 G3 sc ce fp) rfl rfl rfl hc i [] p5 _ G5 (fun _ _ => False) J5 (here J5 n5) st5 go) ?_
      rintro r p6 ⟨u, rfl, h6⟩
      refine thnF h6 ?_
      rintro _ p7 ⟨x, G7, J7, r7, y7, st7, n7⟩
      have K7 := J7.pinned (here J7 n7) (T.obj _ _ st7)
      refine thnF (pG.run _ p7 _ G7 x u _ K7 r7 (step x G7 y7)) ?_
      rintro _ p8 ⟨σ8, G8, J8, hw8, q8⟩
      refine thnF (pT.run _ p8 σ8 G8 _ J8 q8) ?_
      rintro b p9 ⟨G9, J9, q9⟩
      have fin : ∀ {s' : Shared} {H' : Hp}, L2.Inv (X.blk p3 G3 sc ce fp) ([] ++ pinsAt fp p7.heap) σ8 H' s' → Nx H' →
          ∃ m, m < n ∧ ∃ i H', L2.Inv (X.blk p3 G3 sc ce fp) [] (wipe σ (own.map (·.2))) H' s' ∧ tn i s'.heap ∧ (∀ b ∈ fp, H' b = none) ∧ W i m H' := by
        intro s' H' Z nx
        obtain ⟨m', hm, w'⟩ := hNx H' nx
        have pin : ∀ b ∈ fp, ∀ o, p7.heap.get? b = some o → s'.heap.get? b = some o ∧ H' b = none := fun b hb o e =>
          let z := Z.pin (b, o) (List.mem_append_right _ (List.mem_append_right _ (mem_pinsAt hb e)))
          ⟨z.1, z.2.1⟩
        have len : (wipe σ (own.map (·.2))).length = σ8.length := by rw [← hw8, wipe_length]
        have back : L2.Inv (X.blk p3 G3 sc ce fp) [] (wipe σ (own.map (·.2))) H' s' := (Z.unpinned (pins := [])).weak len fun j v e => by
          rw [← hw8] at e
          exact (wipe_some e).1
        exact ⟨m', hm, i + 1, H', back, T.keep _ _ _ st7 fun b hb o e => (pin b hb o e).1, fun b hb => let ⟨o, e, _⟩ := T.obj _ _ st7 b hb; (pin b hb o e).2, w'⟩
      cases b with
      | false =>
        simp only [Bool.false_eq_true, if_false] at q9 ⊢
        exact fin J9 q9
      | true =>
        simp only [if_true] at q9 ⊢
        refine thnF (pK.run _ p9 σ8 G9 _ J9 q9) ?_
        rintro z p10 ⟨yk, G10, J10, r10, q10⟩
        refine thnF (pV.run _ p10 σ8 G10 _ J10 q10) ?_
        rintro z2 p11 ⟨yv, G11, J11, r11, kvs, k, kb, rfl, eb, eD11, lz, nx⟩
        cases (show z = Value.ref kb from r10)
        exact dictSetT (X := X.blk p3 G3 sc ce fp) hu J11 eD11 eb lz r11 fun p12 J12 => fin J12 nx
  exact codeAny_compStart_dict loop (T.self X.A 0 _ _ _ st4 loop)
theorem ps_setDcT {i : Nat} {y : Str} {py : Pos} {kx vx tg it : Expr} {ifs : List Expr} {scope : Scope} {own : List (Str × Nat)} {pos sp : Pos} {wi : TI} {g : TG} {tt : TT} {tk tv : TE} (hu : X.A.units + 1 < cLine) (hc : X.calm = true) (hN : X.N.Nodup)
    (hy : X.N[i]? = some y) (hyl : X.env.scope.names.lookup y = some .local) (hsw : swapsWith (.DictComp kx vx [⟨tg, it, ifs, 0⟩] scope pos) (some (.Name y py)) sp.line X.env = pure true)
    (hi : PI X tg it wi) (ok : BlkOk X.N X.env.scope scope own)
    (hg : ∀ (s : Shared) (H : Hp) (C : Addr) (cl : List (Str × Addr)) (fp : List Addr), PG (X.blk s H scope (compEnvC scope cl C X.env) fp) tg g)
    (ht : ∀ (s : Shared) (H : Hp) (C : Addr) (cl : List (Str × Addr)) (fp : List Addr), PTs (X.blk s H scope (compEnvC scope cl C X.env) fp) ifs tt)
    (hk : ∀ (s : Shared) (H : Hp) (C : Addr) (cl : List (Str × Addr)) (fp : List Addr), PE (X.blk s H scope (compEnvC scope cl C X.env) fp) kx tk)
    (hv : ∀ (s : Shared) (H : Hp) (C : Addr) (cl : List (Str × Addr)) (fp : List Addr), PE (X.blk s H scope (compEnvC scope cl C X.env) fp) vx tv)
    (hs : ∀ x, foldedSetIterable it X.env x = pure x := by intro _; rfl) :
    PS X (.Assign [.Name y py] (.DictComp kx vx [⟨tg, it, ifs, 0⟩] scope pos) sp) (tAsg (tDcT wi g tt tk tv (own.map (·.2))) (gName i)) := by
  constructor
  intro pins s σ H D I h
  rw [exec_Assign_Name_used _ _ _ _ hsw]
  refine wpAny_bind (wpAny_standAt (wpAny_bind ?_))
  show wpAny _ X.A (do let _ ← comprehension (.DictComp kx vx [⟨tg, it, ifs, 0⟩] scope pos) scope X.env (firstIterPos [⟨tg, it, ifs, 0⟩] pos) newDict false (eval it X.env) (some (assign (.Name y py) X.env))) _ _ s
  have h' : tDcT wi g tt tk tv (own.map (·.2)) σ H (fun x H1 => gName i x σ H1 D.nx) := h
  refine wpAny_bind (thn (dcT_core (Qf := fun _ s' => SP X pins D .next s') hu hc hN I hi ok hg ht hk hv hs h' ?_) fun _ s' hq => wpAny_pure (wpAny_pure hq))
  intro L C s' m H' I' q hn f
  show wpAny _ _ (assign (.Name y py) X.env (.ref L)) _ _ _
  refine wpAny_assign_Name (store_ok2 (v := V.ref L) I' hN hy (.inl hyl) rfl ?_ (.inr hyl))
  rintro s2 I2 ⟨a, sb, ha⟩
  obtain ⟨f0, f1, f2, f3, f4, f5⟩ := f
  have ne : C ≠ a := by
    rcases ha with z | z
    · rw [z]; exact f1
    · exact fun e => f4 y a z e.symm
  exact ⟨m, hn.sameBut sb ne, fun h3 sb3 => ⟨_, H', I2.turned (t' := s2.toks) (fun b o hb e => (sb3.2 b hb).trans e) f0 f1 f3 f4 f5, q⟩⟩
theorem pe_dcT {kx vx tg it : Expr} {ifs : List Expr} {scope : Scope} {own : List (Str × Nat)} {pos : Pos} {wi : TI} {g : TG} {tt : TT} {tk tv : TE} (hu : X.A.units + 1 < cLine) (hc : X.calm = true) (hN : X.N.Nodup) (hi : PI X tg it wi) (ok : BlkOk X.N X.env.scope scope own) (hg : ∀ (s : Shared) (H : Hp) (C : Addr) (cl : List (Str × Addr)) (fp : List Addr), PG (X.blk s H scope (compEnvC scope cl C X.env) fp) tg g) (ht : ∀ (s : Shared) (H : Hp) (C : Addr) (cl : List (Str × Addr)) (fp : List Addr), PTs (X.blk s H scope (compEnvC scope cl C X.env) fp) ifs tt) (hk : ∀ (s : Shared) (H : Hp) (C : Addr) (cl : List (Str × Addr)) (fp : List Addr), PE (X.blk s H scope (compEnvC scope cl C X.env) fp) kx tk) (hv : ∀ (s : Shared) (H : Hp) (C : Addr) (cl : List (Str × Addr)) (fp : List Addr), PE (X.blk s H scope (compEnvC scope cl C X.env) fp) vx tv) (hs : ∀ x, foldedSetIterable it X.env x = pure x := by intro _; rfl) :
    PE X (.DictComp kx vx [⟨tg, it, ifs, 0⟩] scope pos) (tDcT wi g tt tk tv (own.map (·.2))) := by
  constructor
  intro pins s σ H Q I h
  rw [arm_eval_DictComp]
  refine dcT_core hu hc hN I hi ok hg ht hk hv hs h ?_
  intro D C s' m H' I' q hn f
  refine ⟨m, hn, fun h3 sb => ?_⟩
  obtain ⟨f0, f1, f2, f3, f4, f5⟩ := f
  exact ⟨.ref D, H', I'.turned (t' := s'.toks) (fun b o hb e => (sb.2 b hb).trans e) f0 f1 f3 f4 f5, rfl, q⟩
/-- over a tuple that stays -/
theorem dcT_tup {K : PySem.W.Frag} {a : Addr} {xs : List V} {g : TG} {tt : TT} {tk tv : TE} {vs : List Nat} {σ : L2.St} {H1 : Hp} {D : Addr} {Qd : Hp → Prop} (Pv : Nat → Hp → Prop) (h0 : Pv 0 (upd H1 D (.dT [])))
    (hl : ∀ i H, i ≤ xs.length → Pv i H → SqT K H a xs)
    (hs : ∀ i x H, xs[i]? = some x → Pv i H → g x (wipe σ vs) H fun σ2 H2 => wipe σ2 vs = wipe σ vs ∧ tt σ2 H2 fun b H3 =>
      if b = true then tk σ2 H3 fun y H4 => tv σ2 H4 fun z H5 => ∃ kvs k b, y = .ref b ∧ H5 b = some (.tup (k.map kV)) ∧ H5 D = some (.dT kvs) ∧ kvs.length < sizeLine ∧ Pv (i + 1) (upd H5 D (.dT (putK kvs k z))) else Pv (i + 1) H3)
    (hd : ∀ H, Pv xs.length H → Qd H) :
    ∃ W : Nat → Nat → Hp → Prop, (∃ m, W 0 m (upd H1 D (.dT []))) ∧ ∀ i m H, W i m H → ((Itt K a).stop i H ∧ Qd H) ∨
      ((Itt K a).go i H ∧ ∃ Nx : Hp → Prop, (∀ H', Nx H' → ∃ m', m' < m ∧ W (i + 1) m' H') ∧ ∀ x H', (Itt K a).yld i H x H' → g x (wipe σ vs) H' fun σ2 H2 => wipe σ2 vs = wipe σ vs ∧ tt σ2 H2 fun b H3 =>
        if b = true then tk σ2 H3 fun y H4 => tv σ2 H4 fun z H5 => ∃ kvs k b, y = .ref b ∧ H5 b = some (.tup (k.map kV)) ∧ H5 D = some (.dT kvs) ∧ kvs.length < sizeLine ∧ Nx (upd H5 D (.dT (putK kvs k z))) else Nx H3) := by
  refine ⟨fun i m H => m + i = xs.length ∧ Pv i H, ⟨xs.length, by simp, h0⟩, fun i m H ⟨em, hP⟩ => ?_⟩
  have sq := hl i H (by omega) hP
  by_cases c : i < xs.length
  · refine .inr ⟨⟨xs, xs[i], sq, List.getElem?_eq_getElem c⟩, Pv (i + 1), fun H' z => ⟨m - 1, by omega, by omega, z⟩, ?_⟩
    rintro x H' ⟨rfl, hx⟩
    exact hs i x _ (hx xs sq) hP
  · have e : i = xs.length := by omega
    exact .inl ⟨⟨xs, sq, by omega⟩, hd H (e ▸ hP)⟩
theorem k_dcT {wi : TI} {g : TG} {tt : TT} {tk tv : TE} {vs : List Nat} {σ : L2.St} {H : Hp} {Q : VK} (h : wi σ H fun J H1 => ∀ D, H1 D = none → ∃ W : Nat → Nat → Hp → Prop, (∃ m, W 0 m (upd H1 D (.dT []))) ∧ ∀ i m H, W i m H →
  (J.stop i H ∧ Q (.ref D) H) ∨ (J.go i H ∧ ∃ Nx : Hp → Prop, (∀ H', Nx H' → ∃ m', m' < m ∧ W (i + 1) m' H') ∧ ∀ x H', J.yld i H x H' → g x (wipe σ vs) H' fun σ2 H2 => wipe σ2 vs = wipe σ vs ∧ tt σ2 H2 fun b H3 =>
    if b = true then tk σ2 H3 fun y H4 => tv σ2 H4 fun z H5 => ∃ kvs k b, y = .ref b ∧ H5 b = some (.tup (k.map kV)) ∧ H5 D = some (.dT kvs) ∧ kvs.length < sizeLine ∧ Nx (upd H5 D (.dT (putK kvs k z))) else Nx H3)) : tDcT wi g tt tk tv vs σ H Q := h
end
/-! ### where a row leads -/
def mkey (b c : Nat) : List Key := [.inl (b : Int), .inr ⟨#[c]⟩]
theorem mkey_inj {b c b' c' : Nat} : mkey b c = mkey b' c' ↔ b = b' ∧ c = c' := by
  constructor
  · intro h
    unfold mkey at h
    injection h with h1 h2
    injection h2 with h2 _
    injection h1 with h1
    injection h2 with h2
    injection h2 with h2
    exact ⟨by omega, by simpa using h2⟩
  · rintro ⟨rfl, rfl⟩
    rfl
def MvOk (K : PySem.W.Frag) (H : Hp) (kvs : List (List Key × V)) (ss : List Stp) : Prop := ∀ b c : Nat, ((∀ s ∈ ss, ¬ (s.b = b ∧ s.c = c)) → valV kvs (mkey b c) = none) ∧
  ∀ s ∈ ss, s.b = b → s.c = c → ∃ p, valV kvs (mkey b c) = some (.ref p) ∧ SqT K H p [.int (s.e : Nat), .int s.g]
theorem MvOk.tups {K : PySem.W.Frag} {H H' : Hp} {kvs : List (List Key × V)} {ss : List Stp} (h : MvOk K H kvs ss) (t : Tups H H') : MvOk K H' kvs ss := fun b c => ⟨(h b c).1, fun s hs e1 e2 => let ⟨p, q, z⟩ := (h b c).2 s hs e1 e2; ⟨p, q, t.sq z⟩⟩
theorem MvOk.snoc {K : PySem.W.Frag} {H : Hp} {kvs : List (List Key × V)} {ss : List Stp} {s : Stp} {p : Addr} (h : MvOk K H kvs ss) (hp : SqT K H p [.int (s.e : Nat), .int s.g]) (new : ∀ t ∈ ss, ¬ (t.b = s.b ∧ t.c = s.c)) : MvOk K H (putK kvs (mkey s.b s.c) (.ref p)) (ss ++ [s]) := by
  intro b c
  rw [valV_put]
  by_cases e : mkey b c = mkey s.b s.c
  · rw [if_pos e]
    obtain ⟨rfl, rfl⟩ := mkey_inj.mp e
    refine ⟨fun q => absurd ⟨rfl, rfl⟩ (q s (by simp)), fun t ht e1 e2 => ?_⟩
    rcases List.mem_append.mp ht with ht | ht
    · exact absurd ⟨e1, e2⟩ (new t ht)
    · rw [List.mem_singleton.mp ht]
      exact ⟨p, rfl, hp⟩
  · rw [if_neg e]
    refine ⟨fun q => (h b c).1 fun t ht => q t (List.mem_append_left _ ht), fun t ht e1 e2 => ?_⟩
    rcases List.mem_append.mp ht with ht | ht
    · exact (h b c).2 t ht e1 e2
    · rw [List.mem_singleton.mp ht] at e1 e2
      exact absurd (mkey_inj.mpr ⟨e1.symm, e2.symm⟩) e
/-- what is known of a value that is no text -/
def NotStr (K : PySem.W.Frag) (H : Hp) (v : V) : Prop := ∃ t, TyX K H v t ∧ PySem.W.kitOne K t (.type "str") = some false
def sp_moves (K : PySem.W.Frag) (C : Addr) : Sp := fun vs H Q _ => ∃ (x : Addr) (m : MD), vs = [.ref x] ∧ MAt K C H x m ∧ m.Ok ∧
  ∀ p kvs H', Same H H' → H p = none → H' p = some (.dT kvs) → MvOk K H' kvs m.ss → Q (.ref p) H'
section
variable {P : Program} {w : World} {K : PySem.W.Frag} {mg : Str → Option Value} {base : Heap}
theorem ok_moves_of (T : Txt K mg) : FnOk P w K mg base (L2.CX P w) 3 T.a_moves_of T.fd_moves_of ["machine"] (sp_moves K T.c_Machine) := by
  refine T.F_moves_of.okX sc_moves_of (fun vs H Q E h => ?_) (fun cdv A outer s H vs Q E hr h => ?_)
  · obtain ⟨x, m, rfl, _⟩ := h
    rfl
  · obtain ⟨x, m, rfl, ⟨dx, t, u, hx, ⟨us, ht, hs⟩, hu⟩, o, k⟩ := h
    refine ⟨_, (PSs.nox (pss_one (ps_ret (pe_dcT (own := [("begun", 1), ("letter", 2), ("end", 3), ("gain", 4)]) (g := (gTup K 4 (gCons (gName 1) (gCons (gName 2) (gCons (gName 3) (gCons (gName 4) gNil)))))) (tt := tYes) (hu_of hr) rfl sc_moves_of.nd (pi_tup (pe_prop (pv 0) T.cl_Machine T.p_steps (ok_Machine_steps T) (hr.mono (by decide)) T.b_Machine_steps .nil passL rfl)) (blkOk_by (own := [("begun", 1), ("letter", 2), ("end", 3), ("gain", 4)]) (N := ["machine", "begun", "letter", "end", "gain"]) (sc := defScope s_moves_of) (by decide +kernel)) (fun _ _ _ _ _ => (pg_tup rfl (pgs_cons (pg_name (i := 1) sc_moves_of.nd rfl (Or.inl rfl)) (pgs_cons (pg_name (i := 2) sc_moves_of.nd rfl (Or.inl rfl)) (pgs_cons (pg_name (i := 3) sc_moves_of.nd rfl (Or.inl rfl)) (pgs_cons (pg_name (i := 4) sc_moves_of.nd rfl (Or.inl rfl)) pgs_nil)))))) (fun _ _ _ _ _ => pts_nil) (fun _ _ _ _ _ => (pe_tup (pa_cons (pv 1) (pa_cons (pv 2) pa_nil)))) (fun _ _ _ _ _ => (pe_tup (pa_cons (pv 3) (pa_cons (pv 4) pa_nil)))))))), ?_⟩
    walk_at "begin"
    refine k_ret ?_
    refine k_dcT ?_
    walk_at "go"
    refine ⟨x, dx, _, rfl, hx, x, dx, _, .ref t, rfl, hx, rfl, t, rfl, ⟨us, ht⟩, fun D hD => ?_⟩
    refine dcT_tup (xs := us) (fun i H' => Same H H' ∧ ∃ kvs, H' D = some (.dT kvs) ∧ MvOk K H' kvs (m.ss.take i) ∧ kvs.length ≤ i) ⟨Same.new hD, [], upd_same, fun b c => ⟨fun _ => rfl, fun s hs => by simp at hs⟩, Nat.le_refl _⟩
      (fun i H' _ ⟨z, _⟩ => (same_tups z).sq ht) ?_ ?_
    · rintro i y H1 hy ⟨z1, kvs, eD, mv, len⟩
      have il : i < m.ss.length := by rw [← hs.1]; exact (List.getElem?_eq_some_iff.mp hy).1
      have ei : m.ss[i]? = some (m.ss[i]'il) := List.getElem?_eq_getElem il
      obtain ⟨q, eq, hq⟩ := hs.2 i _ ei
      rw [hy] at eq
      cases eq
      have new : ∀ s ∈ m.ss.take i, ¬ (s.b = (m.ss[i]'il).b ∧ s.c = (m.ss[i]'il).c) := fun s h e => by
        obtain ⟨j, hj, ej⟩ := List.getElem_of_mem h
        rw [List.length_take] at hj
        rw [List.getElem_take] at ej
        have := List.pairwise_iff_getElem.mp o.up j i (by omega) il (by omega)
        rw [ej] at this
        rcases this with q | q <;> omega
      have tk : m.ss.take (i + 1) = m.ss.take i ++ [m.ss[i]'il] := by rw [List.take_add_one, ei]; rfl
      have l32 := o.len
      rw [tk]
      generalize m.ss[i]'il = s0 at hq new
      refine k_gt ((same_tups z1).sq hq) rfl ?_
      unfold stpV
      walk_at "go"
      refine ⟨rfl, ?_⟩
      walk_at "go"
      refine iteT ?_
      walk_at "go"
      refine ⟨(by decide : 2 ≤ sizeLine), fun pk hpk => ?_⟩
      walk_at "go"
      refine ⟨(by decide : 2 ≤ sizeLine), fun pv hpv => ?_⟩
      have zk := z1.trans (Same.new (o := .tup [.int (s0.b : Nat), .str ⟨#[s0.c]⟩]) hpk)
      have zv := zk.trans (Same.new (o := .tup [.int (s0.e : Nat), .int s0.g]) hpv)
      have npk : D ≠ pk := ne_of_none eD hpk
      have eDk : (upd H1 pk (.tup [.int (s0.b : Nat), .str ⟨#[s0.c]⟩])) D = some (.dT kvs) := by rw [upd_ne npk]; exact eD
      have npv : D ≠ pv := ne_of_none eDk hpv
      have eDv : (upd (upd H1 pk (.tup [.int (s0.b : Nat), .str ⟨#[s0.c]⟩])) pv (.tup [.int (s0.e : Nat), .int s0.g])) D = some (.dT kvs) := by rw [upd_ne npv]; exact eDk
      refine ⟨kvs, mkey s0.b s0.c, pk, rfl, Same.new hpv _ _ upd_same, eDv, Nat.lt_of_le_of_lt len (Nat.lt_trans (show i < 100 by omega) (by decide)), Same.mut zv hD, _, upd_same, ?_, ?_⟩
      · exact ((mv.tups ((Tups.new hpk).trans (Tups.new hpv))).snoc (SqT.of upd_same) new).tups (Tups.dT eDv)
      · have := length_putK kvs (mkey s0.b s0.c) (V.ref pv)
        omega
    · rintro H1 ⟨z1, kvs, eD, mv, len⟩
      rw [hs.1, List.take_length] at mv
      exact k D kvs H1 z1 hD eD mv
end
/-! ### the moves, their keys in the steps' order -/
def mkeys (ss : List Stp) : List (List Key) := ss.map fun s => mkey s.b s.c
def sp_movesO (K : PySem.W.Frag) (C : Addr) : Sp := fun vs H Q _ => ∃ (x : Addr) (m : MD), vs = [.ref x] ∧ MAt K C H x m ∧ m.Ok ∧
  ∀ p kvs H', Same H H' → H p = none → H' p = some (.dT kvs) → MvOk K H' kvs m.ss → kvs.map (·.1) = mkeys m.ss → Q (.ref p) H'
theorem put_keys {kvs : List (List Key × V)} {k : List Key} {v : V} (h : k ∉ kvs.map (·.1)) : (putK kvs k v).map (·.1) = kvs.map (·.1) ++ [k] := by
  have : valV kvs k = none := by
    cases e : valV kvs k with
    | none => rfl
    | some x =>
      have a := valV_any k kvs
      rw [e] at a
      obtain ⟨kv, hm, hd⟩ := List.any_eq_true.mp (a.trans rfl)
      exact absurd (List.mem_map.mpr ⟨kv, hm, of_decide_eq_true hd⟩) h
  rw [putK_new _ this, List.map_append]
  rfl
section
variable {P : Program} {w : World} {K : PySem.W.Frag} {mg : Str → Option Value} {base : Heap}
theorem ok_moves_ord (T : Txt K mg) : FnOk P w K mg base (L2.CX P w) 3 T.a_moves_of T.fd_moves_of ["machine"] (sp_movesO K T.c_Machine) := by
  refine T.F_moves_of.okX sc_moves_of (fun vs H Q E h => ?_) (fun cdv A outer s H vs Q E hr h => ?_)
  · obtain ⟨x, m, rfl, _⟩ := h
    rfl
  · obtain ⟨x, m, rfl, ⟨dx, t, u, hx, ⟨us, ht, hs⟩, hu⟩, o, k⟩ := h
    refine ⟨_, (PSs.nox (pss_one (ps_ret (pe_dcT (own := [("begun", 1), ("letter", 2), ("end", 3), ("gain", 4)]) (g := (gTup K 4 (gCons (gName 1) (gCons (gName 2) (gCons (gName 3) (gCons (gName 4) gNil)))))) (tt := tYes) (hu_of hr) rfl sc_moves_of.nd (pi_tup (pe_prop (pv 0) T.cl_Machine T.p_steps (ok_Machine_steps T) (hr.mono (by decide)) T.b_Machine_steps .nil passL rfl)) (blkOk_by (own := [("begun", 1), ("letter", 2), ("end", 3), ("gain", 4)]) (N := ["machine", "begun", "letter", "end", "gain"]) (sc := defScope s_moves_of) (by decide +kernel)) (fun _ _ _ _ _ => (pg_tup rfl (pgs_cons (pg_name (i := 1) sc_moves_of.nd rfl (Or.inl rfl)) (pgs_cons (pg_name (i := 2) sc_moves_of.nd rfl (Or.inl rfl)) (pgs_cons (pg_name (i := 3) sc_moves_of.nd rfl (Or.inl rfl)) (pgs_cons (pg_name (i := 4) sc_moves_of.nd rfl (Or.inl rfl)) pgs_nil)))))) (fun _ _ _ _ _ => pts_nil) (fun _ _ _ _ _ => (pe_tup (pa_cons (pv 1) (pa_cons (pv 2) pa_nil)))) (fun _ _ _ _ _ => (pe_tup (pa_cons (pv 3) (pa_cons (pv 4) pa_nil)))))))), ?_⟩
    walk_at "begin"
    refine k_ret ?_
    refine k_dcT ?_
    walk_at "go"
    refine ⟨x, dx, _, rfl, hx, x, dx, _, .ref t, rfl, hx, rfl, t, rfl, ⟨us, ht⟩, fun D hD => ?_⟩
    refine dcT_tup (xs := us) (fun i H' => Same H H' ∧ ∃ kvs, H' D = some (.dT kvs) ∧ MvOk K H' kvs (m.ss.take i) ∧ kvs.length ≤ i ∧ kvs.map (·.1) = mkeys (m.ss.take i)) ⟨Same.new hD, [], upd_same, fun b c => ⟨fun _ => rfl, fun s hs => by simp at hs⟩, Nat.le_refl _, rfl⟩
      (fun i H' _ ⟨z, _⟩ => (same_tups z).sq ht) ?_ ?_
    · rintro i y H1 hy ⟨z1, kvs, eD, mv, len, kk⟩
      have il : i < m.ss.length := by rw [← hs.1]; exact (List.getElem?_eq_some_iff.mp hy).1
      have ei : m.ss[i]? = some (m.ss[i]'il) := List.getElem?_eq_getElem il
      obtain ⟨q, eq, hq⟩ := hs.2 i _ ei
      rw [hy] at eq
      cases eq
      have new : ∀ s ∈ m.ss.take i, ¬ (s.b = (m.ss[i]'il).b ∧ s.c = (m.ss[i]'il).c) := fun s h e => by
        obtain ⟨j, hj, ej⟩ := List.getElem_of_mem h
        rw [List.length_take] at hj
        rw [List.getElem_take] at ej
        have := List.pairwise_iff_getElem.mp o.up j i (by omega) il (by omega)
        rw [ej] at this
        rcases this with q | q <;> omega
      have tk : m.ss.take (i + 1) = m.ss.take i ++ [m.ss[i]'il] := by rw [List.take_add_one, ei]; rfl
      have l32 := o.len
      rw [tk]
      generalize m.ss[i]'il = s0 at hq new
      refine k_gt ((same_tups z1).sq hq) rfl ?_
      unfold stpV
      walk_at "go"
      refine ⟨rfl, ?_⟩
      walk_at "go"
      refine iteT ?_
      walk_at "go"
      refine ⟨(by decide : 2 ≤ sizeLine), fun pk hpk => ?_⟩
      walk_at "go"
      refine ⟨(by decide : 2 ≤ sizeLine), fun pv hpv => ?_⟩
      have zk := z1.trans (Same.new (o := .tup [.int (s0.b : Nat), .str ⟨#[s0.c]⟩]) hpk)
      have zv := zk.trans (Same.new (o := .tup [.int (s0.e : Nat), .int s0.g]) hpv)
      have npk : D ≠ pk := ne_of_none eD hpk
      have eDk : (upd H1 pk (.tup [.int (s0.b : Nat), .str ⟨#[s0.c]⟩])) D = some (.dT kvs) := by rw [upd_ne npk]; exact eD
      have npv : D ≠ pv := ne_of_none eDk hpv
      have eDv : (upd (upd H1 pk (.tup [.int (s0.b : Nat), .str ⟨#[s0.c]⟩])) pv (.tup [.int (s0.e : Nat), .int s0.g])) D = some (.dT kvs) := by rw [upd_ne npv]; exact eDk
      refine ⟨kvs, mkey s0.b s0.c, pk, rfl, Same.new hpv _ _ upd_same, eDv, Nat.lt_of_le_of_lt len (Nat.lt_trans (show i < 100 by omega) (by decide)), Same.mut zv hD, _, upd_same, ?_, ?_, ?_⟩
      · exact ((mv.tups ((Tups.new hpk).trans (Tups.new hpv))).snoc (SqT.of upd_same) new).tups (Tups.dT eDv)
      · have := length_putK kvs (mkey s0.b s0.c) (V.ref pv)
        omega
      · rw [put_keys, kk]
        · unfold mkeys; rw [List.map_append]; rfl
        · rw [kk]
          intro h
          obtain ⟨t, ht, e⟩ := List.mem_map.mp h
          exact new t ht (mkey_inj.mp e)
    · rintro H1 ⟨z1, kvs, eD, mv, len, kk⟩
      rw [hs.1, List.take_length] at mv kk
      exact k D kvs H1 z1 hD eD mv kk
end
/-! ### methods that may raise; len of an own object -/
def tMethX (C : Addr) (m : Str) (sp : Sp) (E : L2.St → XK) (ta : TE) (t : TA) : TE := fun σ H Q => ta σ H fun x H1 => ∃ a dx fs, x = .ref a ∧ H1 a = some (.ins C dx fs) ∧ fs.lookup m = none ∧ t σ H1 fun vs H2 => sp (x :: vs) H2 Q (E σ)
theorem k_methX {C : Addr} {m : Str} {sp : Sp} {E : L2.St → XK} {ta : TE} {t : TA} {σ : L2.St} {H : Hp} {Q : VK} (h : ta σ H fun x H1 => ∃ a dx fs, x = .ref a ∧ H1 a = some (.ins C dx fs) ∧ fs.lookup m = none ∧ t σ H1 fun vs H2 => sp (x :: vs) H2 Q (E σ)) : tMethX C m sp E ta t σ H Q := h
theorem k_meth {C : Addr} {m : Str} {sp : Sp} {dvs : List V} {E : XK} {ta : TE} {t : TA} {σ : L2.St} {H : Hp} {Q : VK} (h : ta σ H fun x H1 => ∃ a dx fs, x = .ref a ∧ H1 a = some (.ins C dx fs) ∧ fs.lookup m = none ∧ t σ H1 fun vs H2 => sp (x :: (vs ++ dvs)) H2 Q E) : tMeth C m sp dvs E ta t σ H Q := h
section
open PySem.Spec PyProof.Rows
theorem pe_methX {X : Cx} {CX : CXT} {k : Nat} {C f : Addr} {fd : FuncData} {ps : List Str} {m : Str} {sp : Sp} {E : L2.St → XK} {o e : Expr} {es : List Expr} {ta : TE} {t : TA} {apos pos : Pos} {pl : Sem Bool} (he : PE X o ta) (c : Cls X.K C) (hm : Meth X.K C m f)
    (F : FnOk X.prog X.w X.K X.mg X.base CX k f fd ps sp) (hr : Room k X.A) (hb : Binds X.K fd ps []) (hx : ∀ σ, PassesAt CX X σ (E σ)) (ha : PA X (e :: es) t)
    (hst : starEach (e :: es) X.env = (false, eval e X.env) :: starEach es X.env := by rfl) (hpl : (backTo pos (starEach es X.env)).any (·.1) = false := by rfl)
    (ht : eval (.Call (.Attribute o m apos) (e :: es) [] pos) X.env = (do
      let ov ← eval o X.env
      standAt apos.atName
      let (f, first) ← holding [ov] (getMethod ov m pl)
      callWith pos f first (backTo pos (starEach (e :: es) X.env)) (backToKw pos (keywordEach [] X.env))) := by rfl) :
    PE X (.Call (.Attribute o m apos) (e :: es) [] pos) (tMethX C m sp E ta t) := by
  refine ⟨fun pins s σ H Q I h => ?_⟩
  refine PySem.W.methodCall_KW (pl := pl) (thn (he.run pins s σ H _ I h) fun u s1 ⟨x, H1, I1, rx, a, dx, fs, ex, ea, l, q⟩ => ?_) ht
  subst ex
  obtain rfl : u = Value.ref a := rx
  refine getmeth_ok I1 ea c hm l ?_
  refine PySem.W.callWith_K (first := [.ref a]) (h₀ := X.base) I.ok.mod.kin hm.kp (thn (ha.run pos pins s1 σ H1 _ I1 q) fun us s2 ⟨vs, H2, I2, r, q2⟩ => ⟨I2.kIn, ?_⟩) hst hpl
  exact run_fnS (us := .ref a :: us) (vs := .ref a :: vs) F hr hb (hx σ) I2 (.cons rfl r) q2
/-- len(o), o of an own class with a __len__ that raises nothing -/
def rLenO (C : Addr) (sp : Sp) : List V → Hp → VK → Prop := fun xs H Q => ∃ (a dx : Addr) (fs : List (Str × V)), xs = [.ref a] ∧ H a = some (.ins C dx fs) ∧ sp [.ref a] H (fun v H' => ∃ n : Int, v = .int n ∧ 0 ≤ n ∧ n < 2 ^ 62 ∧ Q (.int n) H') E0
theorem call_lenO {X : Cx} {C f : Addr} {fd : FuncData} {ps : List Str} {sp : Sp} {n : Nat} (F : FnOk X.prog X.w X.K X.mg X.base (L2.CX X.prog X.w) n f fd ps sp) (hr : Room (n + 1) X.A) (hm : Meth X.K C "__len__" f) (hb : Binds X.K fd ps []) :
    CallR X (.builtin "len") (rLenO C sp) := by
  intro pins s σ H xs us Q I r h
  obtain ⟨a, dx, fs, rfl, ha, hsp⟩ := h
  obtain ⟨u, rfl, r1⟩ := vals1 r
  obtain rfl : u = Value.ref a := r1
  obtain ⟨mA, J, _⟩ := ins_get I.hok ha
  obtain ⟨od, J, _⟩ := J.look
  obtain ⟨m, hF⟩ := I.fr
  refine PySem.W.len_K hF I.ok.mod.kin J hm.at_ hm.fn ?_
  have r2 : Vals [V.ref a] [Value.ref a] := .cons rfl .nil
  have hl := F.len _ _ _ _ hsp
  have e0 : Env0 X.prog X.w X.K X.mg X.base X.A.in1 X.stack s H := by
    have e := I.env0
    exact ⟨e.frames, e.mod, e.bs, e.bsz, e.funs, e.frf, e.hok, e.bare⟩
  refine wpAny_call (codeAny_mono (F.run X.A.in1 X.stack s H ⟨[.ref a], []⟩ [.ref a] [.ref a] _ E0 hr.in1 e0 (by
    have := hb s [.ref a] I.kIn (by simpa using hl)
    simpa using this) r2 hsp) fun r s' hq => ?_)
  cases r with
  | error e => exact passL pins σ H s e s' I hq
  | ok fl =>
    cases fl with
    | ret w =>
      obtain ⟨z, H', I', rz, ⟨n, ez, n0, n1, q⟩⟩ := I.after hq
      subst ez
      obtain ⟨t, rfl⟩ := (show ∃ t, w = Value.int n t from rz)
      exact ⟨⟨n0, by omega⟩, ⟨.int n, H', I'.tok _, ⟨_, rfl⟩, q⟩⟩
    | next => exact False.elim hq
    | brk => exact False.elim hq
    | cont => exact False.elim hq
end
/-! ### words cut -/
theorem cutS_take (w : Wd) (k : Nat) : cutS (sOf w) none (some ((k : Nat) : Int)) = sOf (w.take k) := by
  unfold cutS
  rw [HT.sIx_none, HT.sIx_nat, sOf_len, Nat.sub_zero]
  show Str.mk (((w.drop 0).take (min k w.length)).toArray) = _
  rw [List.drop_zero]
  rcases Nat.le_total k w.length with h | h
  · rw [Nat.min_eq_left h]; rfl
  · rw [Nat.min_eq_right h, List.take_length, List.take_of_length_le h]; rfl
theorem cutS_drop (w : Wd) (k : Nat) : cutS (sOf w) (some ((k : Nat) : Int)) none = sOf (w.drop k) := by
  unfold cutS
  rw [HT.sIx_none, HT.sIx_nat, sOf_len]
  show Str.mk (((w.drop (min k w.length)).take (w.length - min k w.length)).toArray) = _
  rcases Nat.le_total k w.length with h | h
  · rw [Nat.min_eq_left h, List.take_of_length_le (by rw [List.length_drop]; exact Nat.le_refl _)]; rfl
  · rw [Nat.min_eq_right h, Nat.sub_self, List.take_zero, List.drop_eq_nil_of_le h]; rfl
theorem sOf_app (v w : Wd) : sOf v ++ sOf w = sOf (v ++ w) := by
  show Str.mk (v.toArray ++ w.toArray) = _
  rw [List.append_toArray]
  rfl
/-! ### meters: what stands in one -/
def tal (m : MD) (w : Wd) : Int := ((run m w).map (·.2)).getD 0
def sums (m : MD) (w : Wd) : List Int := (List.range (w.length + 1)).map fun i => tal m (w.take i)
structure SpanOf (m : MD) (w : Wd) (lo hi : Int) : Prop where
  l1 : lo ∈ sums m w
  l2 : ∀ y ∈ sums m w, lo ≤ y
  h1 : hi ∈ sums m w
  h2 : ∀ y ∈ sums m w, y ≤ hi
theorem sums_snoc (m : MD) (w : Wd) (c : Nat) : sums m (w ++ [c]) = sums m w ++ [tal m (w ++ [c])] := by
  unfold sums
  rw [List.length_append, List.length_singleton, List.range_succ, List.map_append]
  congr 1
  · refine List.map_congr_left fun i hi => ?_
    rw [List.take_append_of_le_length (by have := List.mem_range.mp hi; omega)]
  · show [tal m ((w ++ [c]).take (w.length + 1))] = _
    rw [List.take_of_length_le (by rw [List.length_append, List.length_singleton]; exact Nat.le_refl _)]
theorem sums_len (m : MD) (w : Wd) : (sums m w).length = w.length + 1 := by unfold sums; rw [List.length_map, List.length_range]
theorem SpanOf.nil (m : MD) : SpanOf m [] 0 0 := by
  have e : sums m [] = [0] := rfl
  exact ⟨by rw [e]; simp, by rw [e]; simp, by rw [e]; simp, by rw [e]; simp⟩
theorem SpanOf.snoc {m : MD} {w : Wd} {lo hi : Int} {c : Nat} (h : SpanOf m w lo hi) {t : Int} (e : tal m (w ++ [c]) = t) : SpanOf m (w ++ [c]) (if t < lo then t else lo) (if t > hi then t else hi) := by
  refine ⟨?_, ?_, ?_, ?_⟩ <;> rw [sums_snoc, e]
  · split
    · exact List.mem_append_right _ (List.mem_singleton.mpr rfl)
    · exact List.mem_append_left _ h.l1
  · intro y hy
    rcases List.mem_append.mp hy with hy | hy
    · have := h.l2 y hy
      split <;> omega
    · rw [List.mem_singleton.mp hy]
      split <;> omega
  · split
    · exact List.mem_append_right _ (List.mem_singleton.mpr rfl)
    · exact List.mem_append_left _ h.h1
  · intro y hy
    rcases List.mem_append.mp hy with hy | hy
    · have := h.h2 y hy
      split <;> omega
    · rw [List.mem_singleton.mp hy]
      split <;> omega
theorem SpanOf.uniq {m : MD} {w : Wd} {lo hi a b : Int} (h : SpanOf m w lo hi) (a1 : a ∈ sums m w) (a2 : ∀ y ∈ sums m w, a ≤ y) (b1 : b ∈ sums m w) (b2 : ∀ y ∈ sums m w, y ≤ b) : lo = a ∧ hi = b := by
  have h1 := h.l2 a a1
  have h2 := a2 lo h.l1
  have h3 := h.h2 b b1
  have h4 := b2 hi h.h1
  omega
def Plc (K : PySem.W.Frag) (H : Hp) (m : MD) (w : Wd) (q : Addr) : Prop := ∃ (st : Nat) (tl lo hi : Int) (r : Addr), run m w = some (st, tl) ∧ SqT K H q [.int (st : Nat), .int tl, .ref r] ∧ SqT K H r [.int lo, .int hi] ∧ SpanOf m w lo hi
def PlcAt (K : PySem.W.Frag) (H : Hp) (us : List V) (m : MD) (w : Wd) : Prop := us.length = w.length + 1 ∧ ∀ i, i ≤ w.length → ∃ q, us[i]? = some (V.ref q) ∧ Plc K H m (w.take i) q
theorem Plc.tups {K : PySem.W.Frag} {H H' : Hp} {m : MD} {w : Wd} {q : Addr} (h : Plc K H m w q) (t : Tups H H') : Plc K H' m w q := let ⟨st, tl, lo, hi, r, e, a, b, s⟩ := h; ⟨st, tl, lo, hi, r, e, t.sq a, t.sq b, s⟩
theorem PlcAt.tups {K : PySem.W.Frag} {H H' : Hp} {us : List V} {m : MD} {w : Wd} (h : PlcAt K H us m w) (t : Tups H H') : PlcAt K H' us m w := ⟨h.1, fun i hi => let ⟨q, e, z⟩ := h.2 i hi; ⟨q, e, z.tups t⟩⟩
theorem PlcAt.one {K : PySem.W.Frag} {H : Hp} {m : MD} {q : Addr} (h : Plc K H m [] q) : PlcAt K H [.ref q] m [] := ⟨rfl, fun i hi => by
  have : i = 0 := by simpa using hi
  subst this
  exact ⟨q, rfl, h⟩⟩
theorem PlcAt.snoc {K : PySem.W.Frag} {H : Hp} {us : List V} {m : MD} {w : Wd} {c : Nat} {q : Addr} (h : PlcAt K H us m w) (hq : Plc K H m (w ++ [c]) q) : PlcAt K H (us ++ [V.ref q]) m (w ++ [c]) := by
  refine ⟨by rw [List.length_append, List.length_append, h.1]; rfl, fun i hi => ?_⟩
  rw [List.length_append, List.length_singleton] at hi
  by_cases ci : i ≤ w.length
  · obtain ⟨q', e, z⟩ := h.2 i ci
    refine ⟨q', ?_, ?_⟩
    · rw [List.getElem?_append_left (by rw [h.1]; omega)]; exact e
    · rw [List.take_append_of_le_length ci]; exact z
  · have ei : i = w.length + 1 := by omega
    refine ⟨q, ?_, ?_⟩
    · rw [ei, ← h.1, List.getElem?_append_right (Nat.le_refl _), Nat.sub_self]; rfl
    · rw [List.take_of_length_le (by rw [List.length_append, List.length_singleton]; omega)]; exact hq
theorem PlcAt.pop {K : PySem.W.Frag} {H : Hp} {us : List V} {m : MD} {w : Wd} (h : PlcAt K H us m w) (ne : w ≠ []) : PlcAt K H us.dropLast m w.dropLast := by
  have lw : 0 < w.length := List.length_pos_iff.mpr ne
  refine ⟨by rw [List.length_dropLast, List.length_dropLast, h.1]; omega, fun i hi => ?_⟩
  rw [List.length_dropLast] at hi
  obtain ⟨q, e, z⟩ := h.2 i (by omega)
  refine ⟨q, ?_, ?_⟩
  · rw [List.getElem?_dropLast, if_pos (by rw [h.1]; omega)]; exact e
  · rw [List.dropLast_eq_take, List.take_take, Nat.min_eq_left (by omega)]; exact z
theorem PlcAt.last {K : PySem.W.Frag} {H : Hp} {us : List V} {m : MD} {w : Wd} (h : PlcAt K H us m w) : ∃ q, atI us (-1) = some (.ref q) ∧ us[us.length - 1]? = some (.ref q) ∧ Plc K H m w q := by
  obtain ⟨q, e, z⟩ := h.2 w.length (Nat.le_refl _)
  rw [List.take_length] at z
  refine ⟨q, ?_, by rw [h.1]; exact e, z⟩
  unfold atI
  have : ixN us.length (-1) = some w.length := by
    rw [h.1]
    unfold ixN
    simp
    omega
  rw [this]
  exact e
def mtF (x D : Addr) (w : Wd) (L : Addr) : List (Str × V) := [("_machine", .ref x), ("_moves", .ref D), ("_row", .str (sOf w)), ("_places", .ref L)]
/-- a meter at p, its list of places at L, behind the row w -/
def MtrAt (K : PySem.W.Frag) (C CM : Addr) (H : Hp) (p L : Addr) (m : MD) (w : Wd) : Prop := ∃ (dx x D : Addr) (us : List V) (kvs : List (List Key × V)), H p = some (.ins C dx (mtF x D w L)) ∧ MAt K CM H x m ∧ H D = some (.dT kvs) ∧ MvOk K H kvs m.ss ∧ kvs.map (·.1) = mkeys m.ss ∧ H L = some (.lst us) ∧ PlcAt K H us m w ∧ x ≠ p
theorem Keep.tupsI {a : Addr} {H H' : Hp} {C dx : Addr} {fs : List (Str × V)} (k : Keep a H H') (ha : H a = some (.ins C dx fs)) : Tups H H' := ⟨fun b _ e => k _ _ (fun z => by rw [z, ha] at e; cases e) e, fun b _ _ e => k _ _ (fun z => by rw [z, ha] at e; cases e) e⟩
/-- all but p and L stays -/
def Keep2 (p L : Addr) (H H' : Hp) : Prop := ∀ b o, b ≠ p → b ≠ L → H b = some o → H' b = some o
theorem Keep2.trans {p L : Addr} {H H1 H2 : Hp} (x : Keep2 p L H H1) (y : Keep2 p L H1 H2) : Keep2 p L H H2 := fun b o n1 n2 e => y b o n1 n2 (x b o n1 n2 e)
theorem Keep2.of_same {p L : Addr} {H H1 : Hp} (x : Same H H1) : Keep2 p L H H1 := fun b o _ _ e => x b o e
theorem Keep2.left {p L : Addr} {H : Hp} {o : HO} : Keep2 p L H (upd H p o) := fun b u n1 _ e => by rw [upd_ne n1]; exact e
theorem Keep2.right {p L : Addr} {H : Hp} {o : HO} : Keep2 p L H (upd H L o) := fun b u _ n2 e => by rw [upd_ne n2]; exact e
section
variable {K : PySem.W.Frag} {C CM : Addr} {H H' : Hp} {p L : Addr} {m : MD} {w : Wd}
theorem MtrAt.obj (h : MtrAt K C CM H p L m w) : (∃ dx fs, H p = some (.ins C dx fs)) ∧ ∃ us, H L = some (.lst us) := let ⟨_, _, _, _, _, e, _, _, _, _, eL, _⟩ := h; ⟨⟨_, _, e⟩, _, eL⟩
theorem Keep2.tups (k : Keep2 p L H H') (h : MtrAt K C CM H p L m w) : Tups H H' := by
  obtain ⟨⟨dx, fs, e1⟩, us, e2⟩ := h.obj
  exact ⟨fun b _ e => k _ _ (fun z => by rw [z, e1] at e; cases e) (fun z => by rw [z, e2] at e; cases e) e, fun b _ _ e => k _ _ (fun z => by rw [z, e1] at e; cases e) (fun z => by rw [z, e2] at e; cases e) e⟩
theorem Keep2.dAt {d : Addr} {m' : MD} (k : Keep2 p L H H') (h : MtrAt K C CM H p L m w) (hd : DAt K H d m') : DAt K H' d m' := by
  obtain ⟨⟨dx, fs, e1⟩, us, e2⟩ := h.obj
  obtain ⟨t, u, e, q⟩ := hd
  exact ⟨t, u, k _ _ (fun z => by rw [z, e1] at e; cases e) (fun z => by rw [z, e2] at e; cases e) e, (k.tups h).parts q⟩
theorem Keep2.row {a : Addr} (k : Keep2 p L H H') (h : MtrAt K C CM H p L m w) (ha : RowOk K H a) (ne : a ≠ L) : RowOk K H' a := by
  obtain ⟨⟨dx, fs, e1⟩, us, e2⟩ := h.obj
  obtain ⟨sc, ns, i, z, r, e, q, rest⟩ := ha
  refine ⟨sc, ns, i, z, r, k _ _ (fun z => by rw [z, e1] at e; cases e) ne e, ?_, rest⟩
  rcases q with ⟨o, q⟩ | q
  · exact .inl ⟨o, k _ _ (fun z => by rw [z, e1] at q; cases q) (fun z => by rw [z, e2] at q; cases q) q⟩
  · exact .inr q
theorem MtrAt.keep2 {p' L' : Addr} {m' : MD} {w' : Wd} (k : Keep2 p L H H') (h : MtrAt K C CM H p L m w) (h' : MtrAt K C CM H p' L' m' w') (n1 : p' ≠ p) (n2 : L' ≠ L) : MtrAt K C CM H' p' L' m' w' := by
  obtain ⟨dx0, x0, D0, us0, kvs0, e1, _, _, _, _, e2, _⟩ := id h
  obtain ⟨dx, x, D, us, kvs, ep, ⟨dm, t, u, ex, hp⟩, eD, mv, kk, eL, pl, ne⟩ := h'
  have t := k.tups h
  refine ⟨dx, x, D, us, kvs, k _ _ n1 (fun z => by rw [z, e2] at ep; cases ep) ep, ⟨dm, _, _, k _ _ (fun z => ?_) (fun z => by rw [z, e2] at ex; cases ex) ex, t.parts hp⟩, k _ _ (fun z => by rw [z, e1] at eD; cases eD) (fun z => by rw [z, e2] at eD; cases eD) eD, mv.tups t, kk,
    k _ _ (fun z => by rw [z, e1] at eL; cases eL) n2 eL, pl.tups t, ne⟩
  rw [z, e1] at ex
  injection ex with ex
  injection ex with _ _ ex
  have : (("_machine" : Str)) = ("_stands" : Str) := by
    unfold mtF mfs at ex
    injection ex with ex _
    injection ex with ex _
  exact absurd this (by decide)
theorem MtrAt.same (h : MtrAt K C CM H p L m w) (k : Same H H') : MtrAt K C CM H' p L m w := by
  obtain ⟨dx, x, D, us, kvs, ep, hx, eD, mv, kk, eL, pl, ne⟩ := h
  have t := same_tups k
  exact ⟨dx, x, D, us, kvs, k _ _ ep, hx.same k, k _ _ eD, mv.tups t, kk, k _ _ eL, pl.tups t, ne⟩
theorem MtrAt.keep {a : Addr} {l : List V} (h : MtrAt K C CM H p L m w) (k : Keep a H H') (ea : H a = some (.lst l)) (ne : a ≠ L) : MtrAt K C CM H' p L m w := by
  obtain ⟨dx, x, D, us, kvs, ep, hx, eD, mv, kk, eL, pl, nx⟩ := h
  have t := k.tups ea
  exact ⟨dx, x, D, us, kvs, k _ _ (fun z => by rw [z, ea] at ep; cases ep) ep, hx.keep k ea, k _ _ (fun z => by rw [z, ea] at eD; cases eD) eD, mv.tups t, kk, k _ _ ne.symm eL, pl.tups t, nx⟩
/-- all that a letter or an undo changes -/
theorem MtrAt.next {dx x D : Addr} {us : List V} {kvs : List (List Key × V)} {fs : List (Str × V)} {w' : Wd} (k : Keep2 p L H H') (ep0 : H p = some (.ins C dx fs)) (eL0 : H L = some (.lst us)) (hx : MAt K CM H x m) (eD : H D = some (.dT kvs)) (mv : MvOk K H kvs m.ss) (kk : kvs.map (·.1) = mkeys m.ss) (nx : x ≠ p)
    {us' : List V} (ep : H' p = some (.ins C dx (mtF x D w' L))) (eL : H' L = some (.lst us')) (pl : PlcAt K H' us' m w') : MtrAt K C CM H' p L m w' := by
  have t : Tups H H' := ⟨fun b _ e => k _ _ (fun z => by rw [z, ep0] at e; cases e) (fun z => by rw [z, eL0] at e; cases e) e, fun b _ _ e => k _ _ (fun z => by rw [z, ep0] at e; cases e) (fun z => by rw [z, eL0] at e; cases e) e⟩
  obtain ⟨dm, ta, u, ex, hp⟩ := hx
  exact ⟨dx, x, D, us', kvs, ep, ⟨dm, ta, u, k _ _ nx (fun z => by rw [z, eL0] at ex; cases ex) ex, t.parts hp⟩, k _ _ (fun z => by rw [z, ep0] at eD; cases eD) (fun z => by rw [z, eL0] at eD; cases eD) eD, mv.tups t, kk, eL, pl, nx⟩
end
theorem unlock_any {H2 H' : Hp} {e : Addr} {o : HO} {u : HO} (he : H2 e = some u) (z : Same (upd H2 e o) H') : Same H2 (upd H' e u) := fun b ob eb => by
  by_cases c : b = e
  · rw [c, he] at eb
    rw [c, upd_same]
    exact eb
  · rw [upd_ne c]
    exact z _ _ (by rw [upd_ne c]; exact eb)
def lsV (l : List Nat) : List V := l.map fun c => V.str ⟨#[c]⟩
theorem lsV_strs (l : List Nat) : lsV l = (l.map fun c => (⟨#[c]⟩ : Str)).map V.str := by unfold lsV; rw [List.map_map]; rfl
/-! ### texts of letters -/
def rAddS : V → V → Hp → VK → Prop := fun x y H Q => ∃ i j, x = .str i ∧ y = .str j ∧ i.length + j.length ≤ sizeLine ∧ Q (.str (i ++ j)) H
theorem in_addS {X : Cx} : InOp X .Add rAddS := fun pins s σ H x y u v Q I rx ry h => iop_add_str pins s σ H x y u v Q I rx ry h

theorem cutS_last {w : Wd} (h : w ≠ []) : cutS (sOf w) none (some (-1)) = sOf w.dropLast := by
  have : 0 < w.length := List.length_pos_iff.mpr h
  unfold cutS
  rw [HT.sIx_none, sOf_len, Nat.sub_zero]
  have e : HT.sIx w.length w.length (some (-1)) = w.length - 1 := by
    show (if (-1 : Int) < 0 then ((-1 : Int) + (w.length : Int)).toNat else min (-1 : Int).toNat w.length) = w.length - 1
    rw [if_pos (by decide)]
    omega
  rw [e, List.dropLast_eq_take]
  rfl
theorem cutS_last0 : cutS (sOf []) none (some (-1)) = sOf [] := by decide
theorem cutS_lastA (w : Wd) : cutS (sOf w) none (some (-1)) = sOf w.dropLast := by
  cases w with
  | nil => exact cutS_last0
  | cons c w => exact cutS_last (by simp)
theorem sOf_empty {w : Wd} : decide (V.str (sOf w) = V.str "") = decide (w = []) := by
  by_cases h : w = []
  · subst h; rfl
  · rw [decide_eq_false h, decide_eq_false]
    intro e
    injection e with e
    exact h (sOf_inj (w := []) e)
theorem sOf_inj' {z : Str} {w : Wd} (h : z.cps.toList = w) : z = sOf w := by
  subst h
  rfl
theorem joinL_lets : ∀ l : List Nat, TL.joinL [] (l.map fun c => [c]) = l
  | [] => rfl
  | [_] => rfl
  | a :: b :: l => by
    show [a] ++ ([] ++ TL.joinL [] ((b :: l).map fun c => [c])) = _
    rw [joinL_lets (b :: l)]
    rfl
theorem join_lets (l : List Nat) : Txt.join "" (l.map fun c => (⟨#[c]⟩ : Str)) = sOf l := by
  rw [TL.join_eq]
  have e : (Str.join "" (l.map fun c => (⟨#[c]⟩ : Str))).cps.toList = l := by
    have := TL.tl_join "" (l.map fun c => (⟨#[c]⟩ : Str))
    rw [List.map_map] at this
    exact this.trans (joinL_lets l)
  exact sOf_inj' e
theorem lets_sum : ∀ l : List Nat, ((l.map fun c => (⟨#[c]⟩ : Str)).map (·.length)).sum = l.length
  | [] => rfl
  | a :: l => by
    show 1 + ((l.map fun c => (⟨#[c]⟩ : Str)).map (·.length)).sum = l.length + 1
    rw [lets_sum l]
    omega
/-! ### meters: what their methods do -/
def sp_mtr (K : PySem.W.Frag) (C CM : Addr) : Sp := fun vs H Q _ => ∃ (p dx x : Addr) (m : MD), vs = [.ref p, .ref x] ∧ H p = some (.ins C dx []) ∧ MAt K CM H x m ∧ m.Ok ∧
  ∀ L H', Keep p H H' → H L = none → MtrAt K C CM H' p L m [] → Q .non H'
def sp_place (K : PySem.W.Frag) (C : Addr) (pick : Nat → Int → Addr → V) : Sp := fun vs H Q _ => ∃ (p dx : Addr) (fs : List (Str × V)) (L : Addr) (us : List V) (q : Addr) (st : Nat) (tl : Int) (r : Addr), vs = [.ref p] ∧ H p = some (.ins C dx fs) ∧ fs.lookup ("_places" : Str) = some (.ref L) ∧
  SqL K H L us ∧ atI us (-1) = some (.ref q) ∧ SqT K H q [.int (st : Nat), .int tl, .ref r] ∧ Q (pick st tl r) H
def pkS : Nat → Int → Addr → V := fun st _ _ => .int (st : Nat)
def pkT : Nat → Int → Addr → V := fun _ tl _ => .int tl
def pkR : Nat → Int → Addr → V := fun _ _ r => .ref r
/-- a letter that is read, or refused -/
def sp_read (K : PySem.W.Frag) (C CM B : Addr) : Sp := fun vs H Q E => ∃ (p L : Addr) (m : MD) (w : Wd) (v : V) (st : Nat) (tl : Int), vs = [.ref p, v] ∧ MtrAt K C CM H p L m w ∧ m.Ok ∧ w.length ≤ 100 ∧ run m w = some (st, tl) ∧
  ((NotStr K H v ∧ ∀ H', Same H H' → E (.ref B) none H') ∨ (∃ z : Str, v = .str z ∧ (∀ c, z = ⟨#[c]⟩ → stepOf m st c = none) ∧ ∀ H', Same H H' → E (.ref B) none H') ∨
    ∃ (c : Nat) (s : Stp), v = .str ⟨#[c]⟩ ∧ stepOf m st c = some s ∧ ∀ H', Keep2 p L H H' → MtrAt K C CM H' p L m (w ++ [c]) → Q (.int (tl + s.g)) H')
def sp_can (K : PySem.W.Frag) (C CM : Addr) : Sp := fun vs H Q _ => ∃ (p L : Addr) (m : MD) (w : Wd) (st : Nat) (tl : Int), vs = [.ref p] ∧ MtrAt K C CM H p L m w ∧ m.Ok ∧ run m w = some (st, tl) ∧
  ∀ H', Same H H' → Q (.str (sOf ((fromS m st).map (·.c)))) H'
def sp_undo (K : PySem.W.Frag) (C CM : Addr) : Sp := fun vs H Q _ => ∃ (p L : Addr) (m : MD) (w : Wd), vs = [.ref p] ∧ MtrAt K C CM H p L m w ∧ w.length ≤ 100 ∧
  ∀ H', Keep2 p L H H' → MtrAt K C CM H' p L m w.dropLast → Q (.bl (!decide (w = []))) H'
def sp_copy (K : PySem.W.Frag) (C CM : Addr) : Sp := fun vs H Q _ => ∃ (p L : Addr) (m : MD) (w : Wd), vs = [.ref p] ∧ MtrAt K C CM H p L m w ∧ m.Ok ∧
  ∀ p' L' H', Same H H' → H p' = none → H L' = none → MtrAt K C CM H' p' L' m w → Q (.ref p') H'
def sp_mlen (K : PySem.W.Frag) (C CM : Addr) : Sp := fun vs H Q _ => ∃ (p L : Addr) (m : MD) (w : Wd), vs = [.ref p] ∧ MtrAt K C CM H p L m w ∧ w.length ≤ 100 ∧ Q (.int (w.length : Nat)) H
theorem valV_none {kvs : List (List Key × V)} {k : List Key} (h : k ∉ kvs.map (·.1)) : valV kvs k = none := by
  cases e : valV kvs k with
  | none => rfl
  | some x =>
    have a := valV_any k kvs
    rw [e] at a
    obtain ⟨kv, hm, hd⟩ := List.any_eq_true.mp (a.trans rfl)
    exact absurd (List.mem_map.mpr ⟨kv, hm, of_decide_eq_true hd⟩) h
theorem MvOk.not {K : PySem.W.Frag} {H : Hp} {kvs : List (List Key × V)} {m : MD} {st : Nat} {z : Str} (_ : MvOk K H kvs m.ss) (kk : kvs.map (·.1) = mkeys m.ss) (nz : ∀ c, z = ⟨#[c]⟩ → stepOf m st c = none) : valV kvs [.inl (st : Int), .inr z] = none := by
  refine valV_none ?_
  rw [kk]
  intro h
  obtain ⟨s, hs, e⟩ := List.mem_map.mp h
  unfold mkey at e
  injection e with e1 e2
  injection e2 with e2 _
  injection e1 with e1
  injection e2 with e2
  have := List.find?_eq_none.mp (nz s.c e2.symm) s hs
  simp at this
  omega
section
variable {P : Program} {w : World} {K : PySem.W.Frag} {mg : Str → Option Value} {base : Heap}
theorem ok_Meter_init (T : Txt K mg) : FnOk P w K mg base (L2.CX P w) 4 T.a_Meter_init T.fd_Meter_init ["self", "machine"] (sp_mtr K T.c_Meter T.c_Machine) := by
  refine T.F_Meter_init.okX sc_Meter_init (fun vs H Q E h => ?_) (fun cdv A outer s H vs Q E hr h => ?_)
  · obtain ⟨p, dx, x, m, rfl, _⟩ := h
    rfl
  · obtain ⟨p, dx, x, m, rfl, hp, hx, o, k⟩ := h
    have nx : x ≠ p := fun z => by
      obtain ⟨dm, t, u, e, _⟩ := hx
      rw [z, hp] at e
      injection e with e
      injection e with _ _ e
      cases e
    refine ⟨_, (PSs.nox (pss_cons (ps_expr (pe_call (ok_check_machine T) (hr.mono (by decide)) (by rfl) T.m_check_machine T.k_check_machine T.b_check_machine .nil passL (pa_cons (pv 1) pa_nil)))
  (pss_cons (ps_fld (pv 0) (pv 1) rfl)
  (pss_cons (ps_fld (pv 0) (pe_call (ok_moves_ord T) (hr.mono (by decide)) (by rfl) T.m_moves_of T.k_moves_of T.b_moves_of .nil passL (pa_cons (pv 1) pa_nil)) rfl)
  (pss_cons (ps_fld (pv 0) pe_str rfl)
  (pss_one (ps_fld (pv 0) (pe_lst (pa_cons (pe_tup (pa_cons pe_int (pa_cons pe_int (pa_cons (pe_tup (pa_cons pe_int (pa_cons pe_int pa_nil))) pa_nil)))) pa_nil)) rfl))))))), ?_⟩
    walk_at "begin"
    walk_at "go"
    obtain ⟨dm, t0, u0, ex, hpt⟩ := id hx
    refine ⟨x, dm, _, rfl, ex, ?_⟩
    walk_at "go"
    refine ⟨_, rfl, _, rfl, p, _, dx, _, rfl, hp, T.cl_Meter, T.n__machine, (by decide : 0 < 1000), ?_⟩
    walk_at "go"
    have k1 : Keep p H (upd H p (.ins T.c_Meter dx (putF "_machine" (.ref x) []))) := Keep.at_
    have hx1 : MAt K T.c_Machine (upd H p (.ins T.c_Meter dx (putF "_machine" (.ref x) []))) x m := ⟨dm, t0, u0, k1 _ _ nx ex, (k1.tupsI hp).parts hpt⟩
    have p1 : (upd H p (.ins T.c_Meter dx (putF "_machine" (.ref x) []))) p = some (.ins T.c_Meter dx (putF "_machine" (.ref x) [])) := upd_same
    generalize upd H p (.ins T.c_Meter dx (putF "_machine" (.ref x) [])) = H1 at k1 hx1 p1
    refine ⟨_, rfl, x, m, rfl, hx1, o, fun D kvs H2 z2 hD eD mv kk => ?_⟩
    have p2 := z2 _ _ p1
    have nD : D ≠ p := fun z => by rw [z, p1] at hD; cases hD
    refine ⟨_, rfl, p, _, dx, _, rfl, p2, T.cl_Meter, T.n__moves, few 1 (by decide) (length_putF _ _ _), ?_⟩
    walk_at "go"
    refine ⟨_, rfl, p, _, dx, _, rfl, upd_same, T.cl_Meter, T.n__row, few 2 (by decide) (Nat.le_trans (length_putF _ _ _) (Nat.succ_le_succ (length_putF _ _ _))), ?_⟩
    walk_at "go"
    have k3 : Keep p H2 (upd (upd H2 p (.ins T.c_Meter dx (putF "_moves" (.ref D) (putF "_machine" (.ref x) [])))) p (.ins T.c_Meter dx (putF "_row" (.str "") (putF "_moves" (.ref D) (putF "_machine" (.ref x) []))))) := Keep.at_.trans Keep.at_
    have p3 : (upd (upd H2 p (.ins T.c_Meter dx (putF "_moves" (.ref D) (putF "_machine" (.ref x) [])))) p (.ins T.c_Meter dx (putF "_row" (.str "") (putF "_moves" (.ref D) (putF "_machine" (.ref x) []))))) p = some (.ins T.c_Meter dx (putF "_row" (.str "") (putF "_moves" (.ref D) (putF "_machine" (.ref x) [])))) := upd_same
    generalize upd (upd H2 p (.ins T.c_Meter dx (putF "_moves" (.ref D) (putF "_machine" (.ref x) [])))) p (.ins T.c_Meter dx (putF "_row" (.str "") (putF "_moves" (.ref D) (putF "_machine" (.ref x) [])))) = H3 at k3 p3
    have t3 := k3.tupsI p2
    refine ⟨(by decide : 2 ≤ sizeLine), fun r nr => ?_⟩
    refine ⟨(by decide : 3 ≤ sizeLine), fun q nq => ?_⟩
    refine ⟨(by decide : 1 ≤ sizeLine), fun L nL => ?_⟩
    have zz := ((Same.new (o := .tup [.int 0, .int 0]) nr).trans (Same.new (o := .tup [.int 0, .int 0, .ref r]) nq)).trans (Same.new (o := .lst [.ref q]) nL)
    have hq := (Same.new (o := .lst [.ref q]) nL) _ _ (upd_same (a := q) (H := upd H3 r (.tup [.int 0, .int 0])) (o := .tup [.int 0, .int 0, .ref r]))
    have hr' := ((Same.new (o := .tup [.int 0, .int 0, .ref r]) nq).trans (Same.new (o := .lst [.ref q]) nL)) _ _ (upd_same (a := r) (H := H3) (o := .tup [.int 0, .int 0]))
    have eL := upd_same (a := L) (H := upd (upd H3 r (.tup [.int 0, .int 0])) q (.tup [.int 0, .int 0, .ref r])) (o := .lst [.ref q])
    generalize upd (upd (upd H3 r (.tup [.int 0, .int 0])) q (.tup [.int 0, .int 0, .ref r])) L (.lst [.ref q]) = H4 at zz hq hr' eL
    have p4 := zz _ _ p3
    refine ⟨_, rfl, p, _, dx, _, rfl, p4, T.cl_Meter, T.n__places, few 3 (by decide) (Nat.le_trans (length_putF _ _ _) (Nat.succ_le_succ (Nat.le_trans (length_putF _ _ _) (Nat.succ_le_succ (length_putF _ _ _))))), ?_⟩
    have nL3 : H3 L = none := free_of ((Same.new (o := .tup [.int 0, .int 0]) nr).trans (Same.new (o := .tup [.int 0, .int 0, .ref r]) nq)) nL
    have nLp : L ≠ p := fun z => by rw [z, p3] at nL3; cases nL3
    have k4 : Keep p H2 (upd H4 p (.ins T.c_Meter dx (putF "_places" (.ref L) (putF "_row" (.str "") (putF "_moves" (.ref D) (putF "_machine" (.ref x) [])))))) := (k3.trans (Keep.of_same zz)).trans Keep.at_
    have k14 := (k1.trans (Keep.of_same z2)).trans k4
    have t4 : Tups H4 (upd H4 p (.ins T.c_Meter dx (putF "_places" (.ref L) (putF "_row" (.str "") (putF "_moves" (.ref D) (putF "_machine" (.ref x) [])))))) := Keep.tupsI Keep.at_ p4
    refine k L _ k14 ((k1.trans (Keep.of_same z2)).trans k3 |>.free nLp nL3) ⟨dx, x, D, [.ref q], kvs, upd_same, ⟨dm, t0, u0, k14 _ _ nx ex, (k14.tupsI hp).parts hpt⟩, k4 _ _ nD eD, mv.tups (k4.tupsI p2), kk, by rw [upd_ne nLp]; exact eL, PlcAt.one ⟨0, 0, 0, 0, r, rfl, t4.sq (SqT.of hq), t4.sq (SqT.of hr'), SpanOf.nil m⟩, nx⟩
theorem ok_Meter_machine (T : Txt K mg) : FnOk P w K mg base (L2.CX P w) 1 T.a_Meter_machine T.fd_Meter_machine ["self"] (getSp T.c_Meter "_machine") := by
  refine T.F_Meter_machine.okX sc_Meter_machine (fun vs H Q E h => ?_) (fun cdv A outer s H vs Q E hr h => ?_)
  · obtain ⟨a, dx, fs, v, rfl, _⟩ := h
    rfl
  · obtain ⟨a, dx, fs, v, rfl, ha, hl, k⟩ := h
    refine ⟨_, (PSs.nox (pss_one (ps_ret (pe_fld (pv 0) rfl)))), ?_⟩
    exact ⟨_, rfl, a, _, dx, fs, v, rfl, ha, T.cl_Meter, T.n__machine, hl, k⟩
theorem ok_Meter_row (T : Txt K mg) : FnOk P w K mg base (L2.CX P w) 1 T.a_Meter_row T.fd_Meter_row ["self"] (getSp T.c_Meter "_row") := by
  refine T.F_Meter_row.okX sc_Meter_row (fun vs H Q E h => ?_) (fun cdv A outer s H vs Q E hr h => ?_)
  · obtain ⟨a, dx, fs, v, rfl, _⟩ := h
    rfl
  · obtain ⟨a, dx, fs, v, rfl, ha, hl, k⟩ := h
    refine ⟨_, (PSs.nox (pss_one (ps_ret (pe_fld (pv 0) rfl)))), ?_⟩
    exact ⟨_, rfl, a, _, dx, fs, v, rfl, ha, T.cl_Meter, T.n__row, hl, k⟩
theorem ok_Meter_stand (T : Txt K mg) : FnOk P w K mg base (L2.CX P w) 1 T.a_Meter_stand T.fd_Meter_stand ["self"] (sp_place K T.c_Meter pkS) := by
  refine T.F_Meter_stand.okX sc_Meter_stand (fun vs H Q E h => ?_) (fun cdv A outer s H vs Q E hr h => ?_)
  · obtain ⟨p, dx, fs, L, us, q, st, tl, r, rfl, _⟩ := h
    rfl
  · obtain ⟨p, dx, fs, L, us, q, st, tl, r, rfl, hp, hl, eL, el, hq, k⟩ := h
    refine ⟨_, (PSs.nox (pss_one (ps_ret (pe_ix ix_tup (pe_ix ix_list (pe_fld (pv 0) rfl) (pe_un un_neg pe_int) (fun _ _ => rfl)) pe_int (fun _ _ => rfl))))), ?_⟩
    walk_at "begin"
    walk_at "go"
    refine ⟨p, T.c_Meter, dx, fs, .ref L, rfl, hp, T.cl_Meter, T.n__places, hl, ?_⟩
    walk_at "go"
    refine k_ixL eL el ?_
    walk_at "go"
    exact k_ixT hq (v := .int (st : Nat)) rfl k
theorem ok_Meter_tally (T : Txt K mg) : FnOk P w K mg base (L2.CX P w) 1 T.a_Meter_tally T.fd_Meter_tally ["self"] (sp_place K T.c_Meter pkT) := by
  refine T.F_Meter_tally.okX sc_Meter_tally (fun vs H Q E h => ?_) (fun cdv A outer s H vs Q E hr h => ?_)
  · obtain ⟨p, dx, fs, L, us, q, st, tl, r, rfl, _⟩ := h
    rfl
  · obtain ⟨p, dx, fs, L, us, q, st, tl, r, rfl, hp, hl, eL, el, hq, k⟩ := h
    refine ⟨_, (PSs.nox (pss_one (ps_ret (pe_ix ix_tup (pe_ix ix_list (pe_fld (pv 0) rfl) (pe_un un_neg pe_int) (fun _ _ => rfl)) pe_int (fun _ _ => rfl))))), ?_⟩
    walk_at "begin"
    walk_at "go"
    refine ⟨p, T.c_Meter, dx, fs, .ref L, rfl, hp, T.cl_Meter, T.n__places, hl, ?_⟩
    walk_at "go"
    refine k_ixL eL el ?_
    walk_at "go"
    exact k_ixT hq (v := .int tl) rfl k
theorem ok_Meter_span (T : Txt K mg) : FnOk P w K mg base (L2.CX P w) 1 T.a_Meter_span T.fd_Meter_span ["self"] (sp_place K T.c_Meter pkR) := by
  refine T.F_Meter_span.okX sc_Meter_span (fun vs H Q E h => ?_) (fun cdv A outer s H vs Q E hr h => ?_)
  · obtain ⟨p, dx, fs, L, us, q, st, tl, r, rfl, _⟩ := h
    rfl
  · obtain ⟨p, dx, fs, L, us, q, st, tl, r, rfl, hp, hl, eL, el, hq, k⟩ := h
    refine ⟨_, (PSs.nox (pss_one (ps_ret (pe_ix ix_tup (pe_ix ix_list (pe_fld (pv 0) rfl) (pe_un un_neg pe_int) (fun _ _ => rfl)) pe_int (fun _ _ => rfl))))), ?_⟩
    walk_at "begin"
    walk_at "go"
    refine ⟨p, T.c_Meter, dx, fs, .ref L, rfl, hp, T.cl_Meter, T.n__places, hl, ?_⟩
    walk_at "go"
    refine k_ixL eL el ?_
    walk_at "go"
    exact k_ixT hq (v := .ref r) rfl k
theorem ok_Meter_read_bad (T : Txt K mg) : FnOk P w K mg base (L2.CX P w) 1 T.a_Meter_read T.fd_Meter_read ["self", "letter"] (sp_read K T.c_Meter T.c_Machine T.c_BadLetter) := by
  refine T.F_Meter_read.okX sc_Meter_read (fun vs H Q E h => ?_) (fun cdv A outer s H vs Q E hr h => ?_)
  · obtain ⟨p, L, m, w, v, st, tl, rfl, _⟩ := h
    rfl
  · obtain ⟨p, L, m, w, v, st, tl, rfl, hm, o, w100, er, h⟩ := h
    obtain ⟨dx, x, D, us, kvs, ep, hx, eD, mv, kk, eL, pl, nx⟩ := id hm
    obtain ⟨q, e1, e2, st', tl', lo, hi, r, er', hq, hr', sp⟩ := pl.last
    rw [er] at er'
    cases er'
    refine ⟨_, (pss_cons (ps_asg (pe_ix ix_list (pe_fld (pv 0) rfl) (pe_un un_neg pe_int) (fun _ _ => rfl)) (pg_tup rfl (pgs_cons (pg_name (i := 2) sc_Meter_read.nd rfl (Or.inl rfl)) (pgs_cons (pg_name (i := 3) sc_Meter_read.nd rfl (Or.inl rfl)) (pgs_cons (pg_name (i := 4) sc_Meter_read.nd rfl (Or.inl rfl)) pgs_nil)))))
  (pss_cons (ps_if (PW.pt (pw_or (pt_not (pt_val (pe_callB call_isi (by rfl) T.z_isinstance (by decide +kernel) (pa_cons (pv 1) (pa_cons (pe_bltn (v := .ty "str") (by rfl) T.z_str (by decide +kernel) rfl) pa_nil))))) (pw_or1 (pt_cmp (pc_dnotin (hu_of hr) (pe_tup (pa_cons (pv 2) (pa_cons (pv 1) pa_nil))) (pe_fld (pv 0) rfl)) (by rfl)))))
  (pss_one (ps_raise rfl (takes_of rfl rfl rfl rfl) (pmk_own PySem.F.excBase_ValueError T.x_BadLetter T.m_BadLetter T.k_BadLetter (raises_own T.b_BadLetter T.t_BadLetter) (by exact rfl))))
  pss_nil)
  (pss_cons (ps_asg (pe_dget (hu_of hr) (pe_fld (pv 0) rfl) (pe_tup (pa_cons (pv 2) (pa_cons (pv 1) pa_nil))) (fun _ _ => rfl)) (pg_tup rfl (pgs_cons (pg_name (i := 5) sc_Meter_read.nd rfl (Or.inl rfl)) (pgs_cons (pg_name (i := 6) sc_Meter_read.nd rfl (Or.inl rfl)) pgs_nil))))
  (pss_cons (ps_aug (i := 3) sc_Meter_read.nd rfl (Or.inl rfl) (pv 6) ip_add)
  (pss_cons (ps_fldaug (pv 0) (pv 1) in_addS)
  (pss_cons (ps_expr (pe_bm PySem.F.plainAttrs_list PySem.F.slot_list_append PySem.F.type_list_append mt_append (pe_fld (pv 0) rfl) (pa_cons (pe_tup (pa_cons (pv 5) (pa_cons (pv 3) (pa_cons (pe_tup (pa_cons (pe_callB (call_min2 rfl) (by rfl) T.z_min (by decide +kernel) (pa_cons (pe_ix ix_tup (pv 4) pe_int (fun _ _ => rfl)) (pa_cons (pv 3) pa_nil))) (pa_cons (pe_callB (call_max2 rfl) (by rfl) T.z_max (by decide +kernel) (pa_cons (pe_ix ix_tup (pv 4) pe_int (fun _ _ => rfl)) (pa_cons (pv 3) pa_nil))) pa_nil))) pa_nil)))) pa_nil)))
  (pss_one (ps_ret (pv 3))))))))), ?_⟩
    walk_at "begin"
    walk_at "go"
    refine ⟨p, T.c_Meter, dx, _, .ref L, rfl, ep, T.cl_Meter, T.n__places, rfl, ?_⟩
    walk_at "go"
    refine k_ixL (SqL.of eL) e1 ?_
    refine k_gt hq rfl ?_
    walk_at "go"
    rcases h with ⟨⟨ty, h1, h2⟩, k⟩ | ⟨z, rfl, nz, k⟩ | ⟨c, s0, rfl, es, k⟩
    · refine k_isi (.ty _) h1 h2 ?_
      walk_at "go"
      refine iteT ?_
      refine iteT ?_
      exact k H (Same.refl _)
    · refine k_isi (.ty _) (.base (.str z)) (kit_ty (b := "str") (r := true) (by decide +kernel)) ?_
      walk_at "go"
      refine iteF ?_
      walk_at "go"
      refine ⟨(by decide : 2 ≤ sizeLine), fun pk hpk => ?_⟩
      refine ⟨_, rfl, p, T.c_Meter, dx, _, .ref D, rfl, Same.new hpk _ _ ep, T.cl_Meter, T.n__moves, rfl, ?_⟩
      refine ⟨D, _, rfl, DGet.t (k := [.inl (st : Int), .inr z]) (Same.new hpk _ _ eD) upd_same, ?_⟩
      rw [MvOk.not mv kk nz]
      exact ⟨_, rfl, iteT (k _ (Same.new hpk))⟩
    · refine k_isi (.ty _) (.base (.str _)) (kit_ty (b := "str") (r := true) (by decide +kernel)) ?_
      walk_at "go"
      refine iteF ?_
      walk_at "go"
      refine ⟨(by decide : 2 ≤ sizeLine), fun pk hpk => ?_⟩
      refine ⟨_, rfl, p, T.c_Meter, dx, _, .ref D, rfl, Same.new hpk _ _ ep, T.cl_Meter, T.n__moves, rfl, ?_⟩
      refine ⟨D, _, rfl, DGet.t (k := mkey st c) (Same.new hpk _ _ eD) upd_same, ?_⟩
      obtain ⟨hs0, hb, hcc⟩ := stepOf_mem es
      obtain ⟨pv, epv, spv⟩ := (mv st c).2 s0 hs0 hb hcc
      rw [epv]
      refine ⟨_, rfl, iteF ?_⟩
      walk_at "go"
      refine ⟨p, T.c_Meter, dx, _, .ref D, rfl, Same.new hpk _ _ ep, T.cl_Meter, T.n__moves, rfl, ?_⟩
      walk_at "go"
      refine ⟨(by decide : 2 ≤ sizeLine), fun pk2 hpk2 => ?_⟩
      have z2 := (Same.new (o := .tup [.int (st : Nat), .str ⟨#[c]⟩]) hpk).trans (Same.new (o := .tup [.int (st : Nat), .str ⟨#[c]⟩]) hpk2)
      have ek2 := upd_same (H := upd H pk (.tup [.int (st : Nat), .str ⟨#[c]⟩])) (a := pk2) (o := .tup [.int (st : Nat), .str ⟨#[c]⟩])
      generalize upd (upd H pk (.tup [.int (st : Nat), .str ⟨#[c]⟩])) pk2 (.tup [.int (st : Nat), .str ⟨#[c]⟩]) = H2 at z2 ek2
      refine ⟨D, _, rfl, by rw [← epv]; exact DGet.t (k := mkey st c) (z2 _ _ eD) ek2, ?_⟩
      refine k_gt ((same_tups z2).sq spv) rfl ?_
      walk_at "go"
      refine ⟨_, rfl, p, T.c_Meter, dx, _, .str (sOf w), rfl, z2 _ _ ep, T.cl_Meter, T.n__row, rfl, ?_⟩
      refine ⟨_, rfl, sOf w, ⟨#[c]⟩, rfl, rfl, ?_, ?_⟩
      · rw [sOf_len]
        show w.length + 1 ≤ _
        exact Nat.le_trans (show w.length + 1 ≤ 101 by omega) (by decide)
      rw [sOf_snoc]
      refine ⟨dx, _, z2 _ _ ep, (by show 4 < 1000; decide), ?_⟩
      have kA : Keep p H (upd H2 p (.ins T.c_Meter dx (putF "_row" (.str (sOf (w ++ [c]))) (mtF x D w L)))) := (Keep.of_same z2).trans Keep.at_
      have eA : (upd H2 p (.ins T.c_Meter dx (putF "_row" (.str (sOf (w ++ [c]))) (mtF x D w L)))) p = some (.ins T.c_Meter dx (mtF x D (w ++ [c]) L)) := upd_same
      generalize upd H2 p (.ins T.c_Meter dx (putF "_row" (.str (sOf (w ++ [c]))) (mtF x D w L))) = HA at kA eA
      have nLp : L ≠ p := fun z => by rw [z, ep] at eL; cases eL
      have eLA := kA _ _ nLp eL
      have tA := kA.tupsI ep
      walk_at "go"
      refine ⟨p, T.c_Meter, dx, _, .ref L, rfl, eA, T.cl_Meter, T.n__places, rfl, .inl ⟨rfl, _, SqL.of eLA⟩, ?_⟩
      walk_at "go"
      refine k_ixT (tA.sq hr') (v := .int lo) rfl ?_
      walk_at "go"
      refine ⟨_, _, rfl, ?_⟩
      walk_at "go"
      refine k_ixT (tA.sq hr') (v := .int hi) rfl ?_
      walk_at "go"
      refine ⟨_, _, rfl, ?_⟩
      walk_at "go"
      refine ⟨(by decide : 2 ≤ sizeLine), fun r2 nr2 => ?_⟩
      refine ⟨(by decide : 3 ≤ sizeLine), fun q2 nq2 => ?_⟩
      have z3 := (Same.new (o := .tup [.int (if tl + s0.g < lo then tl + s0.g else lo), .int (if tl + s0.g > hi then tl + s0.g else hi)]) nr2).trans (Same.new (o := .tup [.int (s0.e : Nat), .int (tl + s0.g), .ref r2]) nq2)
      have hr2 := (Same.new (o := .tup [.int (s0.e : Nat), .int (tl + s0.g), .ref r2]) nq2) _ _ (upd_same (a := r2) (H := HA) (o := .tup [.int (if tl + s0.g < lo then tl + s0.g else lo), .int (if tl + s0.g > hi then tl + s0.g else hi)]))
      have hq2 := upd_same (a := q2) (H := upd HA r2 (.tup [.int (if tl + s0.g < lo then tl + s0.g else lo), .int (if tl + s0.g > hi then tl + s0.g else hi)])) (o := .tup [.int (s0.e : Nat), .int (tl + s0.g), .ref r2])
      generalize upd (upd HA r2 (.tup [.int (if tl + s0.g < lo then tl + s0.g else lo), .int (if tl + s0.g > hi then tl + s0.g else hi)])) q2 (.tup [.int (s0.e : Nat), .int (tl + s0.g), .ref r2]) = H3 at z3 hr2 hq2
      refine k_nil ?_
      refine k_append (z3 _ _ eLA) (Nat.lt_of_le_of_lt (show us.length ≤ 101 by rw [pl.1]; omega) (by decide)) ?_
      have er2 : run m (w ++ [c]) = some (s0.e, tl + s0.g) := run_snoc.mpr ⟨st, tl, s0, er, es, rfl, rfl⟩
      have kB : Keep2 p L H3 (upd H3 L (.lst (us ++ [.ref q2]))) := Keep2.right
      have k2 : Keep2 p L H (upd H3 L (.lst (us ++ [.ref q2]))) := fun b o n1 n2 e => kB b o n1 n2 (z3 _ _ (kA b o n1 e))
      have t3 : Tups H3 (upd H3 L (.lst (us ++ [.ref q2]))) := Tups.lst (z3 _ _ eLA)
      have tH := (tA.trans (same_tups z3)).trans t3
      walk_at "go"
      refine k _ k2 (MtrAt.next k2 ep eL hx eD mv kk nx (us' := us ++ [.ref q2]) (by rw [upd_ne nLp.symm]; exact z3 _ _ eA) upd_same ((pl.tups tH).snoc ⟨s0.e, tl + s0.g, _, _, r2, er2, t3.sq (SqT.of hq2), t3.sq (SqT.of hr2), sp.snoc ?_⟩))
      unfold tal
      rw [er2]
      rfl
theorem ok_Meter_can (T : Txt K mg) : FnOk P w K mg base (L2.CX P w) 3 T.a_Meter_can T.fd_Meter_can ["self"] (sp_can K T.c_Meter T.c_Machine) := by
  refine T.F_Meter_can.okX sc_Meter_can (fun vs H Q E h => ?_) (fun cdv A outer s H vs Q E hr h => ?_)
  · obtain ⟨p, L, m, w, st, tl, rfl, _⟩ := h
    rfl
  · obtain ⟨p, L, m, w, st, tl, rfl, hm, o, er, k⟩ := h
    obtain ⟨dx, x, D, us, kvs, ep, hx, eD, mv, kk, eL, pl, nx⟩ := id hm
    obtain ⟨q, e1, e2, st', tl', lo, hi, r, er', hq, hr', sp⟩ := pl.last
    rw [er] at er'
    cases er'
    refine ⟨_, (PSs.nox (pss_one (ps_ret (pe_join pe_str (pe_lock (pe_lc (own := [("begun", 1), ("letter", 2)]) (g := (gTup K 2 (gCons (gName 1) (gCons (gName 2) gNil)))) rfl sc_Meter_can.nd (pi_keys (pe_fld (pv 0) rfl)) (blkOk_by (own := [("begun", 1), ("letter", 2)]) (N := ["self", "begun", "letter"]) (sc := defScope s_Meter_can) (by decide +kernel)) (fun _ _ _ _ _ => (pg_tup rfl (pgs_cons (pg_name (i := 1) sc_Meter_can.nd rfl (Or.inl rfl)) (pgs_cons (pg_name (i := 2) sc_Meter_can.nd rfl (Or.inl rfl)) pgs_nil)))) (fun _ _ _ _ _ => (pts_one (pt_cmpR op_eq (pv 1) (pe_prop (pv 0) T.cl_Meter T.p_stand (ok_Meter_stand T) (hr.mono (by decide)) T.b_Meter_stand .nil passL rfl) (nomark _)))) (fun _ _ _ _ _ => (pv 2)))))))), ?_⟩
    walk_at "begin"
    walk_at "go"
    refine ⟨⟨_, rfl⟩, D, _, eD, trivial, fun od => ?_⟩
    walk_at "go"
    have npD : p ≠ D := fun z => by rw [z, eD] at ep; cases ep
    have nLD : L ≠ D := fun z => by rw [z, eD] at eL; cases eL
    have epL : (upd H D (.frz od (.dT kvs))) p = some (.ins T.c_Meter dx (mtF x D w L)) := by rw [upd_ne npD]; exact ep
    have eLL : (upd H D (.frz od (.dT kvs))) L = some (.lst us) := by rw [upd_ne nLD]; exact eL
    have hqL := (Tups.dT (o := .frz od (.dT kvs)) eD).sq hq
    have eDL := upd_same (H := H) (a := D) (o := .frz od (.dT kvs))
    have back : ∀ H', Same (upd H D (.frz od (.dT kvs))) H' → Same H (upd H' D (.dT kvs)) := fun H' z => unlock_any eD z
    generalize upd H D (.frz od (.dT kvs)) = HL at epL eLL hqL eDL back ⊢
    refine ⟨_, rfl, p, T.c_Meter, dx, _, .ref D, rfl, epL, T.cl_Meter, T.n__moves, rfl, D, od, rfl, .inr ⟨kvs, eDL, fun Lq hLq => ?_⟩⟩
    have nLq : Lq ≠ D := fun z => by rw [z, eDL] at hLq; cases hLq
    have lk : kvs.length = m.ss.length := by
      have := congrArg List.length kk
      unfold mkeys at this
      simpa using this
    have l32 := o.len
    refine lc_it walk_keysT (fun i H' => Same HL H' ∧ H' Lq = some (.lst (lsV (((m.ss.take i).filter fun s => s.b == st).map (·.c))))) ⟨Same.new hLq, upd_same⟩ (fun i H' _ ⟨z, _⟩ => z _ _ eDL) ?_ ?_
    · rintro i y H1 H2 hi ⟨z, eq⟩ ⟨rfl, key, v, kq, hk, rfl, hkq⟩
      have il : i < m.ss.length := by omega
      have ei : m.ss[i]? = some (m.ss[i]'il) := List.getElem?_eq_getElem il
      have ek : key = mkey (m.ss[i]'il).b (m.ss[i]'il).c := by
        have h1 := congrArg (·[i]?) kk
        simp only [List.getElem?_map, hk, mkeys, ei] at h1
        exact Option.some.inj h1
      subst ek
      have ti : (((m.ss.take (i + 1)).filter fun s => s.b == st).map (·.c)) = (((m.ss.take i).filter fun s => s.b == st).map (·.c)) ++ (if (m.ss[i]'il).b == st then [(m.ss[i]'il).c] else []) := by
        rw [List.take_add_one, ei, List.filter_append, List.map_append]
        congr 1
        show List.map _ (List.filter _ [m.ss[i]'il]) = _
        rw [List.filter_cons]
        split <;> rfl
      rw [ti]
      have len : (((m.ss.take i).filter fun s => s.b == st).map (·.c)).length ≤ 32 := by
        rw [List.length_map]
        exact Nat.le_trans (List.length_filter_le _ _) (by rw [List.length_take]; omega)
      generalize m.ss[i]'il = s0 at hkq
      refine k_gt (SqT.of hkq) rfl ?_
      show gCons _ _ [V.int (s0.b : Nat), V.str ⟨#[s0.c]⟩] _ _ _
      walk_at "go"
      refine ⟨rfl, ?_⟩
      walk_at "go"
      refine ⟨p, dx, _, rfl, z _ _ epL, p, dx, _, L, us, q, st, tl, r, rfl, z _ _ epL, rfl, SqL.of (z _ _ eLL), e1, (same_tups z).sq hqL, ?_⟩
      unfold pkS
      walk_at "go"
      refine k_ite (fun h => ?_) (fun h => ?_)
      · have h' : s0.b = st := by
          injection h with h
          omega
        walk_at "go"
        refine ⟨_, eq, Nat.lt_of_le_of_lt (show _ ≤ 32 by unfold lsV; rw [List.length_map]; exact len) (by decide), Same.mut z hLq, ?_⟩
        rw [upd_same, if_pos (by simp [h'])]
        unfold lsV
        rw [List.map_append]
        rfl
      · have h' : ¬ s0.b = st := fun z => h (by rw [z])
        rw [if_neg (by simpa using h'), List.append_nil]
        exact ⟨z, eq⟩
    · rintro H1 ⟨z, eq⟩
      rw [lk, List.take_length] at eq
      refine ⟨z _ _ eDL, "", Lq, ((fromS m st).map (·.c)).map fun c => (⟨#[c]⟩ : Str), rfl, rfl, .inl (SqL.of (by rw [upd_ne nLq, ← lsV_strs]; exact eq)), ?_, ?_⟩
      · rw [lets_sum, List.length_map, List.length_map]
        have : (fromS m st).length ≤ 32 := Nat.le_trans (List.length_filter_le _ _) l32
        show (fromS m st).length + (fromS m st).length * 0 ≤ _
        omega
      · rw [show ((Str.ofString "")) = ("" : Str) from rfl, join_lets]
        exact k _ (back _ z)
theorem ok_Meter_undo (T : Txt K mg) : FnOk P w K mg base (L2.CX P w) 1 T.a_Meter_undo T.fd_Meter_undo ["self"] (sp_undo K T.c_Meter T.c_Machine) := by
  refine T.F_Meter_undo.okX sc_Meter_undo (fun vs H Q E h => ?_) (fun cdv A outer s H vs Q E hr h => ?_)
  · obtain ⟨p, L, m, w, rfl, _⟩ := h
    rfl
  · obtain ⟨p, L, m, w, rfl, hm, w100, k⟩ := h
    obtain ⟨dx, x, D, us, kvs, ep, hx, eD, mv, kk, eL, pl, nx⟩ := id hm
    refine ⟨_, (PSs.nox (pss_cons (ps_if (pt_cmpR op_eq (pe_fld (pv 0) rfl) pe_str (nomark _))
  (pss_one (ps_ret pe_bl))
  pss_nil)
  (pss_cons (ps_fld (pv 0) (pe_slice sl_str (pe_fld (pv 0) rfl) po_none (po_some (pe_un un_neg pe_int))) rfl)
  (pss_cons (ps_expr (pe_bm0 PySem.F.plainAttrs_list PySem.F.slot_list_pop PySem.F.type_list_pop mt_pop (pe_fld (pv 0) rfl)))
  (pss_one (ps_ret pe_bl)))))), ?_⟩
    walk_at "begin"
    walk_at "go"
    refine ⟨p, T.c_Meter, dx, _, .str (sOf w), rfl, ep, T.cl_Meter, T.n__row, rfl, ?_⟩
    walk_at "go"
    rw [sOf_empty]
    by_cases c : w = []
    · rw [decide_eq_true c]
      refine iteT ?_
      walk_at "go"
      have := k H (Keep2.of_same (Same.refl _)) (by subst c; exact hm)
      rw [decide_eq_true c] at this
      exact this
    · rw [decide_eq_false c]
      refine iteF ?_
      walk_at "go"
      refine ⟨_, rfl, p, T.c_Meter, dx, _, .str (sOf w), rfl, ep, T.cl_Meter, T.n__row, rfl, ?_⟩
      walk_at "go"
      refine k_slS (sOf_fits w100) ?_
      rw [cutS_last c]
      refine ⟨_, rfl, p, _, dx, _, rfl, ep, T.cl_Meter, T.n__row, (by show 4 < 1000; decide), ?_⟩
      have nLp : L ≠ p := fun z => by rw [z, ep] at eL; cases eL
      have kA : Keep p H (upd H p (.ins T.c_Meter dx (putF "_row" (.str (sOf w.dropLast)) (mtF x D w L)))) := Keep.at_
      have eA : (upd H p (.ins T.c_Meter dx (putF "_row" (.str (sOf w.dropLast)) (mtF x D w L)))) p = some (.ins T.c_Meter dx (mtF x D w.dropLast L)) := upd_same
      generalize upd H p (.ins T.c_Meter dx (putF "_row" (.str (sOf w.dropLast)) (mtF x D w L))) = HA at kA eA
      have eLA := kA _ _ nLp eL
      walk_at "go"
      obtain ⟨q, e1, e2, hP⟩ := pl.last
      refine ⟨p, T.c_Meter, dx, _, .ref L, rfl, eA, T.cl_Meter, T.n__places, rfl, .inl ⟨rfl, _, SqL.of eLA⟩, L, us, .ref q, rfl, rfl, eLA, e2, ?_⟩
      walk_at "go"
      have kB : Keep2 p L HA (upd HA L (.lst us.dropLast)) := Keep2.right
      have k2 : Keep2 p L H (upd HA L (.lst us.dropLast)) := fun b o n1 n2 e => kB b o n1 n2 (kA b o n1 e)
      have := k _ k2 (MtrAt.next k2 ep eL hx eD mv kk nx (us' := us.dropLast) (by rw [upd_ne nLp.symm]; exact eA) upd_same ((pl.pop c).tups ((kA.tupsI ep).trans (Tups.lst eLA))))
      rw [decide_eq_false c] at this
      exact this
theorem ok_Meter_copy (T : Txt K mg) : FnOk P w K mg base (L2.CX P w) 6 T.a_Meter_copy T.fd_Meter_copy ["self"] (sp_copy K T.c_Meter T.c_Machine) := by
  refine T.F_Meter_copy.okX sc_Meter_copy (fun vs H Q E h => ?_) (fun cdv A outer s H vs Q E hr h => ?_)
  · obtain ⟨p, L, m, w, rfl, _⟩ := h
    rfl
  · obtain ⟨p, L, m, w, rfl, hm, o, k⟩ := h
    obtain ⟨dx, x, D, us, kvs, ep, hx, eD, mv, kk, eL, pl, nx⟩ := id hm
    refine ⟨_, (PSs.nox (pss_cons (ps_set (i := 1) sc_Meter_copy.nd rfl (Or.inl rfl) (pe_make T.mk_Meter (ok_Meter_init T) (hr.mono (by decide)) (by rfl) T.m_Meter T.b_Meter_init .nil passL (pa_cons (pe_fld (pv 0) rfl) pa_nil)))
  (pss_cons (ps_fld (pv 1) (pe_fld (pv 0) rfl) rfl)
  (pss_cons (ps_fld (pv 1) (pe_callTy call_list_of (by rfl) T.z_list PySem.Pv.boot_list (pa_cons (pe_fld (pv 0) rfl) pa_nil)) rfl)
  (pss_one (ps_ret (pv 1))))))), ?_⟩
    walk_at "begin"
    walk_at "go"
    refine ⟨p, T.c_Meter, dx, _, .ref x, rfl, ep, T.cl_Meter, T.n__machine, rfl, ?_⟩
    walk_at "go"
    intro p' dx' hp' hdx' ne'
    have zn : Same H (upd (upd H dx' (.own p')) p' (.ins T.c_Meter dx' [])) := (Same.new hdx').trans (Same.new (by rw [upd_ne ne'.symm]; exact hp'))
    refine ⟨p', dx', x, m, rfl, upd_same, hx.same zn, o, fun L0 H2 k2 nL0 hm2 => ⟨rfl, ?_⟩⟩
    have z2 : Same H H2 := fun b ob e => k2 b ob (ne_of_none e hp') (zn _ _ e)
    obtain ⟨dx2, x2, D2, us2, kvs2, ep2, hx2, eD2, mv2, kk2, eL2, pl2, nx2⟩ := id hm2
    walk_at "go"
    refine ⟨_, rfl, p, T.c_Meter, dx, _, .str (sOf w), rfl, z2 _ _ ep, T.cl_Meter, T.n__row, rfl, ?_⟩
    refine ⟨_, rfl, p', _, dx2, _, rfl, ep2, T.cl_Meter, T.n__row, (by show 4 < 1000; decide), ?_⟩
    have npp : p ≠ p' := ne_of_none ep hp'
    have kA : Keep p' H2 (upd H2 p' (.ins T.c_Meter dx2 (putF "_row" (.str (sOf w)) (mtF x2 D2 [] L0)))) := Keep.at_
    have eA : (upd H2 p' (.ins T.c_Meter dx2 (putF "_row" (.str (sOf w)) (mtF x2 D2 [] L0)))) p' = some (.ins T.c_Meter dx2 (mtF x2 D2 w L0)) := upd_same
    generalize upd H2 p' (.ins T.c_Meter dx2 (putF "_row" (.str (sOf w)) (mtF x2 D2 [] L0))) = HA at kA eA
    have kHA : Same H HA := fun b ob e => kA b ob (ne_of_none e hp') (z2 _ _ e)
    walk_at "go"
    refine ⟨_, rfl, p, T.c_Meter, dx, _, .ref L, rfl, kHA _ _ ep, T.cl_Meter, T.n__places, rfl, ?_⟩
    refine ⟨L, us, rfl, .inl (SqL.of (kHA _ _ eL)), fun L' hL' => ?_⟩
    have kHB : Same HA (upd HA L' (.lst us)) := Same.new hL'
    have eB : (upd HA L' (.lst us)) L' = some (.lst us) := upd_same
    generalize upd HA L' (.lst us) = HB at kHB eB
    refine ⟨_, rfl, p', _, dx2, _, rfl, kHB _ _ eA, T.cl_Meter, T.n__places, (by show 4 < 1000; decide), ?_⟩
    walk_at "go"
    have nLp : L' ≠ p' := fun z => by rw [z, eA] at hL'; cases hL'
    have hL0 : H L' = none := free_of kHA hL'
    have kC : Same H (upd HB p' (.ins T.c_Meter dx2 (putF "_places" (.ref L') (mtF x2 D2 w L0)))) := Same.mut (kHA.trans kHB) hp'
    have kD : Keep p' H2 (upd HB p' (.ins T.c_Meter dx2 (putF "_places" (.ref L') (mtF x2 D2 w L0)))) := (kA.trans (Keep.of_same kHB)).trans Keep.at_
    have nD2 : D2 ≠ p' := fun z => by rw [z, ep2] at eD2; cases eD2
    obtain ⟨dm2, t2, u2, ex2, hpt2⟩ := hx2
    exact k p' L' _ kC hp' hL0 ⟨dx2, x2, D2, us, kvs2, upd_same, ⟨dm2, t2, u2, kD _ _ nx2 ex2, (kD.tupsI ep2).parts hpt2⟩, kD _ _ nD2 eD2, mv2.tups (kD.tupsI ep2), kk2, by rw [upd_ne nLp]; exact eB, pl.tups (same_tups kC), nx2⟩
theorem ok_Meter_len (T : Txt K mg) : FnOk P w K mg base (L2.CX P w) 1 T.a_Meter_len T.fd_Meter_len ["self"] (sp_mlen K T.c_Meter T.c_Machine) := by
  refine T.F_Meter_len.okX sc_Meter_len (fun vs H Q E h => ?_) (fun cdv A outer s H vs Q E hr h => ?_)
  · obtain ⟨p, L, m, w, rfl, _⟩ := h
    rfl
  · obtain ⟨p, L, m, w, rfl, hm, w100, k⟩ := h
    obtain ⟨dx, x, D, us, kvs, ep, hx, eD, mv, kk, eL, pl, nx⟩ := id hm
    refine ⟨_, (PSs.nox (pss_one (ps_ret (pe_callB call_len_str (by rfl) T.z_len PySem.boot_len (pa_cons (pe_fld (pv 0) rfl) pa_nil))))), ?_⟩
    walk_at "begin"
    walk_at "go"
    refine ⟨p, T.c_Meter, dx, _, .str (sOf w), rfl, ep, T.cl_Meter, T.n__row, rfl, ?_⟩
    walk_at "go"
    refine ⟨_, rfl, sOf_fits w100, ?_⟩
    rw [sOf_len]
    exact k
end
/-! ### where a word leads, by the law -/
theorem step_head (m : MD) (b c : Nat) : stepOf m b c = ((fromS m b).filter fun s => s.c == c).head? := by
  unfold stepOf fromS
  rw [List.filter_filter, List.head?_filter]
  congr 1
  funext s
  exact Bool.and_comm _ _
def sp_lway (K : PySem.W.Frag) : Sp := fun vs H Q _ => ∃ (d : Addr) (z : Str) (s0 : Nat) (m : MD), vs = [.ref d, .str z, .int (s0 : Nat)] ∧ DAt K H d m ∧ m.Ok ∧ (runW m (s0, 0) z.cps.toList = none → ∀ H', Same H H' → Q .non H') ∧
  ∀ n t, runW m (s0, 0) z.cps.toList = some (n, t) → ∀ p H', Same H H' → H p = none → H' p = some (.tup [.int (n : Nat), .int t]) → Q (.ref p) H'
section
variable {P : Program} {w : World} {K : PySem.W.Frag} {mg : Str → Option Value} {base : Heap}
theorem ok_law_way (T : Txt K mg) : FnOk P w K mg base (L2.CX P w) 2 T.a_law_way T.fd_law_way ["_law_d", "_law_word", "_law_stand"] (sp_lway K) := by
  refine T.F_law_way.okX sc_law_way (fun vs H Q E h => ?_) (fun cdv A outer s H vs Q E hr h => ?_)
  · obtain ⟨d, z, b0, m, rfl, _⟩ := h
    rfl
  · obtain ⟨d, z, b0, m, rfl, hd, o, k0, k1⟩ := h
    refine ⟨_, (PSs.nox (pss_cons (ps_set (i := 3) sc_law_way.nd rfl (Or.inl rfl) pe_int)
  (pss_cons (ps_for PassesOwn.never rfl (pi_str (pv 1)) (pg_name (i := 4) sc_law_way.nd rfl (Or.inr rfl))
  (pss_cons (ps_setLc (i := 5) (own := [("_law_step", 6)]) (g := (gName 6)) rfl sc_law_way.nd rfl rfl (sw_true rfl rfl rfl (by decide +kernel)) (pi_list (pe_call (ok_law_next T) (hr.mono (by decide)) (by rfl) T.m_law_next T.k_law_next T.b_law_next .nil passL (pa_cons (pv 0) (pa_cons (pv 2) pa_nil)))) (blkOk_by (own := [("_law_step", 6)]) (N := ["_law_d", "_law_word", "_law_stand", "_law_tally", "_law_letter", "_law_some", "_law_step"]) (sc := defScope s_law_way) (by decide +kernel)) (fun _ _ _ _ _ => (pg_name (i := 6) sc_law_way.nd rfl (Or.inl rfl))) (fun _ _ _ _ _ => (pts_one (pt_cmpR op_eq (pe_ix (show IxR _ (rIxT K) from ix_tup) (pv 6) pe_int (fun _ _ => rfl)) (pv 4) (nomark _)))) (fun _ _ _ _ _ => (pv 6)))
  (pss_cons (ps_if (pt_cmpR (op_eqD hr.units) (pv 5) (pe_lst pa_nil) (nomark _))
  (pss_one (ps_ret pe_non))
  pss_nil)
  (pss_one (ps_par (i := 2) (j := 3) (by rfl) sc_law_way.nd rfl rfl (by decide) rfl rfl (pa_cons (pe_ix ix_tup (pe_ix ix_list (pv 5) pe_int (fun _ _ => rfl)) pe_int (fun _ _ => rfl)) (pa_cons (pe_op op_add (pv 3) (pe_ix ix_tup (pe_ix ix_list (pv 5) pe_int (fun _ _ => rfl)) pe_int (fun _ _ => rfl))) pa_nil)) (by rfl))))))
  (pss_one (ps_ret (pe_tup (pa_cons (pv 2) (pa_cons (pv 3) pa_nil)))))))), ?_⟩
    walk_at "begin"
    walk_at "go"
    obtain ⟨l, hl⟩ : ∃ l, l = z.cps.toList := ⟨_, rfl⟩
    rw [← hl] at k0 k1
    have zs : z.cps.size = l.length := by rw [hl]; simp
    refine ⟨z, rfl, for_it walk_str (fun j σ H' => ∃ st tl a4 a5, Same H H' ∧ runW m (b0, 0) (l.take j) = some (st, tl) ∧
      σ = [some (.ref d), some (.str z), some (.int (st : Nat)), some (.int tl), a4, a5, none]) ⟨b0, 0, none, none, Same.refl _, rfl, rfl⟩ (fun _ _ _ _ _ => trivial) ?_ ?_⟩
    · rintro j y σ H2' H2 hj ⟨st, tl, a4, a5, z2, hrun, rfl⟩ ⟨rfl, c, hc, rfl⟩
      have hc' : l[j]? = some c := by rw [hl]; simpa using hc
      have jl : j < l.length := (List.getElem?_eq_some_iff.mp hc').1
      have tk : l.take (j + 1) = l.take j ++ [c] := by rw [List.take_add_one, hc']; rfl
      have dec : l = (l.take j ++ [c]) ++ l.drop (j + 1) := by rw [← tk, List.take_append_drop]
      walk_at "go"
      refine ⟨d, st, m, rfl, hd.same z2, o, fun p us H3 z3 hp ep nx => ?_⟩
      walk_at "go"
      refine ⟨p, rfl, ⟨us, SqL.of ep⟩, fun D hD => ?_⟩
      have ln : us.length ≤ 32 := by rw [nx.1]; exact Nat.le_trans (List.length_filter_le _ _) o.len
      refine lc_list (xs := us) (fun i H' => Same H3 H' ∧ ∃ ws, H' D = some (.lst ws) ∧ NxAt K H' ws (((fromS m st).take i).filter fun s => s.c == c) ∧ ws.length ≤ i) ⟨Same.new hD, [], upd_same, ⟨rfl, fun i s e => by simp at e⟩, Nat.le_refl _⟩
        (fun i H' _ ⟨z, _⟩ => SqL.of (z _ _ ep)) ?_ ?_
      · rintro i y H4 hy ⟨z4, ws, eD, nw, lw⟩
        have il : i < (fromS m st).length := by rw [← nx.1]; exact (List.getElem?_eq_some_iff.mp hy).1
        have es : (fromS m st)[i]? = some ((fromS m st)[i]'il) := List.getElem?_eq_getElem il
        obtain ⟨q, eq, hq⟩ := (nx.tups (same_tups z4)).2 _ _ es
        rw [hy] at eq
        cases eq
        have ti : ((fromS m st).take (i + 1)).filter (fun s => s.c == c) = ((fromS m st).take i).filter (fun s => s.c == c) ++ (if ((fromS m st)[i]'il).c == c then [(fromS m st)[i]'il] else []) := by
          rw [List.take_add_one, es, List.filter_append]
          congr 1
          show List.filter _ [(fromS m st)[i]'il] = _
          rw [List.filter_cons]
          rfl
        rw [ti]
        have iu : i < us.length := (List.getElem?_eq_some_iff.mp hy).1
        generalize (fromS m st)[i]'il = s0 at hq
        walk_at "go"
        refine ⟨rfl, ?_⟩
        walk_at "go"
        refine k_ixT hq (v := .str ⟨#[s0.c]⟩) rfl ?_
        walk_at "go"
        refine k_ite (fun h => ?_) (fun h => ?_)
        · have h' : s0.c = c := by
            injection h with h
            injection h with h
            have := congrArg (fun x : Array Nat => x.toList) h
            simpa using this
          walk_at "go"
          refine ⟨ws, eD, Nat.lt_of_le_of_lt (show ws.length ≤ 32 by omega) (by decide), Same.mut z4 hD, _, upd_same, ?_, by rw [List.length_append, List.length_singleton]; omega⟩
          rw [if_pos (by rw [h']; exact beq_self_eq_true c)]
          exact (nw.snoc hq).tups (Tups.lst eD)
        · have h' : ¬ s0.c = c := fun z => h (by rw [z])
          refine ⟨z4, ws, eD, ?_, by omega⟩
          rw [if_neg (by simpa using h'), List.append_nil]
          exact nw
      · rintro H4 ⟨z4, ws, eD, nw, lw⟩
        rw [nx.1, List.take_length] at nw
        have eh := step_head m st c
        generalize hF : (fromS m st).filter (fun s => s.c == c) = F at nw eh
        have c100 : ∀ s ∈ F, s.c ≤ 100 := fun s hs => by
          rw [← hF] at hs
          have h1 := (List.mem_filter.mp hs).1
          exact (o.ok s (List.mem_filter.mp h1).1).c'
        walk_at "go"
        refine ⟨(by decide : 0 ≤ sizeLine), fun q hq => ?_⟩
        have zq := Same.new (o := .lst []) hq
        refine k_eqD (Dp.lst (SqL.of (zq _ _ eD)) (dp_nx (nw.tups (same_tups zq)))) (Dp.lst (SqL.of upd_same) .nil) (nx_sh c100) rfl ?_
        rw [nx_eqv]
        have z5 := ((z2.trans z3).trans z4).trans zq
        have eD5 := zq _ _ eD
        have nw5 := nw.tups (same_tups zq)
        cases F with
        | nil =>
          walk_at "go"
          refine k_yes (by rfl) ?_
          walk_at "go"
          refine k0 ?_ _ z5
          rw [dec]
          have rs : runW m (b0, 0) (l.take j ++ [c]) = none := by
            rw [runW_snoc]
            have hrun' : runW m (b0, 0) (l.take j) = some (st, tl) := hrun
            rw [hrun']
            show (stepOf m st c).map _ = none
            rw [eh]
            rfl
          rw [runW_append, rs]
          rfl
        | cons s0 F =>
          have es : stepOf m st c = some s0 := eh
          obtain ⟨p0, e0, h0⟩ := nw5.2 0 s0 rfl
          walk_at "go"
          refine k_no (by rfl) ?_
          walk_at "go"
          refine k_ixL (SqL.of eD5) (atI_nat (j := 0) e0) ?_
          walk_at "go"
          refine k_ixT h0 (v := .int (s0.e : Nat)) rfl ?_
          walk_at "go"
          refine k_ixL (SqL.of eD5) (atI_nat (j := 0) e0) ?_
          walk_at "go"
          refine k_ixT h0 (v := .int s0.g) rfl ?_
          walk_at "go"
          refine ⟨s0.e, tl + s0.g, _, _, z5, ?_, rfl⟩
          rw [tk]
          rw [runW_snoc, hrun]
          show (stepOf m st c).map _ = _
          rw [es]
          rfl
    · rintro σ H2 ⟨st, tl, a4, a5, z2, hrun, rfl⟩
      rw [zs, List.take_length] at hrun
      walk_at "go"
      refine ⟨(by decide : 2 ≤ sizeLine), fun p hp => ?_⟩
      have hp0 : H p = none := by
        cases e : H p with
        | none => rfl
        | some ob => rw [z2 _ _ e] at hp; cases hp
      exact k1 _ _ hrun p _ (z2.trans (Same.new hp)) hp0 upd_same
end
/-! ### == of the own class -/
def rEqO (K : PySem.W.Frag) (C : Addr) (sp : Sp) : R2 := fun x y H Q => ∃ (a dx : Addr) (fs : List (Str × V)) (tb : Value), x = .ref a ∧ H a = some (.ins C dx fs) ∧ TyX K H y tb ∧ PySem.W.notFirst K C tb = true ∧ sp [x, y] H (fun v H' => (∃ b, v = .bl b) ∧ Q v H') E0
theorem op_eqO {X : Cx} {C f : Addr} {fd : FuncData} {ps : List Str} {sp : Sp} {n : Nat} (F : FnOk X.prog X.w X.K X.mg X.base (L2.CX X.prog X.w) n f fd ps sp) (hr : Room n X.A)
    (hs : PySem.W.findIn X.K (.ref C) "__eq__" = some (some (.ref f))) (hf : PySem.W.isFn X.K (.ref f) = true) (hb : Binds X.K fd ps []) : OpR X (compareOp .Eq) (rEqO X.K C sp) := by
  intro pins s σ H x y v u Q I rx ry h
  obtain ⟨a, dx, fs, tb, rfl, ha, ty, hn, hsp⟩ := h
  obtain rfl : v = Value.ref a := rx
  obtain ⟨mA, J, _⟩ := ins_get I.hok ha
  obtain ⟨od, J, _⟩ := J.look
  obtain ⟨m, hF⟩ := I.fr
  obtain ⟨Pk, hk, hp, _⟩ := kit_of I ry ty
  show wpAny (model X.prog X.w) X.A (richCompare .Eq (.ref a) u) (EP X pins σ Q) X.xe s
  refine PySem.W.cmp_K (op := .Eq) (tb := tb) hr.units0 hF I.ok.mod.kin J (hk.ty _ _ I.kIn hp) hn hs hf ?_
  have r2 : Vals [V.ref a, y] [Value.ref a, u] := .cons rfl (.cons ry .nil)
  have hl := F.len _ _ _ _ hsp
  refine wpAny_call (codeAny_mono (F.run X.A X.stack s H ⟨[.ref a, u], []⟩ [.ref a, u] [.ref a, y] _ E0 hr I.env0 (by
    have := hb s [.ref a, u] I.kIn (by simpa using hl)
    simpa using this) r2 hsp) fun r s' hq => ?_)
  cases r with
  | error e => exact passL pins σ H s e s' I hq
  | ok fl =>
    cases fl with
    | ret w =>
      obtain ⟨z, H', I', rz, ⟨b, ez⟩, q⟩ := I.after hq
      subst ez
      cases (show w = Value.bool b from rz)
      exact ⟨.bl b, H', I', rfl, q⟩
    | next => exact False.elim hq
    | brk => exact False.elim hq
    | cont => exact False.elim hq
/-! ### machines compared -/
def stD (s : Stp) : PyData := .tuple [.int (s.b : Nat), .str ⟨#[s.c]⟩, .int (s.e : Nat), .int s.g]
def ssD (ss : List Stp) : PyData := .tuple (ss.map stD)
def esD (es : List Nat) : PyData := .tuple (es.map fun e => PyData.int (e : Nat))
def eqM (m m' : MD) : Bool := decide (m.n = m'.n) && (PyData.eqv (ssD m.ss) (ssD m'.ss) && PyData.eqv (esD m.es) (esD m'.es))
theorem dp_st {K : PySem.W.Frag} {H : Hp} {p : Addr} {s : Stp} (h : SqT K H p (stpV s)) : Dp K H (.ref p) (stD s) := .tup h (.cons (.int _) (.cons (.str _) (.cons (.int _) (.cons (.int _) .nil))))
theorem dp_sts {K : PySem.W.Frag} {H : Hp} : ∀ {us : List V} {ss : List Stp}, StpsAt K H us ss → DpAll K H us (ss.map stD)
  | [], [], _ => .nil
  | u :: us, s :: ss, h => by
    obtain ⟨p, e, q⟩ := h.2 0 s rfl
    cases e
    exact .cons (dp_st q) (dp_sts ⟨Nat.succ.inj h.1, fun i t e => h.2 (i + 1) t e⟩)
  | [], _ :: _, h => nomatch h.1
  | _ :: _, [], h => nomatch h.1
theorem dp_ss {K : PySem.W.Frag} {H : Hp} {p : Addr} {us : List V} {ss : List Stp} (h : SqT K H p us) (q : StpsAt K H us ss) : Dp K H (.ref p) (ssD ss) := .tup h (dp_sts q)
theorem dp_ns {K : PySem.W.Frag} {H : Hp} : ∀ (es : List Nat), DpAll K H (nats es) (es.map fun e => PyData.int (e : Nat))
  | [] => .nil
  | _ :: es => .cons (.int _) (dp_ns es)
theorem dp_es {K : PySem.W.Frag} {H : Hp} {p : Addr} {es : List Nat} (h : SqT K H p (nats es)) : Dp K H (.ref p) (esD es) := .tup h (dp_ns es)
theorem sts_shaped : ∀ {ns : List Stp}, (∀ s ∈ ns, s.c ≤ 100) → PyData.canLayAll0 (ns.map stD) = true ∧ PyData.depthAll (ns.map stD) ≤ 3
  | [], _ => ⟨rfl, Nat.zero_le _⟩
  | s :: ns, h => by
    obtain ⟨h1, h2⟩ := sts_shaped (ns := ns) fun t ht => h t (List.mem_cons_of_mem _ ht)
    have hc := h s List.mem_cons_self
    constructor
    · show (PyData.canLay0 (stD s) && PyData.canLayAll0 (ns.map stD)) = true
      rw [h1, Bool.and_true]
      show (true && ((#[s.c].all (· < 0x110000)) && (true && (true && true)))) = true
      simp
      omega
    · show max (PyData.depth (stD s)) (PyData.depthAll (ns.map stD)) ≤ 3
      have : PyData.depth (stD s) ≤ 3 := by
        show max _ (max _ (max _ (max _ _))) + 1 ≤ 3
        simp [PyData.depth, PyData.depthAll]
      omega
theorem ss_sh {ns : List Stp} (h : ∀ s ∈ ns, s.c ≤ 100) : SeqAt.shaped (ssD ns) = true := by
  obtain ⟨h1, h2⟩ := sts_shaped h
  show (PyData.canLayAll0 (ns.map stD) && decide (PyData.depthAll (ns.map stD) + 1 ≤ 64)) = true
  rw [h1, Bool.true_and]
  exact decide_eq_true (by omega)
theorem es_shaped : ∀ l : List Nat, PyData.canLayAll0 (l.map fun n => PyData.int (n : Nat)) = true ∧ PyData.depthAll (l.map fun n => PyData.int (n : Nat)) ≤ 3
  | [] => ⟨rfl, Nat.zero_le _⟩
  | n :: l => by
    obtain ⟨h1, h2⟩ := es_shaped l
    constructor
    · show (true && PyData.canLayAll0 (l.map fun n => PyData.int (n : Nat))) = true
      rw [h1]
      rfl
    · show max (PyData.depth (PyData.int (n : Nat))) (PyData.depthAll (l.map fun n => PyData.int (n : Nat))) ≤ 3
      have : PyData.depth (PyData.int (n : Nat)) ≤ 3 := by simp [PyData.depth]
      omega
theorem es_sh (l : List Nat) : SeqAt.shaped (esD l) = true := by
  obtain ⟨h1, h2⟩ := es_shaped l
  show (PyData.canLayAll0 (l.map fun n => PyData.int (n : Nat)) && decide (PyData.depthAll (l.map fun n => PyData.int (n : Nat)) + 1 ≤ 64)) = true
  rw [h1, Bool.true_and]
  exact decide_eq_true (by omega)
theorem sh_refl {d : PyData} (h : SeqAt.shaped d = true) : PyData.eqv d d = true := SeqAt.eqv_refl d (Bool.and_eq_true_iff.mp h).1
theorem sub_ty {K : PySem.W.Frag} {n : String} {C : Addr} (h : (fastFind? n).isSome = true) : PySem.W.subIn K (.type n) (.ref C) = some false := by
  unfold PySem.W.subIn fastBuiltinMro
  cases e : fastFind? n with
  | none => rw [e] at h; cases h
  | some x =>
    show Option.map (fun l => List.contains l (Value.ref C)) (Option.map (fun x => x.mro.map Value.type) (fastFind? n)) = some false
    rw [e]
    show some ((x.mro.map Value.type).contains (.ref C)) = some false
    congr 1
    rw [List.contains_eq_any_beq, List.any_eq_false]
    intro y hy
    obtain ⟨z, _, rfl⟩ := List.mem_map.mp hy
    simp
theorem first_ty {K : PySem.W.Frag} {C : Addr} {n : String} (h : (fastFind? n).isSome = true := by decide +kernel) : PySem.W.notFirst K C (.type n) = true := by
  unfold PySem.W.notFirst
  rw [sub_ty h]
  simp
theorem first_self {K : PySem.W.Frag} {C : Addr} : PySem.W.notFirst K C (.ref C) = true := by
  unfold PySem.W.notFirst
  simp
theorem kit_not {K : PySem.W.Frag} {mg : Str → Option Value} (T : Txt K mg) {n : String} (h : (fastFind? n).isSome = true) : PySem.W.kitOne K (.type n) (.ref T.c_Machine) = some false := by
  have hc : (PySem.W.clsIn K T.c_Machine).isSome = true := T.j1_Machine
  unfold PySem.W.kitOne PySem.W.kitCls
  rw [if_neg (by simp)]
  simp only [hc, T.j2_Machine, beq_self_eq_true, Bool.and_self, if_true]
  exact sub_ty h
/-- what stands behind each statement of the law -/
structure GS (K : PySem.W.Frag) (C : Addr) (H : Hp) (a d t u mc : Addr) (m : MD) : Prop where
  row : RowOk K H a
  d : DAt K H d m
  st : StAt K H t m.ss
  en : SqT K H u (nats m.es)
  mc : MAt K C H mc m
theorem GS.same {K : PySem.W.Frag} {C : Addr} {H H' : Hp} {a d t u mc : Addr} {m : MD} (h : GS K C H a d t u mc m) (z : Same H H') : GS K C H' a d t u mc m := ⟨h.row.same z, h.d.same z, (same_tups z).stAt h.st, (same_tups z).sq h.en, h.mc.same z⟩
theorem GS.keep {K : PySem.W.Frag} {C : Addr} {H H' : Hp} {a d t u mc : Addr} {m : MD} (h : GS K C H a d t u mc m) (R : RowOk K H' a) (z : Keep a H H') : GS K C H' a d t u mc m := by
  obtain ⟨l, e⟩ := h.row.lst
  exact ⟨R, h.d.keep z e, (z.tups e).stAt h.st, (z.tups e).sq h.en, h.mc.keep z e⟩
def sp_meq (K : PySem.W.Frag) (C : Addr) : Sp := fun vs H Q _ => ∃ (x : Addr) (m : MD) (y : V), vs = [.ref x, y] ∧ MAt K C H x m ∧ m.Ok ∧
  ((∃ ty, TyX K H y ty ∧ PySem.W.kitOne K ty (.ref C) = some false ∧ Q (.bl false) H) ∨ ∃ (z : Addr) (m' : MD), y = .ref z ∧ MAt K C H z m' ∧ m'.Ok ∧ Q (.bl (eqM m m')) H)
section
variable {P : Program} {w : World} {K : PySem.W.Frag} {mg : Str → Option Value} {base : Heap}
theorem ok_Machine_eq (T : Txt K mg) : FnOk P w K mg base (L2.CX P w) 1 T.a_Machine_eq T.fd_Machine_eq ["self", "other"] (sp_meq K T.c_Machine) := by
  refine T.F_Machine_eq.okX sc_Machine_eq (fun vs H Q E h => ?_) (fun cdv A outer s H vs Q E hr h => ?_)
  · obtain ⟨x, m, y, rfl, _⟩ := h
    rfl
  · obtain ⟨x, m, y, rfl, hm, o, h⟩ := h
    refine ⟨_, (PSs.nox (pss_one (ps_ret (pe_and (pe_callB call_isi (by rfl) T.z_isinstance (by decide +kernel) (pa_cons (pv 1) (pa_cons (pe_glob (v := .ref T.c_Machine) (by rfl) T.m_Machine rfl) pa_nil))) (pe_and (pe_cmpR op_eq (pe_fld (pv 0) rfl) (pe_fld (pv 1) rfl) (nomark _)) (pe_and (pe_cmpR (op_eqD hr.units) (pe_fld (pv 0) rfl) (pe_fld (pv 1) rfl) (nomark _)) (pe_one (pe_cmpR (op_eqD hr.units) (pe_fld (pv 0) rfl) (pe_fld (pv 1) rfl) (nomark _))))))))), ?_⟩
    walk_at "begin"
    walk_at "go"
    rcases h with ⟨ty, h1, h2, k⟩ | ⟨z, m', rfl, hz, o', k⟩
    · refine k_isi (.own _) h1 h2 ?_
      walk_at "go"
      exact iteF k
    · obtain ⟨dz, tz, uz, ez, ⟨usz, htz, hsz⟩, huz⟩ := hz
      obtain ⟨dx, tx, ux, ex, ⟨usx, htx, hsx⟩, hux⟩ := hm
      refine k_isi (.own _) (ty_Machine T ez) kit_self ?_
      walk_at "go"
      refine iteT ?_
      walk_at "go"
      refine ⟨x, T.c_Machine, dx, _, .int (m.n : Nat), rfl, ex, T.cl_Machine, T.n__stands, rfl, ?_⟩
      walk_at "go"
      refine ⟨z, T.c_Machine, dz, _, .int (m'.n : Nat), rfl, ez, T.cl_Machine, T.n__stands, rfl, ?_⟩
      walk_at "go"
      unfold eqM at k
      by_cases c1 : m.n = m'.n
      · rw [decide_eq_true c1, Bool.true_and] at k
        rw [decide_eq_true (show V.int (m.n : Nat) = V.int (m'.n : Nat) by rw [c1])]
        refine iteT ?_
        walk_at "go"
        refine ⟨x, T.c_Machine, dx, _, .ref tx, rfl, ex, T.cl_Machine, T.n__steps, rfl, ?_⟩
        walk_at "go"
        refine ⟨z, T.c_Machine, dz, _, .ref tz, rfl, ez, T.cl_Machine, T.n__steps, rfl, ?_⟩
        refine k_eqD (dp_ss htx hsx) (dp_ss htz hsz) (ss_sh fun s hs => (o.ok s hs).c') (ss_sh fun s hs => (o'.ok s hs).c') ?_
        generalize PyData.eqv (ssD m.ss) (ssD m'.ss) = b at k ⊢
        cases b with
        | false => exact ⟨_, rfl, iteF k⟩
        | true =>
          refine ⟨_, rfl, iteT ?_⟩
          walk_at "go"
          refine ⟨x, T.c_Machine, dx, _, .ref ux, rfl, ex, T.cl_Machine, T.n__ends, rfl, ?_⟩
          walk_at "go"
          refine ⟨z, T.c_Machine, dz, _, .ref uz, rfl, ez, T.cl_Machine, T.n__ends, rfl, ?_⟩
          rw [Bool.true_and] at k
          exact k_eqD (dp_es hux) (dp_es huz) (es_sh _) (es_sh _) k
      · rw [decide_eq_false c1, Bool.false_and] at k
        rw [decide_eq_false (show ¬ V.int (m.n : Nat) = V.int (m'.n : Nat) from fun z => by injection z with z; exact c1 (by omega))]
        exact iteF k
theorem eqO_fin (T : Txt K mg) {H : Hp} {mc x : Addr} {m m' : MD} {Q : VK} (hm : MAt K T.c_Machine H mc m) (o : m.Ok) (hx : MAt K T.c_Machine H x m') (o' : m'.Ok) (k : Q (.bl (eqM m m')) H) : rEqO K T.c_Machine (sp_meq K T.c_Machine) (.ref mc) (.ref x) H Q := by
  obtain ⟨dm, tm, um, em, _⟩ := id hm
  obtain ⟨dx, tx, ux, ex, _⟩ := id hx
  exact ⟨mc, dm, _, .ref T.c_Machine, rfl, em, ty_Machine T ex, first_self, mc, m, _, rfl, hm, o, .inr ⟨x, m', rfl, hx, o', ⟨_, rfl⟩, k⟩⟩
theorem make_fin {C : Addr} {H : Hp} {x dx t u : Addr} {m : MD} {Q : Hp → Prop} {E : XK} (hx : H x = none) (hdx : H dx = none) (ne : dx ≠ x) (hp : PartsAt K H t u m) (o : m.Ok) (k : ∀ H', Same H H' → MAt K C H' x m → Q H') :
    sp_init K C [.ref x, .int (m.n : Nat), .ref t, .ref u] (upd (upd H dx (.own x)) x (.ins C dx [])) (fun v H2 => v = .non ∧ Q H2) E := by
  have z3 : Same H (upd (upd H dx (.own x)) x (.ins C dx [])) := (Same.new hdx).trans (Same.new (by rw [upd_ne ne.symm]; exact hx))
  refine ⟨x, dx, t, u, m, rfl, upd_same, (same_tups z3).parts hp, o, fun H4 k4 e4 => ⟨rfl, ?_⟩⟩
  have z4 : Same H H4 := fun b ob e => k4 b ob (ne_of_none e hx) (z3 _ _ e)
  exact k H4 z4 ⟨dx, t, u, e4, (same_tups z4).parts hp⟩
end
theorem eqM_self {m : MD} (o : m.Ok) : eqM m m = true := by
  unfold eqM
  rw [decide_eq_true rfl, sh_refl (ss_sh fun s hs => (o.ok s hs).c'), sh_refl (es_sh _)]
  rfl
theorem eqM_n {m m' : MD} (h : m.n ≠ m'.n) : eqM m m' = false := by
  unfold eqM
  rw [decide_eq_false h]
  rfl
theorem eqM_e {m m' : MD} (h : (m.es = [] ∧ m'.es = [0]) ∨ (m.es ≠ [] ∧ m'.es = [])) : eqM m m' = false := by
  unfold eqM
  have : PyData.eqv (esD m.es) (esD m'.es) = false := by
    rcases h with ⟨h1, h2⟩ | ⟨h1, h2⟩
    · rw [h1, h2]; rfl
    · rw [h2]
      cases e : m.es with
      | nil => exact absurd e h1
      | cons _ _ => rfl
  rw [this, Bool.and_false, Bool.and_false]
theorem eqvAll_len : ∀ xs ys : List PyData, PyData.eqvAll xs ys = true → xs.length = ys.length
  | [], [], _ => rfl
  | [], _ :: _, h => by simp [PyData.eqvAll] at h
  | _ :: _, [], h => by simp [PyData.eqvAll] at h
  | x :: xs, y :: ys, h => by
    rw [show PyData.eqvAll (x :: xs) (y :: ys) = (PyData.eqv x y && PyData.eqvAll xs ys) from by simp [PyData.eqvAll], Bool.and_eq_true] at h
    exact congrArg (· + 1) (eqvAll_len xs ys h.2)
theorem eqM_s {m m' : MD} (h : m.ss.length ≠ m'.ss.length) : eqM m m' = false := by
  unfold eqM
  have : PyData.eqv (ssD m.ss) (ssD m'.ss) = false := by
    cases e : PyData.eqv (ssD m.ss) (ssD m'.ss) with
    | false => rfl
    | true =>
      have e2 : PyData.eqvAll (m.ss.map stD) (m'.ss.map stD) = true := by
        have := e
        unfold ssD at this
        simpa [PyData.eqv] using this
      have := eqvAll_len _ _ e2
      rw [List.length_map, List.length_map] at this
      exact absurd this h
  rw [this, Bool.false_and, Bool.and_false]
/-! ### the law reads a letter -/
def sp_lread (K : PySem.W.Frag) (C CM : Addr) : Sp := fun vs H Q _ => ∃ (p L : Addr) (m : MD) (w : Wd) (v : V) (st : Nat) (tl : Int), vs = [.ref p, v] ∧ MtrAt K C CM H p L m w ∧ m.Ok ∧ w.length ≤ 100 ∧ run m w = some (st, tl) ∧
  (((NotStr K H v ∨ ∃ z : Str, v = .str z ∧ ∀ c, z = ⟨#[c]⟩ → stepOf m st c = none) ∧ ∀ H', Same H H' → Q (.str "letter") H') ∨
    ∃ (c : Nat) (s : Stp), v = .str ⟨#[c]⟩ ∧ stepOf m st c = some s ∧ ∀ H', Keep2 p L H H' → MtrAt K C CM H' p L m (w ++ [c]) → Q (.int (tl + s.g)) H')
section
variable {P : Program} {w : World} {K : PySem.W.Frag} {mg : Str → Option Value} {base : Heap}
theorem ok_law_read (T : Txt K mg) : FnOk P w K mg base (L2.CX P w) 3 T.a_law_read T.fd_law_read ["_law_meter", "_law_letter"] (sp_lread K T.c_Meter T.c_Machine) := by
  refine T.F_law_read.okX sc_law_read (fun vs H Q E h => ?_) (fun cdv A outer s H vs Q E hr h => ?_)
  · obtain ⟨p, L, m, w, v, st, tl, rfl, _⟩ := h
    rfl
  · obtain ⟨p, L, m, w, v, st, tl, rfl, hm, o, w100, er, h⟩ := h
    obtain ⟨dx, x, D, us, kvs, ep, _⟩ := id hm
    refine ⟨_, (PSs.nox (pss_cons (ps_set (i := 2) sc_law_read.nd rfl (Or.inl rfl) pe_non)
  (pss_cons (ps_try_only rfl rfl ⟨rfl, by decide, .inl T.m_BadLetter⟩ takes0 (fun W pn xe tk _ => (pss_one (ps_set (i := 2) sc_law_read.nd rfl (Or.inl rfl) (pe_methX (pv 0) T.cl_Meter T.h_Meter_read (ok_Meter_read_bad T) (hr.mono (by decide)) T.b_Meter_read (fun σ => passAt tk σ) (pa_cons (pv 1) pa_nil))))) (fun a oe cls d pn _ _ => (pss_one (ps_set (i := 2) sc_law_read.nd rfl (Or.inl rfl) pe_str))))
  (pss_one (ps_ret (pv 2)))))), ?_⟩
    walk_at "begin"
    walk_at "go"
    refine k_methX ?_
    walk_at "go"
    refine ⟨p, dx, _, rfl, ep, rfl, ?_⟩
    walk_at "go"
    refine ⟨p, L, m, w, v, st, tl, rfl, hm, o, w100, er, ?_⟩
    rcases h with ⟨bad, k⟩ | ⟨c, s0, rfl, es, k⟩
    · rcases bad with ns | ⟨z, rfl, nz⟩
      · exact .inl ⟨ns, fun H' z => ⟨true, T.e_BadLetter, fun _ a ha => ⟨_, rfl, k H' z⟩, fun e => by cases e⟩⟩
      · exact .inr (.inl ⟨z, rfl, nz, fun H' z => ⟨true, T.e_BadLetter, fun _ a ha => ⟨_, rfl, k H' z⟩, fun e => by cases e⟩⟩)
    · refine .inr (.inr ⟨c, s0, rfl, es, fun H' k2 hm2 => ?_⟩)
      exact ⟨_, rfl, k H' k2 hm2⟩
end
/-! ### is it the meter of a word -/
def sp_ismtr (K : PySem.W.Frag) (C CM : Addr) : Sp := fun vs H Q _ => ∃ (p L d : Addr) (m : MD) (w : Wd), vs = [.ref p, .ref d, .str (sOf w)] ∧ MtrAt K C CM H p L m w ∧ DAt K H d m ∧ m.Ok ∧ w.length ≤ 50 ∧ ∀ H', Same H H' → Q (.bl true) H'
/-- where the beginnings lead, told in a list -/
def TldAt (K : PySem.W.Frag) (H : Hp) (us : List V) (m : MD) (w : Wd) (n : Nat) : Prop := us.length = n ∧ ∀ i, i < n → ∃ q st tl, us[i]? = some (V.ref q) ∧ run m (w.take i) = some (st, tl) ∧ SqT K H q [.int (st : Nat), .int tl]
theorem TldAt.tups {K : PySem.W.Frag} {H H' : Hp} {us : List V} {m : MD} {w : Wd} {n : Nat} (h : TldAt K H us m w n) (t : Tups H H') : TldAt K H' us m w n := ⟨h.1, fun i hi => let ⟨q, st, tl, e, r, z⟩ := h.2 i hi; ⟨q, st, tl, e, r, t.sq z⟩⟩
theorem TldAt.snoc {K : PySem.W.Frag} {H : Hp} {us : List V} {m : MD} {w : Wd} {n : Nat} {q : Addr} {st : Nat} {tl : Int} (h : TldAt K H us m w n) (e : run m (w.take n) = some (st, tl)) (hq : SqT K H q [.int (st : Nat), .int tl]) : TldAt K H (us ++ [V.ref q]) m w (n + 1) := by
  refine ⟨by rw [List.length_append, h.1]; rfl, fun i hi => ?_⟩
  by_cases ci : i < n
  · obtain ⟨q', s', t', e1, e2, e3⟩ := h.2 i ci
    exact ⟨q', s', t', by rw [List.getElem?_append_left (by rw [h.1]; exact ci)]; exact e1, e2, e3⟩
  · have ei : i = n := by omega
    exact ⟨q, st, tl, by rw [ei, ← h.1, List.getElem?_append_right (Nat.le_refl _), Nat.sub_self]; rfl, by rw [ei]; exact e, hq⟩
theorem TldAt.last {K : PySem.W.Frag} {H : Hp} {us : List V} {m : MD} {w : Wd} {st : Nat} {tl : Int} (h : TldAt K H us m w (w.length + 1)) (e : run m w = some (st, tl)) : ∃ q, atI us (-1) = some (.ref q) ∧ SqT K H q [.int (st : Nat), .int tl] := by
  obtain ⟨q, s', t', e1, e2, e3⟩ := h.2 w.length (Nat.lt_succ_self _)
  rw [List.take_length, e] at e2
  cases e2
  refine ⟨q, ?_, e3⟩
  unfold atI
  have : ixN us.length (-1) = some w.length := by
    rw [h.1]
    unfold ixN
    simp
    omega
  rw [this]
  exact e1
theorem sums_get {m : MD} {w : Wd} {i : Nat} {st : Nat} {tl : Int} (h : i ≤ w.length) (e : run m (w.take i) = some (st, tl)) : (sums m w)[i]? = some tl := by
  unfold sums
  rw [List.getElem?_map, List.getElem?_range (by omega)]
  show some (tal m (w.take i)) = _
  unfold tal
  rw [e]
  rfl
theorem dp_int2 {K : PySem.W.Frag} {H : Hp} {p : Addr} {i j : Int} (h : SqT K H p [.int i, .int j]) : Dp K H (.ref p) (.tuple [.int i, .int j]) := .tup h (.cons (.int _) (.cons (.int _) .nil))
theorem sh_int2 (i j : Int) : SeqAt.shaped (.tuple [.int i, .int j]) = true := rfl
section
variable {P : Program} {w : World} {K : PySem.W.Frag} {mg : Str → Option Value} {base : Heap}
theorem ok_law_is_meter (T : Txt K mg) : FnOk P w K mg base (L2.CX P w) 11 T.a_law_is_meter T.fd_law_is_meter ["_law_meter", "_law_d", "_law_word"] (sp_ismtr K T.c_Meter T.c_Machine) := by
  refine T.F_law_is_meter.okX sc_law_is_meter (fun vs H Q E h => ?_) (fun cdv A outer s H vs Q E hr h => ?_)
  · obtain ⟨p, L, d, m, w, rfl, _⟩ := h
    rfl
  · obtain ⟨p, L, d, m, w, rfl, hm, hd, o, w50, k⟩ := h
    obtain ⟨dx, x, D, us, kvs, ep, hx, eD, mv, kk, eL, pl, nx⟩ := id hm
    obtain ⟨q0, e1, e2, st, tl, lo, hi, r0, er, hq0, hr0, sp⟩ := pl.last
    have w100 : w.length ≤ 100 := by omega
    refine ⟨_, (PSs.nox (pss_cons (ps_setLc (i := 3) (own := [("_law_at", 5)]) (g := (gName 5)) (tt := tYes) rfl sc_law_is_meter.nd rfl rfl (sw_true rfl rfl rfl (by decide +kernel)) (pi_range1 (by rfl) T.z_range (pa_cons (pe_op op_add (pe_callB call_len_str (by rfl) T.z_len PySem.boot_len (pa_cons (pv 2) pa_nil)) pe_int) pa_nil)) (blkOk_by (own := [("_law_at", 5)]) (N := ["_law_meter", "_law_d", "_law_word", "_law_told", "_law_sums", "_law_at", "_law_stand", "_law_tally", "_law_letter", "_law_end", "_law_gain"]) (sc := defScope s_law_is_meter) (by decide +kernel)) (fun _ _ _ _ _ => (pg_name (i := 5) sc_law_is_meter.nd rfl (Or.inl rfl))) (fun _ _ _ _ _ => pts_nil) (fun _ _ _ _ _ => (pe_call (ok_law_way T) (hr.mono (by decide)) (by rfl) T.m_law_way T.k_law_way T.b_law_way .nil passL (pa_cons (pv 1) (pa_cons (pe_slice sl_str (pv 2) po_none (po_some (pv 5))) (pa_cons pe_int pa_nil))))))
  (pss_cons (ps_setLc (i := 4) (own := [("_law_stand", 6), ("_law_tally", 7)]) (g := (gTup K 2 (gCons (gName 6) (gCons (gName 7) gNil)))) (tt := tYes) rfl sc_law_is_meter.nd rfl rfl (sw_true rfl rfl rfl (by decide +kernel)) (pi_list (pv 3)) (blkOk_by (own := [("_law_stand", 6), ("_law_tally", 7)]) (N := ["_law_meter", "_law_d", "_law_word", "_law_told", "_law_sums", "_law_at", "_law_stand", "_law_tally", "_law_letter", "_law_end", "_law_gain"]) (sc := defScope s_law_is_meter) (by decide +kernel)) (fun _ _ _ _ _ => (pg_tup rfl (pgs_cons (pg_name (i := 6) sc_law_is_meter.nd rfl (Or.inl rfl)) (pgs_cons (pg_name (i := 7) sc_law_is_meter.nd rfl (Or.inl rfl)) pgs_nil)))) (fun _ _ _ _ _ => pts_nil) (fun _ _ _ _ _ => (pv 7)))
  (pss_cons (ps_if (PW.pt (pw_or (pt_cmpR op_ne (pe_prop (pv 0) T.cl_Meter T.p_row (ok_Meter_row T) (hr.mono (by decide)) T.b_Meter_row .nil passL rfl) (pv 2) (nomark _)) (pw_or (pt_cmpR (op_neD hr.units) (pe_tup (pa_cons (pe_prop (pv 0) T.cl_Meter T.p_stand (ok_Meter_stand T) (hr.mono (by decide)) T.b_Meter_stand .nil passL rfl) (pa_cons (pe_prop (pv 0) T.cl_Meter T.p_tally (ok_Meter_tally T) (hr.mono (by decide)) T.b_Meter_tally .nil passL rfl) pa_nil))) (pe_ix ix_list (pv 3) (pe_un un_neg pe_int) (fun _ _ => rfl)) (nomark _)) (pw_or1 (pt_cmpR (op_neD hr.units) (pe_prop (pv 0) T.cl_Meter T.p_span (ok_Meter_span T) (hr.mono (by decide)) T.b_Meter_span .nil passL rfl) (pe_tup (pa_cons (pe_callB (cr_min rfl) (by rfl) T.z_min (by decide +kernel) (pa_cons (pv 4) pa_nil)) (pa_cons (pe_callB (cr_max rfl) (by rfl) T.z_max (by decide +kernel) (pa_cons (pv 4) pa_nil)) pa_nil))) (nomark _))))))
  (pss_one (ps_ret pe_bl))
  pss_nil)
  (pss_cons (ps_if (pt_cmpR op_ne (pe_meth0 (pv 0) T.cl_Meter T.h_Meter_can (ok_Meter_can T) (hr.mono (by decide)) T.b_Meter_can .nil passL) (pe_join pe_str (pe_lc (own := [("_law_letter", 8), ("_law_end", 9), ("_law_gain", 10)]) (g := (gTup K 3 (gCons (gName 8) (gCons (gName 9) (gCons (gName 10) gNil))))) (tt := tYes) rfl sc_law_is_meter.nd (pi_list (pe_call (ok_law_next T) (hr.mono (by decide)) (by rfl) T.m_law_next T.k_law_next T.b_law_next .nil passL (pa_cons (pv 1) (pa_cons (pe_ix ix_tup (pe_ix ix_list (pv 3) (pe_un un_neg pe_int) (fun _ _ => rfl)) pe_int (fun _ _ => rfl)) pa_nil)))) (blkOk_by (own := [("_law_letter", 8), ("_law_end", 9), ("_law_gain", 10)]) (N := ["_law_meter", "_law_d", "_law_word", "_law_told", "_law_sums", "_law_at", "_law_stand", "_law_tally", "_law_letter", "_law_end", "_law_gain"]) (sc := defScope s_law_is_meter) (by decide +kernel)) (fun _ _ _ _ _ => (pg_tup rfl (pgs_cons (pg_name (i := 8) sc_law_is_meter.nd rfl (Or.inl rfl)) (pgs_cons (pg_name (i := 9) sc_law_is_meter.nd rfl (Or.inl rfl)) (pgs_cons (pg_name (i := 10) sc_law_is_meter.nd rfl (Or.inl rfl)) pgs_nil))))) (fun _ _ _ _ _ => pts_nil) (fun _ _ _ _ _ => (pv 8)))) (nomark _))
  (pss_one (ps_ret pe_bl))
  pss_nil)
  (pss_one (ps_ret (pe_and (pe_cmpR op_eq (pe_callB (call_lenO (ok_Meter_len T) (hr.mono (by decide)) T.h_Meter_len T.b_Meter_len) (by rfl) T.z_len PySem.boot_len (pa_cons (pv 0) pa_nil)) (pe_callB call_len_str (by rfl) T.z_len PySem.boot_len (pa_cons (pv 2) pa_nil)) (nomark _)) (pe_one (pe_cmpR (op_eqO (ok_Machine_eq T) (hr.mono (by decide)) T.j3_Machine T.j4_Machine T.b_Machine_eq) (pe_prop (pv 0) T.cl_Meter T.p_machine (ok_Meter_machine T) (hr.mono (by decide)) T.b_Meter_machine .nil passL rfl) (pe_call (ok_law_machine T) (hr.mono (by decide)) (by rfl) T.m_law_machine T.k_law_machine T.b_law_machine .nil passL (pa_cons (pv 1) pa_nil)) (nomark _))))))))))), ?_⟩
    walk_at "begin"
    walk_at "go"
    refine ⟨_, rfl, sOf_fits w100, ?_⟩
    rw [sOf_len]
    walk_at "go"
    refine ⟨_, rfl, by omega, by omega, fun B hB => ?_⟩
    refine lc_range (lo := 0) (n := (((w.length : Nat) : Int) + 1).toNat) (fun i H' => Same H H' ∧ ∃ us, H' B = some (.lst us) ∧ TldAt K H' us m w i) ⟨Same.new hB, [], upd_same, rfl, fun i hi => by omega⟩ ?_ ?_
    · rintro i H1 il ⟨z1, ts, eB, td⟩
      have iw : i ≤ w.length := by omega
      walk_at "go"
      refine ⟨rfl, ?_⟩
      walk_at "go"
      refine iteT ?_
      walk_at "go"
      refine k_slS (sOf_fits w100) ?_
      rw [Int.zero_add, cutS_take]
      walk_at "go"
      obtain ⟨qi, e3, st', tl', lo', hi', ri, er', _⟩ := pl.2 i iw
      refine ⟨d, sOf (w.take i), 0, m, rfl, hd.same z1, o, fun e => ?_, fun n t e p' H2 z2 hp' ep' => ?_⟩
      · exact absurd (e.symm.trans er') (by simp)
      · have e' : run m (w.take i) = some (n, t) := e
        refine ⟨ts, z2 _ _ eB, Nat.lt_of_le_of_lt (show ts.length ≤ 100 by rw [td.1]; omega) (by decide), Same.mut (z1.trans z2) hB, _, upd_same, ?_⟩
        exact ((td.tups (same_tups z2)).snoc e' (SqT.of ep')).tups (Tups.lst (z2 _ _ eB))
    · rintro H1 ⟨z1, ts, eB, td⟩
      rw [show (((w.length : Nat) : Int) + 1).toNat = w.length + 1 by omega] at td
      walk_at "go"
      refine ⟨B, rfl, ⟨ts, SqL.of eB⟩, fun B2 hB2 => ?_⟩
      refine lc_list (xs := ts) (fun i H' => Same H1 H' ∧ H' B2 = some (.lst (((sums m w).take i).map V.int))) ⟨Same.new hB2, upd_same⟩ (fun i H' _ ⟨z, _⟩ => SqL.of (z _ _ eB)) ?_ ?_
      · rintro i y H2 hy ⟨z2, eB2⟩
        have il : i < w.length + 1 := by rw [← td.1]; exact (List.getElem?_eq_some_iff.mp hy).1
        obtain ⟨qi, si, ti, e3, e4, e5⟩ := td.2 i il
        rw [hy] at e3
        cases e3
        have tk : (sums m w).take (i + 1) = (sums m w).take i ++ [ti] := by rw [List.take_add_one, sums_get (by omega) e4]; rfl
        rw [tk]
        refine k_gt ((same_tups z2).sq e5) rfl ?_
        walk_at "go"
        refine ⟨rfl, ?_⟩
        walk_at "go"
        refine iteT ?_
        walk_at "go"
        refine ⟨_, eB2, Nat.lt_of_le_of_lt (show _ ≤ 100 by rw [List.length_map, List.length_take]; omega) (by decide), Same.mut z2 hB2, ?_⟩
        rw [upd_same, List.map_append]
        rfl
      · rintro H2 ⟨z2, eB2⟩
        rw [td.1, List.take_of_length_le (by rw [sums_len]; exact Nat.le_refl _)] at eB2
        have z3 := z1.trans z2
        replace eB := z2 _ _ eB
        replace td := td.tups (same_tups z2)
        obtain ⟨qt, et, hqt⟩ := td.last er
        walk_at "go"
        refine ⟨p, dx, _, rfl, z3 _ _ ep, p, dx, _, .str (sOf w), rfl, z3 _ _ ep, rfl, ?_⟩
        walk_at "go"
        rw [decide_eq_true rfl]
        refine iteF ?_
        walk_at "go"
        refine ⟨p, dx, _, rfl, z3 _ _ ep, p, dx, _, L, us, q0, st, tl, r0, rfl, z3 _ _ ep, rfl, SqL.of (z3 _ _ eL), e1, (same_tups z3).sq hq0, ?_⟩
        walk_at "go"
        refine ⟨p, dx, _, rfl, z3 _ _ ep, p, dx, _, L, us, q0, st, tl, r0, rfl, z3 _ _ ep, rfl, SqL.of (z3 _ _ eL), e1, (same_tups z3).sq hq0, ?_⟩
        unfold pkS pkT
        walk_at "go"
        refine ⟨(by decide : 2 ≤ sizeLine), fun pt npt => ?_⟩
        walk_at "go"
        have z4 : Same H2 (upd H2 pt (.tup [.int (st : Nat), .int tl])) := Same.new npt
        have ept : (upd H2 pt (.tup [.int (st : Nat), .int tl])) pt = some (.tup [.int (st : Nat), .int tl]) := upd_same
        generalize upd H2 pt (.tup [.int (st : Nat), .int tl]) = H3 at z4 ept
        refine k_ixL (SqL.of (z4 _ _ eB)) et ?_
        refine k_neD (dp_int2 (SqT.of ept)) (dp_int2 ((same_tups z4).sq hqt)) rfl rfl ?_
        rw [eqv2]
        refine ⟨_, rfl, iteF ?_⟩
        walk_at "go"
        have z5 := z3.trans z4
        refine ⟨p, dx, _, rfl, z5 _ _ ep, p, dx, _, L, us, q0, st, tl, r0, rfl, z5 _ _ ep, rfl, SqL.of (z5 _ _ eL), e1, (same_tups z5).sq hq0, ?_⟩
        unfold pkR
        walk_at "go"
        refine ⟨B2, sums m w, rfl, SqL.of (z4 _ _ eB2), by rw [sums_len]; omega, fun a a1 a2 => ?_⟩
        walk_at "go"
        refine ⟨B2, sums m w, rfl, SqL.of (z4 _ _ eB2), by rw [sums_len]; omega, fun b b1 b2 => ?_⟩
        walk_at "go"
        refine ⟨(by decide : 2 ≤ sizeLine), fun pp npp => ?_⟩
        obtain ⟨rfl, rfl⟩ := sp.uniq a1 a2 b1 b2
        have z6 : Same H3 (upd H3 pp (.tup [.int lo, .int hi])) := Same.new npp
        have epp : (upd H3 pp (.tup [.int lo, .int hi])) pp = some (.tup [.int lo, .int hi]) := upd_same
        generalize upd H3 pp (.tup [.int lo, .int hi]) = H4 at z6 epp
        have z7 := z5.trans z6
        refine k_neD (dp_int2 ((same_tups z7).sq hr0)) (dp_int2 (SqT.of epp)) rfl rfl ?_
        rw [eqv2]
        refine ⟨_, rfl, iteF ?_⟩
        walk_at "go"
        replace eB := z6 _ _ (z4 _ _ eB)
        replace hqt := (same_tups (z4.trans z6)).sq hqt
        refine k_meth ?_
        walk_at "go"
        refine ⟨p, dx, _, rfl, z7 _ _ ep, rfl, ?_⟩
        walk_at "go"
        refine ⟨p, L, m, w, st, tl, rfl, hm.same z7, o, er, fun H5 z8 => ?_⟩
        have z9 := z7.trans z8
        replace eB := z8 _ _ eB
        replace hqt := (same_tups z8).sq hqt
        walk_at "go"
        refine ⟨⟨_, rfl⟩, ?_⟩
        walk_at "go"
        refine k_ixL (SqL.of eB) et ?_
        walk_at "go"
        refine k_ixT hqt (v := .int (st : Nat)) rfl ?_
        walk_at "go"
        refine ⟨d, st, m, rfl, hd.same z9, o, fun pn un H6 z10 hpn epn nx' => ?_⟩
        walk_at "go"
        have ln : un.length ≤ 32 := by rw [nx'.1]; exact Nat.le_trans (List.length_filter_le _ _) o.len
        refine ⟨pn, rfl, ⟨un, SqL.of epn⟩, fun B3 hB3 => ?_⟩
        refine lc_list (xs := un) (fun i H' => Same H6 H' ∧ H' B3 = some (.lst (lsV (((fromS m st).take i).map (·.c))))) ⟨Same.new hB3, upd_same⟩ (fun i H' _ ⟨z, _⟩ => SqL.of (z _ _ epn)) ?_ ?_
        · rintro i y H7 hy ⟨z11, eB3⟩
          have il : i < (fromS m st).length := by rw [← nx'.1]; exact (List.getElem?_eq_some_iff.mp hy).1
          have iu : i < un.length := (List.getElem?_eq_some_iff.mp hy).1
          have es : (fromS m st)[i]? = some ((fromS m st)[i]'il) := List.getElem?_eq_getElem il
          obtain ⟨qq, eq, hq⟩ := (nx'.tups (same_tups z11)).2 _ _ es
          rw [hy] at eq
          cases eq
          have tk : ((fromS m st).take (i + 1)).map (·.c) = ((fromS m st).take i).map (·.c) ++ [((fromS m st)[i]'il).c] := by rw [List.take_add_one, es, List.map_append]; rfl
          rw [tk]
          generalize (fromS m st)[i]'il = s0 at hq
          refine k_gt hq rfl ?_
          unfold nxV
          walk_at "go"
          refine ⟨rfl, ?_⟩
          walk_at "go"
          refine iteT ?_
          walk_at "go"
          refine ⟨_, eB3, Nat.lt_of_le_of_lt (show _ ≤ 32 by unfold lsV; rw [List.length_map, List.length_map, List.length_take]; omega) (by decide), Same.mut z11 hB3, ?_⟩
          rw [upd_same]
          unfold lsV
          rw [List.map_append]
          rfl
        · rintro H7 ⟨z11, eB3⟩
          rw [nx'.1, List.take_length] at eB3
          refine ⟨"", B3, ((fromS m st).map (·.c)).map fun c => (⟨#[c]⟩ : Str), rfl, rfl, .inl (SqL.of (by rw [← lsV_strs]; exact eB3)), ?_, ?_⟩
          · rw [lets_sum, List.length_map, List.length_map]
            have : (fromS m st).length ≤ 32 := by rw [← nx'.1]; exact ln
            show (fromS m st).length + (fromS m st).length * 0 ≤ _
            omega
          have z12 := (z9.trans z10).trans z11
          rw [show ((Str.ofString "")) = ("" : Str) from rfl, join_lets]
          walk_at "go"
          rw [decide_eq_true rfl]
          refine iteF ?_
          walk_at "go"
          refine ⟨p, dx, _, rfl, z12 _ _ ep, p, L, m, w, rfl, hm.same z12, w100, w.length, rfl, by omega, by omega, ?_⟩
          walk_at "go"
          refine ⟨_, rfl, sOf_fits w100, ?_⟩
          rw [sOf_len]
          walk_at "go"
          rw [decide_eq_true rfl]
          refine iteT ?_
          walk_at "go"
          refine ⟨p, dx, _, rfl, z12 _ _ ep, p, dx, _, .ref x, rfl, z12 _ _ ep, rfl, ?_⟩
          walk_at "go"
          refine ⟨d, m, rfl, hd.same z12, o, fun x' H8 z13 hx' hm' => ?_⟩
          have z14 := z12.trans z13
          refine eqO_fin T (hx.same z14) o hm' o ?_
          rw [eqM_self o]
          exact k _ z14
end
/-! ### the law -/
structure TwoM (K : PySem.W.Frag) (C CM : Addr) (H : Hp) (a d p L p2 L2 : Addr) (m : MD) (w wk : Wd) : Prop where
  row : RowOk K H a
  d : DAt K H d m
  m1 : MtrAt K C CM H p L m w
  m2 : MtrAt K C CM H p2 L2 m wk
  n1 : p2 ≠ p
  n2 : L2 ≠ L
  n3 : a ≠ L
  n4 : a ≠ L2
section
variable {K : PySem.W.Frag} {C CM : Addr} {H H' : Hp} {a d p L p2 L2 : Addr} {m : MD} {w wk w' : Wd}
theorem TwoM.same (h : TwoM K C CM H a d p L p2 L2 m w wk) (z : Same H H') : TwoM K C CM H' a d p L p2 L2 m w wk := ⟨h.row.same z, h.d.same z, h.m1.same z, h.m2.same z, h.n1, h.n2, h.n3, h.n4⟩
theorem TwoM.taken (h : TwoM K C CM H a d p L p2 L2 m w wk) (R : RowOk K H' a) (k : Keep a H H') : TwoM K C CM H' a d p L p2 L2 m w wk := by
  obtain ⟨l, e⟩ := h.row.lst
  exact ⟨R, h.d.keep k e, h.m1.keep k e h.n3, h.m2.keep k e h.n4, h.n1, h.n2, h.n3, h.n4⟩
theorem TwoM.step (h : TwoM K C CM H a d p L p2 L2 m w wk) (k : Keep2 p L H H') (h' : MtrAt K C CM H' p L m w') : TwoM K C CM H' a d p L p2 L2 m w' wk :=
  ⟨k.row h.m1 h.row h.n3, k.dAt h.m1 h.d, h', MtrAt.keep2 k h.m1 h.m2 h.n1 h.n2, h.n1, h.n2, h.n3, h.n4⟩
theorem TwoM.step2 (h : TwoM K C CM H a d p L p2 L2 m w wk) (k : Keep2 p2 L2 H H') (h' : MtrAt K C CM H' p2 L2 m w') : TwoM K C CM H' a d p L p2 L2 m w w' :=
  ⟨k.row h.m2 h.row h.n4, k.dAt h.m2 h.d, MtrAt.keep2 k h.m2 h.m1 h.n1.symm h.n2.symm, h', h.n1, h.n2, h.n3, h.n4⟩
theorem TwoM.twin {p' L' : Addr} (h : TwoM K C CM H a d p L p2 L2 m w wk) (z : Same H H') (hp : H p' = none) (hL : H L' = none) (h' : MtrAt K C CM H' p' L' m w) : TwoM K C CM H' a d p L p' L' m w w := by
  obtain ⟨⟨dx, fs, e1⟩, us, e2⟩ := h.m1.obj
  exact ⟨h.row.same z, h.d.same z, h.m1.same z, h', (ne_of_none e1 hp).symm, (ne_of_none e2 hL).symm, h.n3, h.row.ne hL⟩
theorem TwoM.first {p' L' : Addr} (R : RowOk K H a) (hd : DAt K H d m) (h1 : MtrAt K C CM H p L m w) (n3 : a ≠ L) (z : Same H H') (hp : H p' = none) (hL : H L' = none) (h' : MtrAt K C CM H' p' L' m w) : TwoM K C CM H' a d p L p' L' m w w := by
  obtain ⟨⟨dx, fs, e1⟩, us, e2⟩ := h1.obj
  exact ⟨R.same z, hd.same z, h1.same z, h', (ne_of_none e1 hp).symm, (ne_of_none e2 hL).symm, n3, R.ne hL⟩
end
theorem MtrAt.run {K : PySem.W.Frag} {C CM : Addr} {H : Hp} {p L : Addr} {m : MD} {w : Wd} (h : MtrAt K C CM H p L m w) : ∃ st tl, run m w = some (st, tl) := by
  obtain ⟨_, _, _, us, _, _, _, _, _, _, _, pl, _⟩ := h
  obtain ⟨_, _, _, st, tl, _, _, _, e, _⟩ := pl.last
  exact ⟨st, tl, e⟩
/-- the letters on which a stand moves -/
def lets (m : MD) (st : Nat) : List Nat := (fromS m st).map (·.c)
theorem lets_step {m : MD} {st c : Nat} : c ∈ lets m st ↔ ∃ s, stepOf m st c = some s := by
  unfold lets fromS
  constructor
  · intro h
    obtain ⟨s, hs, e⟩ := List.mem_map.mp h
    obtain ⟨h1, h2⟩ := List.mem_filter.mp hs
    cases es : stepOf m st c with
    | some x => exact ⟨x, rfl⟩
    | none =>
      have := List.find?_eq_none.mp es s h1
      rw [e] at this
      simp at this h2
      omega
  · rintro ⟨s, hs⟩
    obtain ⟨h1, h2, h3⟩ := stepOf_mem hs
    exact List.mem_map.mpr ⟨s, List.mem_filter.mpr ⟨h1, by simp [h2]⟩, h3⟩
theorem inV_lets (n : Nat) : ∀ l : List Nat, inV (.str ⟨#[n]⟩) (lsV l) = decide (n ∈ l)
  | [] => rfl
  | a :: l => by
    have ih := inV_lets n l
    unfold inV lsV at ih ⊢
    rw [List.map_cons, List.any_cons, ih]
    have e : eqV (.str ⟨#[a]⟩) (.str ⟨#[n]⟩) = decide (n = a) := by
      show (((⟨#[a]⟩ : Str)) == (⟨#[n]⟩ : Str)) = decide (n = a)
      rw [Bool.eq_iff_iff, beq_iff_eq, decide_eq_true_iff]
      constructor
      · intro h
        injection h with h
        simpa using (congrArg Array.toList h).symm
      · rintro rfl
        rfl
    rw [e]
    by_cases c : n = a
    · subst c
      simp
    · simp [c]
theorem flat_lets (l : List Nat) : (lsV l).all flatV = true := by
  unfold lsV
  rw [List.all_eq_true]
  intro v hv
  obtain ⟨c, _, rfl⟩ := List.mem_map.mp hv
  rfl
def ltD (l : List Nat) : List PyData := l.map fun c => PyData.str ⟨#[c]⟩
theorem dp_lets {K : PySem.W.Frag} {H : Hp} : ∀ l : List Nat, DpAll K H (lsV l) (ltD l)
  | [] => .nil
  | _ :: l => .cons (.str _) (dp_lets l)
theorem lets_shaped : ∀ {l : List Nat}, (∀ c ∈ l, c ≤ 100) → PyData.canLayAll0 (ltD l) = true ∧ PyData.depthAll (ltD l) ≤ 3
  | [], _ => ⟨rfl, Nat.zero_le _⟩
  | c :: l, h => by
    obtain ⟨h1, h2⟩ := lets_shaped (l := l) fun t ht => h t (List.mem_cons_of_mem _ ht)
    have hc := h c List.mem_cons_self
    constructor
    · show ((#[c].all (· < 0x110000)) && PyData.canLayAll0 (ltD l)) = true
      rw [h1, Bool.and_true]
      simp
      omega
    · show max (PyData.depth (PyData.str ⟨#[c]⟩)) (PyData.depthAll (ltD l)) ≤ 3
      have : PyData.depth (PyData.str ⟨#[c]⟩) ≤ 3 := by simp [PyData.depth]
      omega
theorem lets_sh {l : List Nat} (h : ∀ c ∈ l, c ≤ 100) : SeqAt.shaped (.list (ltD l)) = true := by
  obtain ⟨h1, h2⟩ := lets_shaped h
  show (PyData.canLayAll0 (ltD l) && decide (PyData.depthAll (ltD l) + 1 ≤ 64)) = true
  rw [h1, Bool.true_and]
  exact decide_eq_true (by omega)
theorem lets_eqv (l : List Nat) : PyData.eqv (.list (ltD l)) (.list []) = l.isEmpty := by cases l <;> rfl
theorem lets_100 {m : MD} (o : m.Ok) {st : Nat} : ∀ c ∈ lets m st, c ≤ 100 := fun c hc => by
  obtain ⟨s, hs⟩ := lets_step.mp hc
  obtain ⟨h1, _, rfl⟩ := stepOf_mem hs
  exact (o.ok s h1).c'
def oddL (pt : Addr) : List V := [.non, .str "", .str "e", .str "ab", .int 0, .ref pt, .str "A"]
theorem no_step {m : MD} (o : m.Ok) {st c : Nat} (h : c < 97 ∨ 100 < c) : stepOf m st c = none := by
  cases e : stepOf m st c with
  | none => rfl
  | some s =>
    obtain ⟨h1, _, rfl⟩ := stepOf_mem e
    have := (o.ok s h1).c
    have := (o.ok s h1).c'
    omega
theorem odd_val {K : PySem.W.Frag} {H : Hp} {m : MD} (o : m.Ok) {st : Nat} {pt : Addr} (hpt : H pt = some (.tup [.str "a"])) {ls : List Nat} (hl : ∀ c ∈ ls, c ∉ lets m st) {v : V} (hv : v ∈ oddL pt ++ lsV ls) :
    NotStr K H v ∨ ∃ z : Str, v = .str z ∧ ∀ c, z = ⟨#[c]⟩ → stepOf m st c = none := by
  rcases List.mem_append.mp hv with hv | hv
  · unfold oddL at hv
    simp only [List.mem_cons, List.not_mem_nil, or_false] at hv
    rcases hv with rfl | rfl | rfl | rfl | rfl | rfl | rfl
    · exact .inl ⟨_, .base .non, kit_ty (b := "str") (r := false) (by decide +kernel)⟩
    · exact .inr ⟨_, rfl, fun c e => absurd (congrArg Str.length e) (by decide : ¬ (0 = 1))⟩
    · refine .inr ⟨_, rfl, fun c e => no_step o ?_⟩
      have e2 : (⟨#[101]⟩ : Str) = ⟨#[c]⟩ := e
      injection e2 with e2
      have := congrArg Array.toList e2
      simp at this
      omega
    · exact .inr ⟨_, rfl, fun c e => absurd (congrArg Str.length e) (by decide : ¬ (2 = 1))⟩
    · exact .inl ⟨_, .base (.int _), kit_ty (b := "str") (r := false) (by decide +kernel)⟩
    · exact .inl ⟨_, ty_tup (SqT.of hpt), kit_ty (b := "str") (r := false) (by decide +kernel)⟩
    · refine .inr ⟨_, rfl, fun c e => no_step o ?_⟩
      have e2 : (⟨#[65]⟩ : Str) = ⟨#[c]⟩ := e
      injection e2 with e2
      have := congrArg Array.toList e2
      simp at this
      omega
  · obtain ⟨c, hc, rfl⟩ := List.mem_map.mp hv
    refine .inr ⟨_, rfl, fun c' e => ?_⟩
    have : c' = c := by
      injection e with e
      have := congrArg Array.toList e
      simpa using this.symm
    subst this
    cases es : stepOf m st c' with
    | none => rfl
    | some s => exact absurd (lets_step.mpr ⟨s, es⟩) (hl c' hc)
def sp_law (K : PySem.W.Frag) : Sp := fun vs H Q _ => ∃ (sc : Addr) (ns : List Int), vs = [.ref sc] ∧ ScAt K H sc (ns.map V.int) ∧ ns.length ≤ 63 ∧ ∀ H', Q (.bl true) H'
section
variable {P : Program} {w : World} {K : PySem.W.Frag} {mg : Str → Option Value} {base : Heap}
theorem ok_law (T : Txt K mg) : FnOk P w K mg base (L2.CX P w) 30 T.a_law T.fd_law ["_law_script"] (sp_law K) := by
  refine T.F_law.okX sc_law (fun vs H Q E h => ?_) (fun cdv A outer s H vs Q E hr h => ?_)
  · obtain ⟨sc, ns, rfl, _⟩ := h
    rfl
  · obtain ⟨sc, ns, rfl, hsc, hns, k⟩ := h
    refine ⟨_, (PSs.nox (pss_cons (ps_set (i := 1) sc_law.nd rfl (Or.inl rfl) (pe_lst (pa_cons (pv 0) (pa_cons pe_int (pa_cons pe_int (pa_cons pe_int pa_nil))))))
  (pss_cons (ps_set (i := 2) sc_law.nd rfl (Or.inl rfl) (pe_call (ok_law_parts T) (hr.mono (by decide)) (by rfl) T.m_law_parts T.k_law_parts T.b_law_parts .nil passL (pa_cons (pv 1) (pa_cons pe_int (pa_cons (pe_ix ix_list (pe_lst (pa_cons pe_int (pa_cons (pe_op op_pow pe_int pe_int) pa_nil))) (pe_call (ok_law_taken T) (hr.mono (by decide)) (by rfl) T.m_law_taken T.k_law_taken T.b_law_taken .nil passL (pa_cons (pv 1) (pa_cons pe_int pa_nil))) (fun _ _ => rfl)) pa_nil)))))
  (pss_cons (ps_par (i := 3) (j := 4) (by rfl) sc_law.nd rfl rfl (by decide) rfl rfl (pa_cons (pe_make T.mk_Meter (ok_Meter_init T) (hr.mono (by decide)) (by rfl) T.m_Meter T.b_Meter_init .nil passL (pa_cons (pe_call (ok_law_machine T) (hr.mono (by decide)) (by rfl) T.m_law_machine T.k_law_machine T.b_law_machine .nil passL (pa_cons (pv 2) pa_nil)) pa_nil)) (pa_cons pe_str pa_nil)) (by rfl))
  (pss_cons (ps_par (i := 5) (j := 6) (by rfl) sc_law.nd rfl rfl (by decide) rfl rfl (pa_cons (pe_meth0 (pv 3) T.cl_Meter T.h_Meter_copy (ok_Meter_copy T) (hr.mono (by decide)) T.b_Meter_copy .nil passL) (pa_cons (pv 4) pa_nil)) (by rfl))
  (pss_cons (ps_for PassesOwn.never rfl (pi_range1 (by rfl) T.z_range (pa_cons pe_int pa_nil)) (pg_name (i := 7) sc_law.nd rfl (Or.inl rfl))
  (pss_cons (ps_set (i := 8) sc_law.nd rfl (Or.inl rfl) (pe_call (ok_law_taken T) (hr.mono (by decide)) (by rfl) T.m_law_taken T.k_law_taken T.b_law_taken .nil passL (pa_cons (pv 1) (pa_cons pe_int pa_nil))))
  (pss_cons (ps_set (i := 9) sc_law.nd rfl (Or.inr rfl) (pe_lc (own := [("_law_letter", 11), ("_law_end", 13), ("_law_gain", 14)]) (g := (gTup K 3 (gCons (gName 11) (gCons (gName 13) (gCons (gName 14) gNil))))) (tt := tYes) rfl sc_law.nd (pi_list (pe_call (ok_law_next T) (hr.mono (by decide)) (by rfl) T.m_law_next T.k_law_next T.b_law_next .nil passL (pa_cons (pv 2) (pa_cons (pe_ix ix_tup (pe_call (ok_law_way T) (hr.mono (by decide)) (by rfl) T.m_law_way T.k_law_way T.b_law_way .nil passL (pa_cons (pv 2) (pa_cons (pv 4) (pa_cons pe_int pa_nil)))) pe_int (fun _ _ => rfl)) pa_nil)))) (blkOk_by (own := [("_law_letter", 11), ("_law_end", 13), ("_law_gain", 14)]) (N := ["_law_script", "_law_row", "_law_d", "_law_meter", "_law_word", "_law_twin", "_law_kept", "_law_turn", "_law_kind", "_law_some", "_law_odd", "_law_letter", "_law_late", "_law_end", "_law_gain"]) (sc := defScope s_law) (by decide +kernel)) (fun _ _ _ _ _ => (pg_tup rfl (pgs_cons (pg_name (i := 11) sc_law.nd rfl (Or.inl rfl)) (pgs_cons (pg_name (i := 13) sc_law.nd rfl (Or.inl rfl)) (pgs_cons (pg_name (i := 14) sc_law.nd rfl (Or.inl rfl)) pgs_nil))))) (fun _ _ _ _ _ => pts_nil) (fun _ _ _ _ _ => (pv 11))))
  (C8.pss_cut (ps_if (pt_cmpR op_eq (pv 8) pe_int (nomark _))
  (pss_cons (ps_if (pt_cmpR op_ne (pe_meth0 (pv 3) T.cl_Meter T.h_Meter_undo (ok_Meter_undo T) (hr.mono (by decide)) T.b_Meter_undo .nil passL) (pe_cmpR op_ne (pv 4) pe_str (nomark _)) (nomark _))
  (pss_one (ps_ret pe_bl))
  pss_nil)
  (pss_one (ps_set (i := 4) sc_law.nd rfl (Or.inl rfl) (pe_slice sl_str (pv 4) po_none (po_some (pe_un un_neg pe_int))))))
  (pss_one (ps_if (pt_cmpR op_eq (pv 8) pe_int (nomark _))
  (pss_cons (ps_set (i := 10) sc_law.nd rfl (Or.inl rfl) (pe_op op_cat (pe_lst (pa_cons pe_non (pa_cons pe_str (pa_cons pe_str (pa_cons pe_str (pa_cons pe_int (pa_cons (pe_tup (pa_cons pe_str pa_nil)) (pa_cons pe_str pa_nil)))))))) (pe_lc (own := [("_law_letter", 11)]) (g := (gName 11)) rfl sc_law.nd (pi_str pe_str) (blkOk_by (own := [("_law_letter", 11)]) (N := ["_law_script", "_law_row", "_law_d", "_law_meter", "_law_word", "_law_twin", "_law_kept", "_law_turn", "_law_kind", "_law_some", "_law_odd", "_law_letter", "_law_late", "_law_end", "_law_gain"]) (sc := defScope s_law) (by decide +kernel)) (fun _ _ _ _ _ => (pg_name (i := 11) sc_law.nd rfl (Or.inl rfl))) (fun _ _ _ _ _ => (pts_one (pt_cmpR (show OpR _ _ (rIn K true) from op_notIn_seq) (pv 11) (pv 9) (by rfl)))) (fun _ _ _ _ _ => (pv 11)))))
  (pss_one (ps_if (pt_cmpR op_ne (pe_call (ok_law_read T) (hr.mono (by decide)) (by rfl) T.m_law_read T.k_law_read T.b_law_read .nil passL (pa_cons (pv 3) (pa_cons (pe_ix ix_list (pv 10) (pe_call (ok_law_taken T) (hr.mono (by decide)) (by rfl) T.m_law_taken T.k_law_taken T.b_law_taken .nil passL (pa_cons (pv 1) (pa_cons (pe_callB call_len_seq (by rfl) T.z_len PySem.boot_len (pa_cons (pv 10) pa_nil)) pa_nil))) (fun _ _ => rfl)) pa_nil))) pe_str (nomark _))
  (pss_one (ps_ret pe_bl))
  pss_nil)))
  (pss_one (ps_if (pt_cmpR (op_neD hr.units) (pv 9) (pe_lst pa_nil) (nomark _))
  (pss_cons (ps_set (i := 11) sc_law.nd rfl (Or.inl rfl) (pe_ix ix_list (pv 9) (pe_call (ok_law_taken T) (hr.mono (by decide)) (by rfl) T.m_law_taken T.k_law_taken T.b_law_taken .nil passL (pa_cons (pv 1) (pa_cons (pe_callB call_len_seq (by rfl) T.z_len PySem.boot_len (pa_cons (pv 9) pa_nil)) pa_nil))) (fun _ _ => rfl)))
  (pss_cons (ps_set (i := 4) sc_law.nd rfl (Or.inl rfl) (pe_op op_add_str (pv 4) (pv 11)))
  (pss_one (ps_if (pt_cmpR op_ne (pe_call (ok_law_read T) (hr.mono (by decide)) (by rfl) T.m_law_read T.k_law_read T.b_law_read .nil passL (pa_cons (pv 3) (pa_cons (pv 11) pa_nil))) (pe_ix ix_tup (pe_call (ok_law_way T) (hr.mono (by decide)) (by rfl) T.m_law_way T.k_law_way T.b_law_way .nil passL (pa_cons (pv 2) (pa_cons (pv 4) (pa_cons pe_int pa_nil)))) pe_int (fun _ _ => rfl)) (nomark _))
  (pss_one (ps_ret pe_bl))
  pss_nil))))
  pss_nil)))))
  (pss_cons (ps_if (pt_not (pt_val (pe_call (ok_law_is_meter T) (hr.mono (by decide)) (by rfl) T.m_law_is_meter T.k_law_is_meter T.b_law_is_meter .nil passL (pa_cons (pv 3) (pa_cons (pv 2) (pa_cons (pv 4) pa_nil))))))
  (pss_one (ps_ret pe_bl))
  pss_nil)
  (pss_one (ps_if (pt_cmpR op_eq (pv 7) pe_int (nomark _))
  (pss_one (ps_par (i := 5) (j := 6) (by rfl) sc_law.nd rfl rfl (by decide) rfl rfl (pa_cons (pe_meth0 (pv 3) T.cl_Meter T.h_Meter_copy (ok_Meter_copy T) (hr.mono (by decide)) T.b_Meter_copy .nil passL) (pa_cons (pv 4) pa_nil)) (by rfl)))
  pss_nil)))))))
  (pss_cons (ps_if (pt_not (pt_val (pe_call (ok_law_is_meter T) (hr.mono (by decide)) (by rfl) T.m_law_is_meter T.k_law_is_meter T.b_law_is_meter .nil passL (pa_cons (pv 5) (pa_cons (pv 2) (pa_cons (pv 6) pa_nil))))))
  (pss_one (ps_ret pe_bl))
  pss_nil)
  (pss_cons (ps_par (i := 5) (j := 12) (by rfl) sc_law.nd rfl rfl (by decide) rfl rfl (pa_cons (pe_meth0 (pv 3) T.cl_Meter T.h_Meter_copy (ok_Meter_copy T) (hr.mono (by decide)) T.b_Meter_copy .nil passL) (pa_cons (pe_meth0 (pv 3) T.cl_Meter T.h_Meter_copy (ok_Meter_copy T) (hr.mono (by decide)) T.b_Meter_copy .nil passL) pa_nil)) (by rfl))
  (pss_cons (ps_set (i := 9) sc_law.nd rfl (Or.inr rfl) (pe_lc (own := [("_law_letter", 11), ("_law_end", 13), ("_law_gain", 14)]) (g := (gTup K 3 (gCons (gName 11) (gCons (gName 13) (gCons (gName 14) gNil))))) (tt := tYes) rfl sc_law.nd (pi_list (pe_call (ok_law_next T) (hr.mono (by decide)) (by rfl) T.m_law_next T.k_law_next T.b_law_next .nil passL (pa_cons (pv 2) (pa_cons (pe_ix ix_tup (pe_call (ok_law_way T) (hr.mono (by decide)) (by rfl) T.m_law_way T.k_law_way T.b_law_way .nil passL (pa_cons (pv 2) (pa_cons (pv 4) (pa_cons pe_int pa_nil)))) pe_int (fun _ _ => rfl)) pa_nil)))) (blkOk_by (own := [("_law_letter", 11), ("_law_end", 13), ("_law_gain", 14)]) (N := ["_law_script", "_law_row", "_law_d", "_law_meter", "_law_word", "_law_twin", "_law_kept", "_law_turn", "_law_kind", "_law_some", "_law_odd", "_law_letter", "_law_late", "_law_end", "_law_gain"]) (sc := defScope s_law) (by decide +kernel)) (fun _ _ _ _ _ => (pg_tup rfl (pgs_cons (pg_name (i := 11) sc_law.nd rfl (Or.inl rfl)) (pgs_cons (pg_name (i := 13) sc_law.nd rfl (Or.inl rfl)) (pgs_cons (pg_name (i := 14) sc_law.nd rfl (Or.inl rfl)) pgs_nil))))) (fun _ _ _ _ _ => pts_nil) (fun _ _ _ _ _ => (pv 11))))
  (pss_cons (ps_if (PW.pt (pw_or (pt_cmpR op_ne (pe_meth0 (pv 5) T.cl_Meter T.h_Meter_undo (ok_Meter_undo T) (hr.mono (by decide)) T.b_Meter_undo .nil passL) (pe_cmpR op_ne (pv 4) pe_str (nomark _)) (nomark _)) (pw_or1 (PW.pt (pw_and (pt_cmpR (op_neD hr.units) (pv 9) (pe_lst pa_nil) (nomark _)) (pw_and1 (pt_cmpR op_ne (pe_call (ok_law_read T) (hr.mono (by decide)) (by rfl) T.m_law_read T.k_law_read T.b_law_read .nil passL (pa_cons (pv 12) (pa_cons (pe_ix ix_list (pv 9) pe_int (fun _ _ => rfl)) pa_nil))) (pe_ix ix_tup (pe_call (ok_law_way T) (hr.mono (by decide)) (by rfl) T.m_law_way T.k_law_way T.b_law_way .nil passL (pa_cons (pv 2) (pa_cons (pe_op op_add_str (pv 4) (pe_ix ix_list (pv 9) pe_int (fun _ _ => rfl))) (pa_cons pe_int pa_nil)))) pe_int (fun _ _ => rfl)) (nomark _))))))))
  (pss_one (ps_ret pe_bl))
  pss_nil)
  (pss_one (ps_ret (pe_and (pe_call (ok_law_is_meter T) (hr.mono (by decide)) (by rfl) T.m_law_is_meter T.k_law_is_meter T.b_law_is_meter .nil passL (pa_cons (pv 3) (pa_cons (pv 2) (pa_cons (pv 4) pa_nil)))) (pe_one (pe_call (ok_law_is_meter T) (hr.mono (by decide)) (by rfl) T.m_law_is_meter T.k_law_is_meter T.b_law_is_meter .nil passL (pa_cons (pv 5) (pa_cons (pv 2) (pa_cons (pe_slice sl_str (pv 4) po_none (po_some (pe_un un_neg pe_int))) pa_nil)))))))))))))))))), ?_⟩
    walk_at "begin"
    walk_at "go"
    refine ⟨(by decide : 4 ≤ sizeLine), fun a ha => ?_⟩
    have R1 : RowOk K (upd H a (.lst [.ref sc, .int 0, .int 227, .int 0])) a := ⟨sc, ns, 0, 227, 0, upd_same, hsc.same (Same.new ha), hns, by decide, by decide, by decide⟩
    generalize upd H a (.lst [.ref sc, .int 0, .int 227, .int 0]) = H1 at R1 ⊢
    walk_at "go"
    refine ⟨_, _, rfl, rfl, ⟨by decide, by decide, by decide⟩, ?_⟩
    refine k_nil ?_
    refine ⟨(by decide : 2 ≤ sizeLine), fun p1 hp1 => ?_⟩
    have n1 := R1.ne hp1
    have R2 := R1.same (Same.new (o := .lst [V.int 3, .int (10 ^ 29)]) hp1)
    have e0 : (upd H1 p1 (.lst [V.int 3, .int ((10 : Int) ^ (29 : Int).toNat)])) p1 = some (.lst [V.int 3, .int (10 ^ 29)]) := upd_same
    walk_at "go"
    refine ⟨a, 2, rfl, by decide, by decide, R2, fun y1 H2 y10 y12 R3 K2 => ?_⟩
    have e1 : H2 p1 = some (.lst [V.int 3, .int (10 ^ 29)]) := K2 _ _ n1.symm e0
    obtain ⟨sz, hsz, z1, z2⟩ : ∃ sz : Int, atI [V.int 3, .int (10 ^ 29)] y1 = some (.int sz) ∧ 0 ≤ sz ∧ 2 * sz + 1 ≤ 10 ^ 30 := by
      have : y1 = 0 ∨ y1 = 1 := by omega
      rcases this with rfl | rfl
      · exact ⟨3, rfl, by decide, by decide⟩
      · exact ⟨10 ^ 29, rfl, by decide, by decide⟩
    refine k_ixL (SqL.of e1) hsz ?_
    walk_at "go"
    clear e1 K2 R2 R1 hsz n1 e0
    refine ⟨a, 6, sz, rfl, by decide, by decide, z1, z2, R3, fun d m H3 o _ hg hd R4 K4 hd0 => ?_⟩
    clear K4 hd0 R3 hg
    walk_at "go"
    refine ⟨d, m, rfl, hd, o, fun x H4 z4 hx0 hx => ?_⟩
    walk_at "go"
    intro p dx hp hdx ne
    have zn : Same H4 (upd (upd H4 dx (.own p)) p (.ins T.c_Meter dx [])) := (Same.new hdx).trans (Same.new (by rw [upd_ne ne.symm]; exact hp))
    refine ⟨p, dx, x, m, rfl, upd_same, hx.same zn, o, fun L H5 k5 nL hm => ⟨rfl, ?_⟩⟩
    have z5 : Same H4 H5 := fun b ob e => k5 b ob (ne_of_none e hp) (zn _ _ e)
    have nL4 : H4 L = none := free_of zn nL
    have R5 := (R4.same z4).same z5
    have hd5 := (hd.same z4).same z5
    have naL := (R4.same z4).ne nL4
    clear hx hx0 z4 z5 k5 nL nL4 zn hd R4
    walk_at "go"
    refine k_meth ?_
    walk_at "go"
    obtain ⟨dx1, x1, D1, us1, kvs1, ep1, _⟩ := id hm
    refine ⟨p, dx1, _, rfl, ep1, rfl, ?_⟩
    walk_at "go"
    refine ⟨p, L, m, [], rfl, hm, o, fun p2 L2 H6 z6 hp2 hL2 hm2 => ?_⟩
    have tw := TwoM.first R5 hd5 hm naL z6 hp2 hL2 hm2
    clear hm hm2 hp2 hL2 z6 R5 hd5 naL ep1
    walk_at "go"
    refine ⟨_, rfl, by decide, by decide, ?_⟩
    refine for_range (lo := 0) (n := 10) (fun i σ H' => ∃ (p2 L2 : Addr) (w wk : Wd) (b7 b8 b9 b10 b11 : Option V), TwoM K T.c_Meter T.c_Machine H' a d p L p2 L2 m w wk ∧ w.length ≤ i ∧ wk.length ≤ 10 ∧
      σ = [some (.ref sc), some (.ref a), some (.ref d), some (.ref p), some (.str (sOf w)), some (.ref p2), some (.str (sOf wk)), b7, b8, b9, b10, b11, none, none, none]) ⟨p2, L2, [], [], none, none, none, none, none, tw, Nat.le_refl _, by decide, rfl⟩ ?_ ?_
    · clear tw
      rintro i σ H7 hi ⟨p2, L2, w, wk, b7, b8, b9, b10, b11, tw, lw, lk, rfl⟩
      have w100 : w.length ≤ 100 := by omega
      walk_at "go"
      refine ⟨a, 5, rfl, by decide, by decide, tw.row, fun y H9 y0 y5 R9 K9 => ?_⟩
      replace tw := tw.taken R9 K9
      clear R9 K9
      walk_at "go"
      obtain ⟨st, tl, er⟩ := tw.m1.run
      refine ⟨d, sOf w, 0, m, rfl, tw.d, o, fun e => absurd (e.symm.trans er) (by simp), fun n t e q H9 z9 _ eq => ?_⟩
      have e' : run m w = some (n, t) := e
      rw [er] at e'
      cases e'
      replace tw := tw.same z9
      walk_at "go"
      refine k_ixT (SqT.of eq) (v := .int (st : Nat)) rfl ?_
      walk_at "go"
      clear e z9 eq
      refine ⟨d, st, m, rfl, tw.d, o, fun pn un H10 z10 _ epn nx' => ?_⟩
      replace tw := tw.same z10
      clear z10
      walk_at "go"
      have ln : un.length ≤ 32 := by rw [nx'.1]; exact Nat.le_trans (List.length_filter_le _ _) o.len
      refine ⟨pn, rfl, ⟨un, SqL.of epn⟩, fun B hB => ?_⟩
      refine lc_list (xs := un) (fun i H' => Same H10 H' ∧ H' B = some (.lst (lsV (((fromS m st).take i).map (·.c))))) ⟨Same.new hB, upd_same⟩ (fun i H' _ ⟨z, _⟩ => SqL.of (z _ _ epn)) ?_ ?_
      · rintro i y H11 hy ⟨z11, eB3⟩
        have il : i < (fromS m st).length := by rw [← nx'.1]; exact (List.getElem?_eq_some_iff.mp hy).1
        have iu : i < un.length := (List.getElem?_eq_some_iff.mp hy).1
        have es : (fromS m st)[i]? = some ((fromS m st)[i]'il) := List.getElem?_eq_getElem il
        obtain ⟨qq, eq, hq⟩ := (nx'.tups (same_tups z11)).2 _ _ es
        rw [hy] at eq
        cases eq
        have tk : ((fromS m st).take (i + 1)).map (·.c) = ((fromS m st).take i).map (·.c) ++ [((fromS m st)[i]'il).c] := by rw [List.take_add_one, es, List.map_append]; rfl
        rw [tk]
        generalize (fromS m st)[i]'il = s0 at hq
        refine k_gt hq rfl ?_
        unfold nxV
        walk_at "go"
        refine ⟨rfl, ?_⟩
        walk_at "go"
        refine iteT ?_
        walk_at "go"
        refine ⟨_, eB3, Nat.lt_of_le_of_lt (show _ ≤ 32 by unfold lsV; rw [List.length_map, List.length_map, List.length_take]; omega) (by decide), Same.mut z11 hB, ?_⟩
        rw [upd_same]
        unfold lsV
        rw [List.map_append]
        rfl
      rintro H11 ⟨z11, eB⟩
      rw [nx'.1, List.take_length] at eB
      have lle : (lets m st).length ≤ 32 := by unfold lets; rw [List.length_map, ← nx'.1]; exact ln
      replace eB : H11 B = some (.lst (lsV (lets m st))) := eB
      replace tw := tw.same z11
      have hB0 := hB
      clear z11 nx' ln hB epn
      walk_at "go"
      refine k_cut (fun σ' H' => ∃ (w' : Wd) (b10 b11 : Option V), TwoM K T.c_Meter T.c_Machine H' a d p L p2 L2 m w' wk ∧ w'.length ≤ i + 1 ∧
        σ' = [some (.ref sc), some (.ref a), some (.ref d), some (.ref p), some (.str (sOf w')), some (.ref p2), some (.str (sOf wk)), some (.int (0 + (i : Nat))), some (.int y), some (.ref B), b10, b11, none, none, none]) ?_ ?_
      · walk_at "go"
        refine k_ite (fun c => ?_) (fun c => ?_)
        · walk_at "go"
          refine k_meth ?_
          walk_at "go"
          obtain ⟨dx1, x1, D1, us1, kvs1, ep1, _⟩ := id tw.m1
          refine ⟨p, dx1, _, rfl, ep1, rfl, ?_⟩
          walk_at "go"
          refine ⟨p, L, m, w, rfl, tw.m1, w100, fun H12 k12 hm12 => ?_⟩
          replace tw := tw.step k12 hm12
          walk_at "go"
          rw [sOf_empty, decide_eq_true rfl]
          refine iteF ?_
          walk_at "go"
          refine k_slS (sOf_fits w100) ?_
          rw [cutS_lastA]
          exact ⟨w.dropLast, _, _, tw, by rw [List.length_dropLast]; omega, rfl⟩
        · walk_at "go"
          refine k_ite (fun c1 => ?_) (fun c1 => ?_)
          · walk_at "go"
            refine ⟨(by decide : 1 ≤ sizeLine), fun pt hpt => ?_⟩
            walk_at "go"
            refine ⟨(by decide : 7 ≤ sizeLine), fun q1 hq1 => ?_⟩
            have zq := (Same.new (o := .tup [.str "a"]) hpt).trans (Same.new (o := .lst [.non, .str "", .str "e", .str "ab", .int 0, .ref pt, .str "A"]) hq1)
            have ept := (Same.new (o := .lst [.non, .str "", .str "e", .str "ab", .int 0, .ref pt, .str "A"]) hq1) _ _ (upd_same (H := H11) (a := pt) (o := .tup [.str "a"]))
            have eq1 := upd_same (H := upd H11 pt (.tup [.str "a"])) (a := q1) (o := .lst [.non, .str "", .str "e", .str "ab", .int 0, .ref pt, .str "A"])
            generalize upd (upd H11 pt (.tup [.str "a"])) q1 (.lst [.non, .str "", .str "e", .str "ab", .int 0, .ref pt, .str "A"]) = H12 at zq ept eq1
            replace tw := tw.same zq
            replace eB := zq _ _ eB
            clear zq hpt hq1
            walk_at "go"
            refine ⟨_, rfl, fun q2 hq2 => ?_⟩
            refine lc_it walk_str (fun i H' => Same H12 H' ∧ H' q2 = some (.lst (lsV ((([97, 98, 99, 100] : List Nat).take i).filter fun c => !decide (c ∈ lets m st))))) ⟨Same.new hq2, upd_same⟩ (fun _ _ _ _ => trivial) ?_ ?_
            · rintro j v H13 H13' hj ⟨z13, e13⟩ ⟨rfl, c0, hc, rfl⟩
              have hc' : ([97, 98, 99, 100] : List Nat)[j]? = some c0 := by
                have h2 : (#[97, 98, 99, 100] : Array Nat)[j]? = some c0 := hc
                simpa using h2
              have tk : ((([97, 98, 99, 100] : List Nat).take (j + 1)).filter fun c => !decide (c ∈ lets m st)) = ((([97, 98, 99, 100] : List Nat).take j).filter fun c => !decide (c ∈ lets m st)) ++ (if !decide (c0 ∈ lets m st) then [c0] else []) := by
                rw [List.take_add_one, hc', List.filter_append]
                congr 1
                show List.filter _ [c0] = _
                rw [List.filter_cons]
                rfl
              rw [tk]
              walk_at "go"
              refine ⟨rfl, ?_⟩
              walk_at "go"
              refine k_in (.inl (SqL.of (z13 _ _ eB))) rfl (flat_lets _) ?_
              rw [inV_lets]
              walk_at "go"
              by_cases h' : c0 ∈ lets m st
              · rw [decide_eq_true h']
                refine iteF ?_
                exact ⟨z13, by rw [if_neg (by decide), List.append_nil]; exact e13⟩
              · rw [decide_eq_false h']
                refine iteT ?_
                walk_at "go"
                refine ⟨_, e13, Nat.lt_of_le_of_lt (show _ ≤ 4 by unfold lsV; rw [List.length_map]; exact Nat.le_trans (List.length_filter_le _ _) (by rw [List.length_take]; exact Nat.min_le_right _ _)) (by decide), Same.mut z13 hq2, ?_⟩
                rw [upd_same]
                unfold lsV
                rw [List.map_append]
                rfl
            · rintro H13 ⟨z13, e13⟩
              replace tw := tw.same z13
              replace eB := z13 _ _ eB
              replace eq1 := z13 _ _ eq1
              replace ept := z13 _ _ ept
              clear z13 hq2
              obtain ⟨ls, hls⟩ : ∃ ls, ls = (([97, 98, 99, 100] : List Nat).filter fun c => !decide (c ∈ lets m st)) := ⟨_, rfl⟩
              have hl4 : ls.length ≤ 4 := by rw [hls]; exact List.length_filter_le _ _
              have hln : ∀ c ∈ ls, c ∉ lets m st := fun c hc => by rw [hls] at hc; simpa using (List.mem_filter.mp hc).2
              replace e13 : H13 q2 = some (.lst (lsV ls)) := by rw [hls]; exact e13
              clear hls
              have lx : (oddL pt ++ lsV ls).length ≤ 11 := by unfold oddL lsV; rw [List.length_append, List.length_map]; show 7 + ls.length ≤ 11; omega
              have l7 : 7 ≤ (oddL pt ++ lsV ls).length := by rw [List.length_append]; exact Nat.le_add_right 7 _
              refine ⟨q1, q2, oddL pt, lsV ls, rfl, rfl, eq1, e13, by rw [← List.length_append]; exact Nat.le_trans lx (by decide), fun q3 hq3 => ?_⟩
              have z14 := Same.new (o := .lst (oddL pt ++ lsV ls)) hq3
              have e14 := upd_same (H := H13) (a := q3) (o := .lst (oddL pt ++ lsV ls))
              generalize upd H13 q3 (.lst (oddL pt ++ lsV ls)) = H14 at z14 e14
              replace tw := tw.same z14
              replace eB := z14 _ _ eB
              replace ept := z14 _ _ ept
              clear z14 e13 eq1 hq3
              have hxs : ∀ v ∈ oddL pt ++ lsV ls, v ∈ oddL pt ++ lsV ls := fun v h => h
              walk_at "go"
              refine ⟨q3, _, rfl, .inl (SqL.of e14), ?_⟩
              walk_at "go"
              refine ⟨a, ((oddL pt ++ lsV ls).length : Nat), rfl, by omega, Nat.lt_of_le_of_lt (show _ ≤ 100 by rw [Int.natAbs_natCast]; omega) (by decide), tw.row, fun y2 H15 y20 y2l R15 K15 => ?_⟩
              have na3 : q3 ≠ a := fun z => by
                obtain ⟨l, e⟩ := tw.row.lst
                obtain ⟨_, _, _, _, _, e', _⟩ := tw.row
                rw [z, e'] at e14
                injection e14 with e14
                injection e14 with e14
                unfold oddL at e14
                cases e14
              have e15 := K15 _ _ na3 e14
              have ept15 := K15 _ _ (fun z => by
                obtain ⟨l, e⟩ := tw.row.lst
                rw [z, e] at ept
                cases ept) ept
              replace tw := tw.taken R15 K15
              clear R15 K15 e14 ept na3
              obtain ⟨j, rfl⟩ := Int.eq_ofNat_of_zero_le y20
              have jl : j < (oddL pt ++ lsV ls).length := by omega
              have ej : (oddL pt ++ lsV ls)[j]? = some ((oddL pt ++ lsV ls)[j]'jl) := List.getElem?_eq_getElem jl
              refine k_ixL (SqL.of e15) (atI_nat ej) ?_
              have hv := List.getElem_mem jl
              generalize (oddL pt ++ lsV ls)[j]'jl = v at hv
              walk_at "go"
              refine ⟨p, L, m, w, v, st, tl, rfl, tw.m1, o, w100, er, .inl ⟨odd_val o ept15 hln hv, fun H16 z16 => ?_⟩⟩
              walk_at "go"
              refine iteF ?_
              exact ⟨w, _, _, tw.same z16, by omega, rfl⟩
          · walk_at "go"
            refine ⟨(by decide : 0 ≤ sizeLine), fun q1 hq1 => ?_⟩
            have zq := Same.new (o := .lst []) hq1
            have eq1 := upd_same (H := H11) (a := q1) (o := .lst [])
            generalize upd H11 q1 (.lst []) = H12 at zq eq1
            replace tw := tw.same zq
            replace eB := zq _ _ eB
            refine k_neD (Dp.lst (SqL.of eB) (dp_lets _)) (Dp.lst (SqL.of eq1) .nil) (lets_sh (lets_100 o)) rfl ?_
            rw [lets_eqv]
            walk_at "go"
            clear zq eq1 hq1
            cases hl : (lets m st).isEmpty with
            | true =>
              refine iteF ?_
              exact ⟨w, _, _, tw, by omega, rfl⟩
            | false =>
              refine iteT ?_
              walk_at "go"
              have hne : 0 < (lets m st).length := by
                cases e : lets m st with
                | nil => rw [e] at hl; cases hl
                | cons c l => simp
              have ll : (lsV (lets m st)).length = (lets m st).length := by unfold lsV; rw [List.length_map]
              refine ⟨B, _, rfl, .inl (SqL.of eB), ?_⟩
              walk_at "go"
              have naB : B ≠ a := fun z => by
                obtain ⟨_, _, _, _, _, e', _⟩ := tw.row
                rw [z, e'] at eB
                injection eB with eB
                injection eB with eB
                cases e : lets m st with
                | nil => rw [e] at eB; cases eB
                | cons c l => rw [e] at eB; injection eB with eB _; cases eB
              refine ⟨a, ((lsV (lets m st)).length : Nat), rfl, by omega, Nat.lt_of_le_of_lt (show _ ≤ 100 by rw [Int.natAbs_natCast]; omega) (by decide), tw.row, fun y2 H15 y20 y2l R15 K15 => ?_⟩
              have eB15 := K15 _ _ naB eB
              replace tw := tw.taken R15 K15
              clear R15 K15 eB naB
              obtain ⟨j, rfl⟩ := Int.eq_ofNat_of_zero_le y20
              have jl : j < (lets m st).length := by omega
              obtain ⟨c, hc, ej⟩ : ∃ c, c ∈ lets m st ∧ (lsV (lets m st))[j]? = some (.str ⟨#[c]⟩) := ⟨_, List.getElem_mem jl, by unfold lsV; rw [List.getElem?_map, List.getElem?_eq_getElem jl]; rfl⟩
              refine k_ixL (SqL.of eB15) (atI_nat ej) ?_
              obtain ⟨s0, es⟩ := lets_step.mp hc
              clear ej jl y20 y2l hc eB15
              walk_at "go"
              refine ⟨sOf w, ⟨#[c]⟩, rfl, rfl, by rw [sOf_len]; exact Nat.le_trans (show w.length + 1 ≤ 101 by omega) (by decide), ?_⟩
              rw [sOf_snoc]
              walk_at "go"
              refine ⟨p, L, m, w, .str ⟨#[c]⟩, st, tl, rfl, tw.m1, o, w100, er, .inr ⟨c, s0, rfl, es, fun H16 k16 hm16 => ?_⟩⟩
              replace tw := tw.step k16 hm16
              have er2 : run m (w ++ [c]) = some (s0.e, tl + s0.g) := run_snoc.mpr ⟨st, tl, s0, er, es, rfl, rfl⟩
              walk_at "go"
              refine ⟨d, sOf (w ++ [c]), 0, m, rfl, tw.d, o, fun e => absurd (e.symm.trans er2) (by simp), fun n t e q H17 z17 _ eq => ?_⟩
              have e' : run m (w ++ [c]) = some (n, t) := e
              rw [er2] at e'
              cases e'
              walk_at "go"
              refine k_ixT (SqT.of eq) (v := .int (tl + s0.g)) rfl ?_
              walk_at "go"
              rw [decide_eq_true rfl]
              refine iteF ?_
              exact ⟨w ++ [c], _, _, tw.same z17, by rw [List.length_append, List.length_singleton]; omega, rfl⟩
      · rintro σ' H' ⟨w', c10, c11, tw, lw', rfl⟩
        clear eB lle hB0 er lw w100
        walk_at "go"
        refine ⟨p, L, d, m, w', rfl, tw.m1, tw.d, o, by omega, fun H12 z12 => ?_⟩
        replace tw := tw.same z12
        clear z12
        walk_at "go"
        refine iteF ?_
        walk_at "go"
        refine k_ite (fun c => ?_) (fun c => ?_)
        · walk_at "go"
          refine k_meth ?_
          walk_at "go"
          obtain ⟨dx1, x1, D1, us1, kvs1, ep1, _⟩ := id tw.m1
          refine ⟨p, dx1, _, rfl, ep1, rfl, ?_⟩
          walk_at "go"
          refine ⟨p, L, m, w', rfl, tw.m1, o, fun p3 L3 H13 z13 hp3 hL3 hm3 => ?_⟩
          have tw3 := tw.twin z13 hp3 hL3 hm3
          walk_at "go"
          exact ⟨p3, L3, w', w', _, _, _, _, _, tw3, lw', by omega, rfl⟩
        · exact ⟨p2, L2, w', wk, _, _, _, _, _, tw, lw', lk, rfl⟩
    · clear tw
      rintro σ H7 ⟨p2, L2, w, wk, b7, b8, b9, b10, b11, tw, lw, lk, rfl⟩
      have w100 : w.length ≤ 100 := by omega
      walk_at "go"
      refine ⟨p2, L2, d, m, wk, rfl, tw.m2, tw.d, o, by omega, fun H8 z8 => ?_⟩
      replace tw := tw.same z8
      clear z8
      walk_at "go"
      refine iteF ?_
      walk_at "go"
      refine k_meth ?_
      walk_at "go"
      obtain ⟨dx1, x1, D1, us1, kvs1, ep1, _⟩ := id tw.m1
      refine ⟨p, dx1, _, rfl, ep1, rfl, ?_⟩
      walk_at "go"
      refine ⟨p, L, m, w, rfl, tw.m1, o, fun p3 L3 H13 z13 hp3 hL3 hm3 => ?_⟩
      have tw3 := tw.twin z13 hp3 hL3 hm3
      replace ep1 := z13 _ _ ep1
      clear tw z13 hp3 hL3 hm3
      walk_at "go"
      refine k_meth ?_
      walk_at "go"
      refine ⟨p, dx1, _, rfl, ep1, rfl, ?_⟩
      walk_at "go"
      refine ⟨p, L, m, w, rfl, tw3.m1, o, fun p4 L4 H14 z14 hp4 hL4 hm4 => ?_⟩
      have tw4 := tw3.twin z14 hp4 hL4 hm4
      have tw := tw3.same z14
      have n43 : p4 ≠ p3 ∧ L4 ≠ L3 := by
        obtain ⟨⟨dx, fs, e1⟩, us, e2⟩ := tw3.m2.obj
        exact ⟨(ne_of_none e1 hp4).symm, (ne_of_none e2 hL4).symm⟩
      obtain ⟨n4, n4'⟩ := n43
      clear tw3 z14 hp4 hL4 hm4 ep1
      obtain ⟨_, _, _, hm4, n41, n42, _, n44⟩ := tw4
      walk_at "go"
      obtain ⟨st, tl, er⟩ := tw.m1.run
      refine ⟨d, sOf w, 0, m, rfl, tw.d, o, fun e => absurd (e.symm.trans er) (by simp), fun n t e q H9 z9 _ eq => ?_⟩
      have e' : run m w = some (n, t) := e
      rw [er] at e'
      cases e'
      replace hm4 := hm4.same z9
      replace tw := tw.same z9
      walk_at "go"
      refine k_ixT (SqT.of eq) (v := .int (st : Nat)) rfl ?_
      walk_at "go"
      clear e z9 eq
      refine ⟨d, st, m, rfl, tw.d, o, fun pn un H10 z10 _ epn nx' => ?_⟩
      replace hm4 := hm4.same z10
      replace tw := tw.same z10
      clear z10
      walk_at "go"
      have ln : un.length ≤ 32 := by rw [nx'.1]; exact Nat.le_trans (List.length_filter_le _ _) o.len
      refine ⟨pn, rfl, ⟨un, SqL.of epn⟩, fun B hB => ?_⟩
      refine lc_list (xs := un) (fun i H' => Same H10 H' ∧ H' B = some (.lst (lsV (((fromS m st).take i).map (·.c))))) ⟨Same.new hB, upd_same⟩ (fun i H' _ ⟨z, _⟩ => SqL.of (z _ _ epn)) ?_ ?_
      · rintro i y H11 hy ⟨z11, eB3⟩
        have il : i < (fromS m st).length := by rw [← nx'.1]; exact (List.getElem?_eq_some_iff.mp hy).1
        have iu : i < un.length := (List.getElem?_eq_some_iff.mp hy).1
        have es : (fromS m st)[i]? = some ((fromS m st)[i]'il) := List.getElem?_eq_getElem il
        obtain ⟨qq, eq, hq⟩ := (nx'.tups (same_tups z11)).2 _ _ es
        rw [hy] at eq
        cases eq
        have tk : ((fromS m st).take (i + 1)).map (·.c) = ((fromS m st).take i).map (·.c) ++ [((fromS m st)[i]'il).c] := by rw [List.take_add_one, es, List.map_append]; rfl
        rw [tk]
        generalize (fromS m st)[i]'il = s0 at hq
        refine k_gt hq rfl ?_
        unfold nxV
        walk_at "go"
        refine ⟨rfl, ?_⟩
        walk_at "go"
        refine iteT ?_
        walk_at "go"
        refine ⟨_, eB3, Nat.lt_of_le_of_lt (show _ ≤ 32 by unfold lsV; rw [List.length_map, List.length_map, List.length_take]; omega) (by decide), Same.mut z11 hB, ?_⟩
        rw [upd_same]
        unfold lsV
        rw [List.map_append]
        rfl
      rintro H11 ⟨z11, eB⟩
      rw [nx'.1, List.take_length] at eB
      have lle : (lets m st).length ≤ 32 := by unfold lets; rw [List.length_map, ← nx'.1]; exact ln
      replace eB : H11 B = some (.lst (lsV (lets m st))) := eB
      have nBL3 : B ≠ L3 := fun z => by
        obtain ⟨_, us, e⟩ := tw.m2.obj
        rw [← z, hB] at e
        cases e
      have nBL4 : B ≠ L4 := fun z => by
        obtain ⟨_, us, e⟩ := hm4.obj
        rw [← z, hB] at e
        cases e
      replace hm4 := hm4.same z11
      replace tw := tw.same z11
      have hB0 := hB
      clear z11 nx' ln hB epn
      walk_at "go"
      refine k_meth ?_
      walk_at "go"
      obtain ⟨dx3, x3, D3, us3, kvs3, ep3, _⟩ := id tw.m2
      refine ⟨p3, dx3, _, rfl, ep3, rfl, ?_⟩
      walk_at "go"
      refine ⟨p3, L3, m, w, rfl, tw.m2, w100, fun H12 k12 hm12 => ?_⟩
      replace hm4 := MtrAt.keep2 k12 tw.m2 hm4 n4 n4'
      have nB3 : B ≠ p3 := fun z => by rw [z, ep3] at eB; cases eB
      replace eB := k12 _ _ nB3 nBL3 eB
      replace tw := tw.step2 k12 hm12
      clear k12 hm12 ep3 nB3 nBL3 hB0
      walk_at "go"
      rw [sOf_empty, decide_eq_true rfl]
      refine iteF ?_
      walk_at "go"
      refine ⟨(by decide : 0 ≤ sizeLine), fun q1 hq1 => ?_⟩
      have zq := Same.new (o := .lst []) hq1
      have eq1 := upd_same (H := H12) (a := q1) (o := .lst [])
      generalize upd H12 q1 (.lst []) = H13 at zq eq1
      replace tw := tw.same zq
      replace hm4 := hm4.same zq
      replace eB := zq _ _ eB
      refine k_neD (Dp.lst (SqL.of eB) (dp_lets _)) (Dp.lst (SqL.of eq1) .nil) (lets_sh (lets_100 o)) rfl ?_
      rw [lets_eqv]
      walk_at "go"
      clear zq eq1 hq1
      cases hl : lets m st with
      | nil =>
        refine iteF ?_
        refine iteF ?_
        walk_at "go"
        refine ⟨p, L, d, m, w, rfl, tw.m1, tw.d, o, by omega, fun H18 z18 => ?_⟩
        replace tw := tw.same z18
        walk_at "go"
        refine iteT ?_
        walk_at "go"
        refine k_slS (sOf_fits w100) ?_
        rw [cutS_lastA]
        walk_at "go"
        refine ⟨p3, L3, d, m, w.dropLast, rfl, tw.m2, tw.d, o, by rw [List.length_dropLast]; omega, fun H19 z19 => ?_⟩
        exact k _
      | cons c ls =>
        refine iteT ?_
        walk_at "go"
        rw [hl] at eB
        refine k_ixL (SqL.of eB) (atI_nat (j := 0) (xs := lsV (c :: ls)) (v := .str ⟨#[c]⟩) rfl) ?_
        walk_at "go"
        obtain ⟨s0, es⟩ := lets_step.mp (show c ∈ lets m st by rw [hl]; exact List.mem_cons_self)
        refine ⟨p4, L4, m, w, .str ⟨#[c]⟩, st, tl, rfl, hm4, o, w100, er, .inr ⟨c, s0, rfl, es, fun H16 k16 hm16 => ?_⟩⟩
        have nB4 : B ≠ p4 := fun z => by
          obtain ⟨⟨dx, fs, e⟩, _⟩ := hm4.obj
          rw [z, e] at eB
          cases eB
        replace eB := k16 _ _ nB4 nBL4 eB
        replace tw : TwoM K T.c_Meter T.c_Machine H16 a d p L p3 L3 m w w.dropLast := ⟨k16.row hm4 tw.row n44, k16.dAt hm4 tw.d, MtrAt.keep2 k16 hm4 tw.m1 n41.symm n42.symm, MtrAt.keep2 k16 hm4 tw.m2 n4.symm n4'.symm, tw.n1, tw.n2, tw.n3, tw.n4⟩
        clear hm4 k16 hm16
        have er2 : run m (w ++ [c]) = some (s0.e, tl + s0.g) := run_snoc.mpr ⟨st, tl, s0, er, es, rfl, rfl⟩
        walk_at "go"
        refine k_ixL (SqL.of eB) (atI_nat (j := 0) (xs := lsV (c :: ls)) (v := .str ⟨#[c]⟩) rfl) ?_
        walk_at "go"
        refine ⟨sOf w, ⟨#[c]⟩, rfl, rfl, by rw [sOf_len]; exact Nat.le_trans (show w.length + 1 ≤ 101 by omega) (by decide), ?_⟩
        rw [sOf_snoc]
        walk_at "go"
        refine ⟨d, sOf (w ++ [c]), 0, m, rfl, tw.d, o, fun e => absurd (e.symm.trans er2) (by simp), fun n t e q H17 z17 _ eq => ?_⟩
        have e' : run m (w ++ [c]) = some (n, t) := e
        rw [er2] at e'
        cases e'
        replace tw := tw.same z17
        walk_at "go"
        refine k_ixT (SqT.of eq) (v := .int (tl + s0.g)) rfl ?_
        walk_at "go"
        rw [decide_eq_true rfl]
        refine iteF ?_
        walk_at "go"
        refine ⟨p, L, d, m, w, rfl, tw.m1, tw.d, o, by omega, fun H18 z18 => ?_⟩
        replace tw := tw.same z18
        walk_at "go"
        refine iteT ?_
        walk_at "go"
        refine k_slS (sOf_fits w100) ?_
        rw [cutS_lastA]
        walk_at "go"
        refine ⟨p3, L3, d, m, w.dropLast, rfl, tw.m2, tw.d, o, by rw [List.length_dropLast]; omega, fun H19 z19 => ?_⟩
        exact k _
end
/-! ### what the written part says -/
theorem exc_self {K : PySem.W.Frag} {S : Addr} (hb : PySem.W.subIn K (.ref S) (.type "BaseException") = some true) (hc : PySem.W.isClsIn K S = true) (ht : PySem.W.typeIn K (.ref S) = some (.type "type")) (hs : PySem.W.subIn K (.ref S) (.ref S) = some true) : PySem.W.exmOne K (.ref S) (.ref S) = some true := by
  have hc' : (PySem.W.clsIn K S).isSome = true := hc
  unfold PySem.W.exmOne PySem.W.kitCls
  simp only [hb, ht, hc', hs, beq_self_eq_true, Bool.and_self, if_true]
theorem bb_Machine_init (kV doc pm : Value) (an : Option Addr) (cdv ct : Value) (us : List Value) (hl : us.length = 4) : bindArgs (PySem.W.fnOf "__init__" "Machine.__init__" (defArgs s_Machine_init) (defBody s_Machine_init) (defScope s_Machine_init) .none kV doc pm an cdv ct) ⟨us, []⟩ = pure ((["self", "stands", "steps", "ends"] : List Str).zip us) := match us, hl with | [_, _, _, _], _ => rfl
theorem bb_Machine_stands (kV doc pm : Value) (an : Option Addr) (cdv ct : Value) (us : List Value) (hl : us.length = 1) : bindArgs (PySem.W.fnOf "stands" "Machine.stands" (defArgs s_Machine_stands) (defBody s_Machine_stands) (defScope s_Machine_stands) .none kV doc pm an cdv ct) ⟨us, []⟩ = pure ((["self"] : List Str).zip us) := match us, hl with | [_], _ => rfl
theorem bb_Machine_steps (kV doc pm : Value) (an : Option Addr) (cdv ct : Value) (us : List Value) (hl : us.length = 1) : bindArgs (PySem.W.fnOf "steps" "Machine.steps" (defArgs s_Machine_steps) (defBody s_Machine_steps) (defScope s_Machine_steps) .none kV doc pm an cdv ct) ⟨us, []⟩ = pure ((["self"] : List Str).zip us) := match us, hl with | [_], _ => rfl
theorem bb_Machine_eq (kV doc pm : Value) (an : Option Addr) (cdv ct : Value) (us : List Value) (hl : us.length = 2) : bindArgs (PySem.W.fnOf "__eq__" "Machine.__eq__" (defArgs s_Machine_eq) (defBody s_Machine_eq) (defScope s_Machine_eq) .none kV doc pm an cdv ct) ⟨us, []⟩ = pure ((["self", "other"] : List Str).zip us) := match us, hl with | [_, _], _ => rfl
theorem bb_is_whole_number (kV doc pm : Value) (an : Option Addr) (cdv ct : Value) (us : List Value) (hl : us.length = 1) : bindArgs (PySem.W.fnOf "is_whole_number" "is_whole_number" (defArgs s_is_whole_number) (defBody s_is_whole_number) (defScope s_is_whole_number) .none kV doc pm an cdv ct) ⟨us, []⟩ = pure ((["value"] : List Str).zip us) := match us, hl with | [_], _ => rfl
theorem bb_is_integer_between (kV doc pm : Value) (an : Option Addr) (cdv ct : Value) (us : List Value) (hl : us.length = 3) : bindArgs (PySem.W.fnOf "is_integer_between" "is_integer_between" (defArgs s_is_integer_between) (defBody s_is_integer_between) (defScope s_is_integer_between) .none kV doc pm an cdv ct) ⟨us, []⟩ = pure ((["value", "least", "most"] : List Str).zip us) := match us, hl with | [_, _, _], _ => rfl
theorem bb_is_stand (kV doc pm : Value) (an : Option Addr) (cdv ct : Value) (us : List Value) (hl : us.length = 2) : bindArgs (PySem.W.fnOf "_is_stand" "_is_stand" (defArgs s_is_stand) (defBody s_is_stand) (defScope s_is_stand) .none kV doc pm an cdv ct) ⟨us, []⟩ = pure ((["stands", "value"] : List Str).zip us) := match us, hl with | [_, _], _ => rfl
theorem bb_check_stands (kV doc pm : Value) (an : Option Addr) (cdv ct : Value) (us : List Value) (hl : us.length = 1) : bindArgs (PySem.W.fnOf "_check_stands" "_check_stands" (defArgs s_check_stands) (defBody s_check_stands) (defScope s_check_stands) .none kV doc pm an cdv ct) ⟨us, []⟩ = pure ((["stands"] : List Str).zip us) := match us, hl with | [_], _ => rfl
theorem bb_is_step (kV doc pm : Value) (an : Option Addr) (cdv ct : Value) (us : List Value) (hl : us.length = 2) : bindArgs (PySem.W.fnOf "_is_step" "_is_step" (defArgs s_is_step) (defBody s_is_step) (defScope s_is_step) .none kV doc pm an cdv ct) ⟨us, []⟩ = pure ((["stands", "value"] : List Str).zip us) := match us, hl with | [_, _], _ => rfl
theorem bb_check_steps (kV doc pm : Value) (an : Option Addr) (cdv ct : Value) (us : List Value) (hl : us.length = 2) : bindArgs (PySem.W.fnOf "_check_steps" "_check_steps" (defArgs s_check_steps) (defBody s_check_steps) (defScope s_check_steps) .none kV doc pm an cdv ct) ⟨us, []⟩ = pure ((["stands", "steps"] : List Str).zip us) := match us, hl with | [_, _], _ => rfl
theorem bb_is_ascending (kV doc pm : Value) (an : Option Addr) (cdv ct : Value) (us : List Value) (hl : us.length = 2) : bindArgs (PySem.W.fnOf "is_ascending" "is_ascending" (defArgs s_is_ascending) (defBody s_is_ascending) (defScope s_is_ascending) .none kV doc pm an cdv ct) ⟨us, []⟩ = pure ((["value", "many"] : List Str).zip us) := match us, hl with | [_, _], _ => rfl
theorem bb_check_ends (kV doc pm : Value) (an : Option Addr) (cdv ct : Value) (us : List Value) (hl : us.length = 2) : bindArgs (PySem.W.fnOf "_check_ends" "_check_ends" (defArgs s_check_ends) (defBody s_check_ends) (defScope s_check_ends) .none kV doc pm an cdv ct) ⟨us, []⟩ = pure ((["stands", "ends"] : List Str).zip us) := match us, hl with | [_, _], _ => rfl
theorem bb_check_machine (kV doc pm : Value) (an : Option Addr) (cdv ct : Value) (us : List Value) (hl : us.length = 1) : bindArgs (PySem.W.fnOf "check_machine" "check_machine" (defArgs s_check_machine) (defBody s_check_machine) (defScope s_check_machine) .none kV doc pm an cdv ct) ⟨us, []⟩ = pure ((["value"] : List Str).zip us) := match us, hl with | [_], _ => rfl
theorem bb_moves_of (kV doc pm : Value) (an : Option Addr) (cdv ct : Value) (us : List Value) (hl : us.length = 1) : bindArgs (PySem.W.fnOf "moves_of" "moves_of" (defArgs s_moves_of) (defBody s_moves_of) (defScope s_moves_of) .none kV doc pm an cdv ct) ⟨us, []⟩ = pure ((["machine"] : List Str).zip us) := match us, hl with | [_], _ => rfl
theorem bb_Meter_init (kV doc pm : Value) (an : Option Addr) (cdv ct : Value) (us : List Value) (hl : us.length = 2) : bindArgs (PySem.W.fnOf "__init__" "Meter.__init__" (defArgs s_Meter_init) (defBody s_Meter_init) (defScope s_Meter_init) .none kV doc pm an cdv ct) ⟨us, []⟩ = pure ((["self", "machine"] : List Str).zip us) := match us, hl with | [_, _], _ => rfl
theorem bb_Meter_machine (kV doc pm : Value) (an : Option Addr) (cdv ct : Value) (us : List Value) (hl : us.length = 1) : bindArgs (PySem.W.fnOf "machine" "Meter.machine" (defArgs s_Meter_machine) (defBody s_Meter_machine) (defScope s_Meter_machine) .none kV doc pm an cdv ct) ⟨us, []⟩ = pure ((["self"] : List Str).zip us) := match us, hl with | [_], _ => rfl
theorem bb_Meter_row (kV doc pm : Value) (an : Option Addr) (cdv ct : Value) (us : List Value) (hl : us.length = 1) : bindArgs (PySem.W.fnOf "row" "Meter.row" (defArgs s_Meter_row) (defBody s_Meter_row) (defScope s_Meter_row) .none kV doc pm an cdv ct) ⟨us, []⟩ = pure ((["self"] : List Str).zip us) := match us, hl with | [_], _ => rfl
theorem bb_Meter_stand (kV doc pm : Value) (an : Option Addr) (cdv ct : Value) (us : List Value) (hl : us.length = 1) : bindArgs (PySem.W.fnOf "stand" "Meter.stand" (defArgs s_Meter_stand) (defBody s_Meter_stand) (defScope s_Meter_stand) .none kV doc pm an cdv ct) ⟨us, []⟩ = pure ((["self"] : List Str).zip us) := match us, hl with | [_], _ => rfl
theorem bb_Meter_tally (kV doc pm : Value) (an : Option Addr) (cdv ct : Value) (us : List Value) (hl : us.length = 1) : bindArgs (PySem.W.fnOf "tally" "Meter.tally" (defArgs s_Meter_tally) (defBody s_Meter_tally) (defScope s_Meter_tally) .none kV doc pm an cdv ct) ⟨us, []⟩ = pure ((["self"] : List Str).zip us) := match us, hl with | [_], _ => rfl
theorem bb_Meter_span (kV doc pm : Value) (an : Option Addr) (cdv ct : Value) (us : List Value) (hl : us.length = 1) : bindArgs (PySem.W.fnOf "span" "Meter.span" (defArgs s_Meter_span) (defBody s_Meter_span) (defScope s_Meter_span) .none kV doc pm an cdv ct) ⟨us, []⟩ = pure ((["self"] : List Str).zip us) := match us, hl with | [_], _ => rfl
theorem bb_Meter_read (kV doc pm : Value) (an : Option Addr) (cdv ct : Value) (us : List Value) (hl : us.length = 2) : bindArgs (PySem.W.fnOf "read" "Meter.read" (defArgs s_Meter_read) (defBody s_Meter_read) (defScope s_Meter_read) .none kV doc pm an cdv ct) ⟨us, []⟩ = pure ((["self", "letter"] : List Str).zip us) := match us, hl with | [_, _], _ => rfl
theorem bb_Meter_can (kV doc pm : Value) (an : Option Addr) (cdv ct : Value) (us : List Value) (hl : us.length = 1) : bindArgs (PySem.W.fnOf "can" "Meter.can" (defArgs s_Meter_can) (defBody s_Meter_can) (defScope s_Meter_can) .none kV doc pm an cdv ct) ⟨us, []⟩ = pure ((["self"] : List Str).zip us) := match us, hl with | [_], _ => rfl
theorem bb_Meter_undo (kV doc pm : Value) (an : Option Addr) (cdv ct : Value) (us : List Value) (hl : us.length = 1) : bindArgs (PySem.W.fnOf "undo" "Meter.undo" (defArgs s_Meter_undo) (defBody s_Meter_undo) (defScope s_Meter_undo) .none kV doc pm an cdv ct) ⟨us, []⟩ = pure ((["self"] : List Str).zip us) := match us, hl with | [_], _ => rfl
theorem bb_Meter_copy (kV doc pm : Value) (an : Option Addr) (cdv ct : Value) (us : List Value) (hl : us.length = 1) : bindArgs (PySem.W.fnOf "copy" "Meter.copy" (defArgs s_Meter_copy) (defBody s_Meter_copy) (defScope s_Meter_copy) .none kV doc pm an cdv ct) ⟨us, []⟩ = pure ((["self"] : List Str).zip us) := match us, hl with | [_], _ => rfl
theorem bb_Meter_len (kV doc pm : Value) (an : Option Addr) (cdv ct : Value) (us : List Value) (hl : us.length = 1) : bindArgs (PySem.W.fnOf "__len__" "Meter.__len__" (defArgs s_Meter_len) (defBody s_Meter_len) (defScope s_Meter_len) .none kV doc pm an cdv ct) ⟨us, []⟩ = pure ((["self"] : List Str).zip us) := match us, hl with | [_], _ => rfl
theorem bb_law_taken (kV doc pm : Value) (an : Option Addr) (cdv ct : Value) (us : List Value) (hl : us.length = 2) : bindArgs (PySem.W.fnOf "_law_taken" "_law_taken" (defArgs s_law_taken) (defBody s_law_taken) (defScope s_law_taken) .none kV doc pm an cdv ct) ⟨us, []⟩ = pure ((["_law_row", "_law_many"] : List Str).zip us) := match us, hl with | [_, _], _ => rfl
theorem bb_law_parts (kV doc pm : Value) (an : Option Addr) (cdv ct : Value) (us : List Value) (hl : us.length = 3) : bindArgs (PySem.W.fnOf "_law_parts" "_law_parts" (defArgs s_law_parts) (defBody s_law_parts) (defScope s_law_parts) .none kV doc pm an cdv ct) ⟨us, []⟩ = pure ((["_law_row", "_law_stands", "_law_size"] : List Str).zip us) := match us, hl with | [_, _, _], _ => rfl
theorem bb_law_machine (kV doc pm : Value) (an : Option Addr) (cdv ct : Value) (us : List Value) (hl : us.length = 1) : bindArgs (PySem.W.fnOf "_law_machine" "_law_machine" (defArgs s_law_machine) (defBody s_law_machine) (defScope s_law_machine) .none kV doc pm an cdv ct) ⟨us, []⟩ = pure ((["_law_d"] : List Str).zip us) := match us, hl with | [_], _ => rfl
theorem bb_law_next (kV doc pm : Value) (an : Option Addr) (cdv ct : Value) (us : List Value) (hl : us.length = 2) : bindArgs (PySem.W.fnOf "_law_next" "_law_next" (defArgs s_law_next) (defBody s_law_next) (defScope s_law_next) .none kV doc pm an cdv ct) ⟨us, []⟩ = pure ((["_law_d", "_law_stand"] : List Str).zip us) := match us, hl with | [_, _], _ => rfl
theorem bb_law_way (kV doc pm : Value) (an : Option Addr) (cdv ct : Value) (us : List Value) (hl : us.length = 3) : bindArgs (PySem.W.fnOf "_law_way" "_law_way" (defArgs s_law_way) (defBody s_law_way) (defScope s_law_way) .none kV doc pm an cdv ct) ⟨us, []⟩ = pure ((["_law_d", "_law_word", "_law_stand"] : List Str).zip us) := match us, hl with | [_, _, _], _ => rfl
theorem bb_law_read (kV doc pm : Value) (an : Option Addr) (cdv ct : Value) (us : List Value) (hl : us.length = 2) : bindArgs (PySem.W.fnOf "_law_read" "_law_read" (defArgs s_law_read) (defBody s_law_read) (defScope s_law_read) .none kV doc pm an cdv ct) ⟨us, []⟩ = pure ((["_law_meter", "_law_letter"] : List Str).zip us) := match us, hl with | [_, _], _ => rfl
theorem bb_law_is_meter (kV doc pm : Value) (an : Option Addr) (cdv ct : Value) (us : List Value) (hl : us.length = 3) : bindArgs (PySem.W.fnOf "_law_is_meter" "_law_is_meter" (defArgs s_law_is_meter) (defBody s_law_is_meter) (defScope s_law_is_meter) .none kV doc pm an cdv ct) ⟨us, []⟩ = pure ((["_law_meter", "_law_d", "_law_word"] : List Str).zip us) := match us, hl with | [_, _, _], _ => rfl
theorem bb_law (kV doc pm : Value) (an : Option Addr) (cdv ct : Value) (us : List Value) (hl : us.length = 1) : bindArgs (PySem.W.fnOf "law" "law" (defArgs s_law) (defBody s_law) (defScope s_law) .none kV doc pm an cdv ct) ⟨us, []⟩ = pure ((["_law_script"] : List Str).zip us) := match us, hl with | [_], _ => rfl
set_option maxHeartbeats 0 in
def txt_mk {K : PySem.W.Frag} {h : Heap} {mg : Str → Option Value} (X : K.In h) (G : h.Ns mainGlobals mg)
    {a_Machine_init : Addr} {od_Machine_init an_Machine_init : Option Addr} {sl_Machine_init : Array (Option Value)} {oc_Machine_init kV_Machine_init dc_Machine_init pm_Machine_init cd_Machine_init ct_Machine_init : Value}
    {a_Machine_stands : Addr} {od_Machine_stands an_Machine_stands : Option Addr} {sl_Machine_stands : Array (Option Value)} {oc_Machine_stands kV_Machine_stands dc_Machine_stands pm_Machine_stands cd_Machine_stands ct_Machine_stands : Value}
    {a_Machine_steps : Addr} {od_Machine_steps an_Machine_steps : Option Addr} {sl_Machine_steps : Array (Option Value)} {oc_Machine_steps kV_Machine_steps dc_Machine_steps pm_Machine_steps cd_Machine_steps ct_Machine_steps : Value}
    {a_Machine_eq : Addr} {od_Machine_eq an_Machine_eq : Option Addr} {sl_Machine_eq : Array (Option Value)} {oc_Machine_eq kV_Machine_eq dc_Machine_eq pm_Machine_eq cd_Machine_eq ct_Machine_eq : Value}
    {a_is_whole_number : Addr} {od_is_whole_number an_is_whole_number : Option Addr} {sl_is_whole_number : Array (Option Value)} {oc_is_whole_number kV_is_whole_number dc_is_whole_number pm_is_whole_number cd_is_whole_number ct_is_whole_number : Value}
    {a_is_integer_between : Addr} {od_is_integer_between an_is_integer_between : Option Addr} {sl_is_integer_between : Array (Option Value)} {oc_is_integer_between kV_is_integer_between dc_is_integer_between pm_is_integer_between cd_is_integer_between ct_is_integer_between : Value}
    {a_is_stand : Addr} {od_is_stand an_is_stand : Option Addr} {sl_is_stand : Array (Option Value)} {oc_is_stand kV_is_stand dc_is_stand pm_is_stand cd_is_stand ct_is_stand : Value}
    {a_check_stands : Addr} {od_check_stands an_check_stands : Option Addr} {sl_check_stands : Array (Option Value)} {oc_check_stands kV_check_stands dc_check_stands pm_check_stands cd_check_stands ct_check_stands : Value}
    {a_is_step : Addr} {od_is_step an_is_step : Option Addr} {sl_is_step : Array (Option Value)} {oc_is_step kV_is_step dc_is_step pm_is_step cd_is_step ct_is_step : Value}
    {a_check_steps : Addr} {od_check_steps an_check_steps : Option Addr} {sl_check_steps : Array (Option Value)} {oc_check_steps kV_check_steps dc_check_steps pm_check_steps cd_check_steps ct_check_steps : Value}
    {a_is_ascending : Addr} {od_is_ascending an_is_ascending : Option Addr} {sl_is_ascending : Array (Option Value)} {oc_is_ascending kV_is_ascending dc_is_ascending pm_is_ascending cd_is_ascending ct_is_ascending : Value}
    {a_check_ends : Addr} {od_check_ends an_check_ends : Option Addr} {sl_check_ends : Array (Option Value)} {oc_check_ends kV_check_ends dc_check_ends pm_check_ends cd_check_ends ct_check_ends : Value}
    {a_check_machine : Addr} {od_check_machine an_check_machine : Option Addr} {sl_check_machine : Array (Option Value)} {oc_check_machine kV_check_machine dc_check_machine pm_check_machine cd_check_machine ct_check_machine : Value}
    {a_moves_of : Addr} {od_moves_of an_moves_of : Option Addr} {sl_moves_of : Array (Option Value)} {oc_moves_of kV_moves_of dc_moves_of pm_moves_of cd_moves_of ct_moves_of : Value}
    {a_Meter_init : Addr} {od_Meter_init an_Meter_init : Option Addr} {sl_Meter_init : Array (Option Value)} {oc_Meter_init kV_Meter_init dc_Meter_init pm_Meter_init cd_Meter_init ct_Meter_init : Value}
    {a_Meter_machine : Addr} {od_Meter_machine an_Meter_machine : Option Addr} {sl_Meter_machine : Array (Option Value)} {oc_Meter_machine kV_Meter_machine dc_Meter_machine pm_Meter_machine cd_Meter_machine ct_Meter_machine : Value}
    {a_Meter_row : Addr} {od_Meter_row an_Meter_row : Option Addr} {sl_Meter_row : Array (Option Value)} {oc_Meter_row kV_Meter_row dc_Meter_row pm_Meter_row cd_Meter_row ct_Meter_row : Value}
    {a_Meter_stand : Addr} {od_Meter_stand an_Meter_stand : Option Addr} {sl_Meter_stand : Array (Option Value)} {oc_Meter_stand kV_Meter_stand dc_Meter_stand pm_Meter_stand cd_Meter_stand ct_Meter_stand : Value}
    {a_Meter_tally : Addr} {od_Meter_tally an_Meter_tally : Option Addr} {sl_Meter_tally : Array (Option Value)} {oc_Meter_tally kV_Meter_tally dc_Meter_tally pm_Meter_tally cd_Meter_tally ct_Meter_tally : Value}
    {a_Meter_span : Addr} {od_Meter_span an_Meter_span : Option Addr} {sl_Meter_span : Array (Option Value)} {oc_Meter_span kV_Meter_span dc_Meter_span pm_Meter_span cd_Meter_span ct_Meter_span : Value}
    {a_Meter_read : Addr} {od_Meter_read an_Meter_read : Option Addr} {sl_Meter_read : Array (Option Value)} {oc_Meter_read kV_Meter_read dc_Meter_read pm_Meter_read cd_Meter_read ct_Meter_read : Value}
    {a_Meter_can : Addr} {od_Meter_can an_Meter_can : Option Addr} {sl_Meter_can : Array (Option Value)} {oc_Meter_can kV_Meter_can dc_Meter_can pm_Meter_can cd_Meter_can ct_Meter_can : Value}
    {a_Meter_undo : Addr} {od_Meter_undo an_Meter_undo : Option Addr} {sl_Meter_undo : Array (Option Value)} {oc_Meter_undo kV_Meter_undo dc_Meter_undo pm_Meter_undo cd_Meter_undo ct_Meter_undo : Value}
    {a_Meter_copy : Addr} {od_Meter_copy an_Meter_copy : Option Addr} {sl_Meter_copy : Array (Option Value)} {oc_Meter_copy kV_Meter_copy dc_Meter_copy pm_Meter_copy cd_Meter_copy ct_Meter_copy : Value}
    {a_Meter_len : Addr} {od_Meter_len an_Meter_len : Option Addr} {sl_Meter_len : Array (Option Value)} {oc_Meter_len kV_Meter_len dc_Meter_len pm_Meter_len cd_Meter_len ct_Meter_len : Value}
    {a_law_taken : Addr} {od_law_taken an_law_taken : Option Addr} {sl_law_taken : Array (Option Value)} {oc_law_taken kV_law_taken dc_law_taken pm_law_taken cd_law_taken ct_law_taken : Value}
    {a_law_parts : Addr} {od_law_parts an_law_parts : Option Addr} {sl_law_parts : Array (Option Value)} {oc_law_parts kV_law_parts dc_law_parts pm_law_parts cd_law_parts ct_law_parts : Value}
    {a_law_machine : Addr} {od_law_machine an_law_machine : Option Addr} {sl_law_machine : Array (Option Value)} {oc_law_machine kV_law_machine dc_law_machine pm_law_machine cd_law_machine ct_law_machine : Value}
    {a_law_next : Addr} {od_law_next an_law_next : Option Addr} {sl_law_next : Array (Option Value)} {oc_law_next kV_law_next dc_law_next pm_law_next cd_law_next ct_law_next : Value}
    {a_law_way : Addr} {od_law_way an_law_way : Option Addr} {sl_law_way : Array (Option Value)} {oc_law_way kV_law_way dc_law_way pm_law_way cd_law_way ct_law_way : Value}
    {a_law_read : Addr} {od_law_read an_law_read : Option Addr} {sl_law_read : Array (Option Value)} {oc_law_read kV_law_read dc_law_read pm_law_read cd_law_read ct_law_read : Value}
    {a_law_is_meter : Addr} {od_law_is_meter an_law_is_meter : Option Addr} {sl_law_is_meter : Array (Option Value)} {oc_law_is_meter kV_law_is_meter dc_law_is_meter pm_law_is_meter cd_law_is_meter ct_law_is_meter : Value}
    {a_law : Addr} {od_law an_law : Option Addr} {sl_law : Array (Option Value)} {oc_law kV_law dc_law pm_law cd_law ct_law : Value}
    {c_Machine : Addr}
    {q_stands : Addr} {rest_stands : List Value}
    {q_steps : Addr} {rest_steps : List Value}
    {c_Meter : Addr}
    {q_machine : Addr} {rest_machine : List Value}
    {q_row : Addr} {rest_row : List Value}
    {q_stand : Addr} {rest_stand : List Value}
    {q_tally : Addr} {rest_tally : List Value}
    {q_span : Addr} {rest_span : List Value}
    {c_BadLetter : Addr}
    {t_MOST_STANDS : Tok}
    {t_MOST_GAIN : Tok}
    {a_LETTERS : Addr}
    (g_is_whole_number : PySem.W.nsIn K mainGlobals "is_whole_number" = some (some (.ref a_is_whole_number)))
    (g_is_integer_between : PySem.W.nsIn K mainGlobals "is_integer_between" = some (some (.ref a_is_integer_between)))
    (g_is_stand : PySem.W.nsIn K mainGlobals "_is_stand" = some (some (.ref a_is_stand)))
    (g_check_stands : PySem.W.nsIn K mainGlobals "_check_stands" = some (some (.ref a_check_stands)))
    (g_is_step : PySem.W.nsIn K mainGlobals "_is_step" = some (some (.ref a_is_step)))
    (g_check_steps : PySem.W.nsIn K mainGlobals "_check_steps" = some (some (.ref a_check_steps)))
    (g_is_ascending : PySem.W.nsIn K mainGlobals "is_ascending" = some (some (.ref a_is_ascending)))
    (g_check_ends : PySem.W.nsIn K mainGlobals "_check_ends" = some (some (.ref a_check_ends)))
    (g_check_machine : PySem.W.nsIn K mainGlobals "check_machine" = some (some (.ref a_check_machine)))
    (g_moves_of : PySem.W.nsIn K mainGlobals "moves_of" = some (some (.ref a_moves_of)))
    (g_law_taken : PySem.W.nsIn K mainGlobals "_law_taken" = some (some (.ref a_law_taken)))
    (g_law_parts : PySem.W.nsIn K mainGlobals "_law_parts" = some (some (.ref a_law_parts)))
    (g_law_machine : PySem.W.nsIn K mainGlobals "_law_machine" = some (some (.ref a_law_machine)))
    (g_law_next : PySem.W.nsIn K mainGlobals "_law_next" = some (some (.ref a_law_next)))
    (g_law_way : PySem.W.nsIn K mainGlobals "_law_way" = some (some (.ref a_law_way)))
    (g_law_read : PySem.W.nsIn K mainGlobals "_law_read" = some (some (.ref a_law_read)))
    (g_law_is_meter : PySem.W.nsIn K mainGlobals "_law_is_meter" = some (some (.ref a_law_is_meter)))
    (g_law : PySem.W.nsIn K mainGlobals "law" = some (some (.ref a_law)))
    (g_Machine : PySem.W.nsIn K mainGlobals "Machine" = some (some (.ref c_Machine)))
    (g_Meter : PySem.W.nsIn K mainGlobals "Meter" = some (some (.ref c_Meter)))
    (g_BadLetter : PySem.W.nsIn K mainGlobals "BadLetter" = some (some (.ref c_BadLetter)))
    (g_MOST_STANDS : PySem.W.nsIn K mainGlobals "MOST_STANDS" = some (some (.int 8 t_MOST_STANDS)))
    (g_MOST_GAIN : PySem.W.nsIn K mainGlobals "MOST_GAIN" = some (some (.int 1000000000000000000000000000000 t_MOST_GAIN)))
    (g_LETTERS : PySem.W.nsIn K mainGlobals "LETTERS" = some (some (.ref a_LETTERS)))
    (zz_bool : PySem.W.nsIn K mainGlobals "bool" = some none)
    (zz_enumerate : PySem.W.nsIn K mainGlobals "enumerate" = some none)
    (zz_int : PySem.W.nsIn K mainGlobals "int" = some none)
    (zz_isinstance : PySem.W.nsIn K mainGlobals "isinstance" = some none)
    (zz_len : PySem.W.nsIn K mainGlobals "len" = some none)
    (zz_list : PySem.W.nsIn K mainGlobals "list" = some none)
    (zz_max : PySem.W.nsIn K mainGlobals "max" = some none)
    (zz_min : PySem.W.nsIn K mainGlobals "min" = some none)
    (zz_range : PySem.W.nsIn K mainGlobals "range" = some none)
    (zz_sorted : PySem.W.nsIn K mainGlobals "sorted" = some none)
    (zz_str : PySem.W.nsIn K mainGlobals "str" = some none)
    (zz_tuple : PySem.W.nsIn K mainGlobals "tuple" = some none)
    (l_Machine_init : K.lookup a_Machine_init = some ⟨oc_Machine_init, od_Machine_init, .func (PySem.W.fnOf "__init__" "Machine.__init__" (defArgs s_Machine_init) (defBody s_Machine_init) (defScope s_Machine_init) .none kV_Machine_init dc_Machine_init pm_Machine_init an_Machine_init cd_Machine_init ct_Machine_init), sl_Machine_init⟩)
    (c_Machine_init : PySem.W.codeIn K cd_Machine_init "Machine.__init__" = true)
    (kk_Machine_init : PySem.W.keepIn K (.ref a_Machine_init) = true)
    (l_Machine_stands : K.lookup a_Machine_stands = some ⟨oc_Machine_stands, od_Machine_stands, .func (PySem.W.fnOf "stands" "Machine.stands" (defArgs s_Machine_stands) (defBody s_Machine_stands) (defScope s_Machine_stands) .none kV_Machine_stands dc_Machine_stands pm_Machine_stands an_Machine_stands cd_Machine_stands ct_Machine_stands), sl_Machine_stands⟩)
    (c_Machine_stands : PySem.W.codeIn K cd_Machine_stands "Machine.stands" = true)
    (kk_Machine_stands : PySem.W.keepIn K (.ref a_Machine_stands) = true)
    (l_Machine_steps : K.lookup a_Machine_steps = some ⟨oc_Machine_steps, od_Machine_steps, .func (PySem.W.fnOf "steps" "Machine.steps" (defArgs s_Machine_steps) (defBody s_Machine_steps) (defScope s_Machine_steps) .none kV_Machine_steps dc_Machine_steps pm_Machine_steps an_Machine_steps cd_Machine_steps ct_Machine_steps), sl_Machine_steps⟩)
    (c_Machine_steps : PySem.W.codeIn K cd_Machine_steps "Machine.steps" = true)
    (kk_Machine_steps : PySem.W.keepIn K (.ref a_Machine_steps) = true)
    (l_Machine_eq : K.lookup a_Machine_eq = some ⟨oc_Machine_eq, od_Machine_eq, .func (PySem.W.fnOf "__eq__" "Machine.__eq__" (defArgs s_Machine_eq) (defBody s_Machine_eq) (defScope s_Machine_eq) .none kV_Machine_eq dc_Machine_eq pm_Machine_eq an_Machine_eq cd_Machine_eq ct_Machine_eq), sl_Machine_eq⟩)
    (c_Machine_eq : PySem.W.codeIn K cd_Machine_eq "Machine.__eq__" = true)
    (kk_Machine_eq : PySem.W.keepIn K (.ref a_Machine_eq) = true)
    (l_is_whole_number : K.lookup a_is_whole_number = some ⟨oc_is_whole_number, od_is_whole_number, .func (PySem.W.fnOf "is_whole_number" "is_whole_number" (defArgs s_is_whole_number) (defBody s_is_whole_number) (defScope s_is_whole_number) .none kV_is_whole_number dc_is_whole_number pm_is_whole_number an_is_whole_number cd_is_whole_number ct_is_whole_number), sl_is_whole_number⟩)
    (c_is_whole_number : PySem.W.codeIn K cd_is_whole_number "is_whole_number" = true)
    (kk_is_whole_number : PySem.W.keepIn K (.ref a_is_whole_number) = true)
    (l_is_integer_between : K.lookup a_is_integer_between = some ⟨oc_is_integer_between, od_is_integer_between, .func (PySem.W.fnOf "is_integer_between" "is_integer_between" (defArgs s_is_integer_between) (defBody s_is_integer_between) (defScope s_is_integer_between) .none kV_is_integer_between dc_is_integer_between pm_is_integer_between an_is_integer_between cd_is_integer_between ct_is_integer_between), sl_is_integer_between⟩)
    (c_is_integer_between : PySem.W.codeIn K cd_is_integer_between "is_integer_between" = true)
    (kk_is_integer_between : PySem.W.keepIn K (.ref a_is_integer_between) = true)
    (l_is_stand : K.lookup a_is_stand = some ⟨oc_is_stand, od_is_stand, .func (PySem.W.fnOf "_is_stand" "_is_stand" (defArgs s_is_stand) (defBody s_is_stand) (defScope s_is_stand) .none kV_is_stand dc_is_stand pm_is_stand an_is_stand cd_is_stand ct_is_stand), sl_is_stand⟩)
    (c_is_stand : PySem.W.codeIn K cd_is_stand "_is_stand" = true)
    (kk_is_stand : PySem.W.keepIn K (.ref a_is_stand) = true)
    (l_check_stands : K.lookup a_check_stands = some ⟨oc_check_stands, od_check_stands, .func (PySem.W.fnOf "_check_stands" "_check_stands" (defArgs s_check_stands) (defBody s_check_stands) (defScope s_check_stands) .none kV_check_stands dc_check_stands pm_check_stands an_check_stands cd_check_stands ct_check_stands), sl_check_stands⟩)
    (c_check_stands : PySem.W.codeIn K cd_check_stands "_check_stands" = true)
    (kk_check_stands : PySem.W.keepIn K (.ref a_check_stands) = true)
    (l_is_step : K.lookup a_is_step = some ⟨oc_is_step, od_is_step, .func (PySem.W.fnOf "_is_step" "_is_step" (defArgs s_is_step) (defBody s_is_step) (defScope s_is_step) .none kV_is_step dc_is_step pm_is_step an_is_step cd_is_step ct_is_step), sl_is_step⟩)
    (c_is_step : PySem.W.codeIn K cd_is_step "_is_step" = true)
    (kk_is_step : PySem.W.keepIn K (.ref a_is_step) = true)
    (l_check_steps : K.lookup a_check_steps = some ⟨oc_check_steps, od_check_steps, .func (PySem.W.fnOf "_check_steps" "_check_steps" (defArgs s_check_steps) (defBody s_check_steps) (defScope s_check_steps) .none kV_check_steps dc_check_steps pm_check_steps an_check_steps cd_check_steps ct_check_steps), sl_check_steps⟩)
    (c_check_steps : PySem.W.codeIn K cd_check_steps "_check_steps" = true)
    (kk_check_steps : PySem.W.keepIn K (.ref a_check_steps) = true)
    (l_is_ascending : K.lookup a_is_ascending = some ⟨oc_is_ascending, od_is_ascending, .func (PySem.W.fnOf "is_ascending" "is_ascending" (defArgs s_is_ascending) (defBody s_is_ascending) (defScope s_is_ascending) .none kV_is_ascending dc_is_ascending pm_is_ascending an_is_ascending cd_is_ascending ct_is_ascending), sl_is_ascending⟩)
    (c_is_ascending : PySem.W.codeIn K cd_is_ascending "is_ascending" = true)
    (kk_is_ascending : PySem.W.keepIn K (.ref a_is_ascending) = true)
    (l_check_ends : K.lookup a_check_ends = some ⟨oc_check_ends, od_check_ends, .func (PySem.W.fnOf "_check_ends" "_check_ends" (defArgs s_check_ends) (defBody s_check_ends) (defScope s_check_ends) .none kV_check_ends dc_check_ends pm_check_ends an_check_ends cd_check_ends ct_check_ends), sl_check_ends⟩)
    (c_check_ends : PySem.W.codeIn K cd_check_ends "_check_ends" = true)
    (kk_check_ends : PySem.W.keepIn K (.ref a_check_ends) = true)
    (l_check_machine : K.lookup a_check_machine = some ⟨oc_check_machine, od_check_machine, .func (PySem.W.fnOf "check_machine" "check_machine" (defArgs s_check_machine) (defBody s_check_machine) (defScope s_check_machine) .none kV_check_machine dc_check_machine pm_check_machine an_check_machine cd_check_machine ct_check_machine), sl_check_machine⟩)
    (c_check_machine : PySem.W.codeIn K cd_check_machine "check_machine" = true)
    (kk_check_machine : PySem.W.keepIn K (.ref a_check_machine) = true)
    (l_moves_of : K.lookup a_moves_of = some ⟨oc_moves_of, od_moves_of, .func (PySem.W.fnOf "moves_of" "moves_of" (defArgs s_moves_of) (defBody s_moves_of) (defScope s_moves_of) .none kV_moves_of dc_moves_of pm_moves_of an_moves_of cd_moves_of ct_moves_of), sl_moves_of⟩)
    (c_moves_of : PySem.W.codeIn K cd_moves_of "moves_of" = true)
    (kk_moves_of : PySem.W.keepIn K (.ref a_moves_of) = true)
    (l_Meter_init : K.lookup a_Meter_init = some ⟨oc_Meter_init, od_Meter_init, .func (PySem.W.fnOf "__init__" "Meter.__init__" (defArgs s_Meter_init) (defBody s_Meter_init) (defScope s_Meter_init) .none kV_Meter_init dc_Meter_init pm_Meter_init an_Meter_init cd_Meter_init ct_Meter_init), sl_Meter_init⟩)
    (c_Meter_init : PySem.W.codeIn K cd_Meter_init "Meter.__init__" = true)
    (kk_Meter_init : PySem.W.keepIn K (.ref a_Meter_init) = true)
    (l_Meter_machine : K.lookup a_Meter_machine = some ⟨oc_Meter_machine, od_Meter_machine, .func (PySem.W.fnOf "machine" "Meter.machine" (defArgs s_Meter_machine) (defBody s_Meter_machine) (defScope s_Meter_machine) .none kV_Meter_machine dc_Meter_machine pm_Meter_machine an_Meter_machine cd_Meter_machine ct_Meter_machine), sl_Meter_machine⟩)
    (c_Meter_machine : PySem.W.codeIn K cd_Meter_machine "Meter.machine" = true)
    (kk_Meter_machine : PySem.W.keepIn K (.ref a_Meter_machine) = true)
    (l_Meter_row : K.lookup a_Meter_row = some ⟨oc_Meter_row, od_Meter_row, .func (PySem.W.fnOf "row" "Meter.row" (defArgs s_Meter_row) (defBody s_Meter_row) (defScope s_Meter_row) .none kV_Meter_row dc_Meter_row pm_Meter_row an_Meter_row cd_Meter_row ct_Meter_row), sl_Meter_row⟩)
    (c_Meter_row : PySem.W.codeIn K cd_Meter_row "Meter.row" = true)
    (kk_Meter_row : PySem.W.keepIn K (.ref a_Meter_row) = true)
    (l_Meter_stand : K.lookup a_Meter_stand = some ⟨oc_Meter_stand, od_Meter_stand, .func (PySem.W.fnOf "stand" "Meter.stand" (defArgs s_Meter_stand) (defBody s_Meter_stand) (defScope s_Meter_stand) .none kV_Meter_stand dc_Meter_stand pm_Meter_stand an_Meter_stand cd_Meter_stand ct_Meter_stand), sl_Meter_stand⟩)
    (c_Meter_stand : PySem.W.codeIn K cd_Meter_stand "Meter.stand" = true)
    (kk_Meter_stand : PySem.W.keepIn K (.ref a_Meter_stand) = true)
    (l_Meter_tally : K.lookup a_Meter_tally = some ⟨oc_Meter_tally, od_Meter_tally, .func (PySem.W.fnOf "tally" "Meter.tally" (defArgs s_Meter_tally) (defBody s_Meter_tally) (defScope s_Meter_tally) .none kV_Meter_tally dc_Meter_tally pm_Meter_tally an_Meter_tally cd_Meter_tally ct_Meter_tally), sl_Meter_tally⟩)
    (c_Meter_tally : PySem.W.codeIn K cd_Meter_tally "Meter.tally" = true)
    (kk_Meter_tally : PySem.W.keepIn K (.ref a_Meter_tally) = true)
    (l_Meter_span : K.lookup a_Meter_span = some ⟨oc_Meter_span, od_Meter_span, .func (PySem.W.fnOf "span" "Meter.span" (defArgs s_Meter_span) (defBody s_Meter_span) (defScope s_Meter_span) .none kV_Meter_span dc_Meter_span pm_Meter_span an_Meter_span cd_Meter_span ct_Meter_span), sl_Meter_span⟩)
    (c_Meter_span : PySem.W.codeIn K cd_Meter_span "Meter.span" = true)
    (kk_Meter_span : PySem.W.keepIn K (.ref a_Meter_span) = true)
    (l_Meter_read : K.lookup a_Meter_read = some ⟨oc_Meter_read, od_Meter_read, .func (PySem.W.fnOf "read" "Meter.read" (defArgs s_Meter_read) (defBody s_Meter_read) (defScope s_Meter_read) .none kV_Meter_read dc_Meter_read pm_Meter_read an_Meter_read cd_Meter_read ct_Meter_read), sl_Meter_read⟩)
    (c_Meter_read : PySem.W.codeIn K cd_Meter_read "Meter.read" = true)
    (kk_Meter_read : PySem.W.keepIn K (.ref a_Meter_read) = true)
    (l_Meter_can : K.lookup a_Meter_can = some ⟨oc_Meter_can, od_Meter_can, .func (PySem.W.fnOf "can" "Meter.can" (defArgs s_Meter_can) (defBody s_Meter_can) (defScope s_Meter_can) .none kV_Meter_can dc_Meter_can pm_Meter_can an_Meter_can cd_Meter_can ct_Meter_can), sl_Meter_can⟩)
    (c_Meter_can : PySem.W.codeIn K cd_Meter_can "Meter.can" = true)
    (kk_Meter_can : PySem.W.keepIn K (.ref a_Meter_can) = true)
    (l_Meter_undo : K.lookup a_Meter_undo = some ⟨oc_Meter_undo, od_Meter_undo, .func (PySem.W.fnOf "undo" "Meter.undo" (defArgs s_Meter_undo) (defBody s_Meter_undo) (defScope s_Meter_undo) .none kV_Meter_undo dc_Meter_undo pm_Meter_undo an_Meter_undo cd_Meter_undo ct_Meter_undo), sl_Meter_undo⟩)
    (c_Meter_undo : PySem.W.codeIn K cd_Meter_undo "Meter.undo" = true)
    (kk_Meter_undo : PySem.W.keepIn K (.ref a_Meter_undo) = true)
    (l_Meter_copy : K.lookup a_Meter_copy = some ⟨oc_Meter_copy, od_Meter_copy, .func (PySem.W.fnOf "copy" "Meter.copy" (defArgs s_Meter_copy) (defBody s_Meter_copy) (defScope s_Meter_copy) .none kV_Meter_copy dc_Meter_copy pm_Meter_copy an_Meter_copy cd_Meter_copy ct_Meter_copy), sl_Meter_copy⟩)
    (c_Meter_copy : PySem.W.codeIn K cd_Meter_copy "Meter.copy" = true)
    (kk_Meter_copy : PySem.W.keepIn K (.ref a_Meter_copy) = true)
    (l_Meter_len : K.lookup a_Meter_len = some ⟨oc_Meter_len, od_Meter_len, .func (PySem.W.fnOf "__len__" "Meter.__len__" (defArgs s_Meter_len) (defBody s_Meter_len) (defScope s_Meter_len) .none kV_Meter_len dc_Meter_len pm_Meter_len an_Meter_len cd_Meter_len ct_Meter_len), sl_Meter_len⟩)
    (c_Meter_len : PySem.W.codeIn K cd_Meter_len "Meter.__len__" = true)
    (kk_Meter_len : PySem.W.keepIn K (.ref a_Meter_len) = true)
    (l_law_taken : K.lookup a_law_taken = some ⟨oc_law_taken, od_law_taken, .func (PySem.W.fnOf "_law_taken" "_law_taken" (defArgs s_law_taken) (defBody s_law_taken) (defScope s_law_taken) .none kV_law_taken dc_law_taken pm_law_taken an_law_taken cd_law_taken ct_law_taken), sl_law_taken⟩)
    (c_law_taken : PySem.W.codeIn K cd_law_taken "_law_taken" = true)
    (kk_law_taken : PySem.W.keepIn K (.ref a_law_taken) = true)
    (l_law_parts : K.lookup a_law_parts = some ⟨oc_law_parts, od_law_parts, .func (PySem.W.fnOf "_law_parts" "_law_parts" (defArgs s_law_parts) (defBody s_law_parts) (defScope s_law_parts) .none kV_law_parts dc_law_parts pm_law_parts an_law_parts cd_law_parts ct_law_parts), sl_law_parts⟩)
    (c_law_parts : PySem.W.codeIn K cd_law_parts "_law_parts" = true)
    (kk_law_parts : PySem.W.keepIn K (.ref a_law_parts) = true)
    (l_law_machine : K.lookup a_law_machine = some ⟨oc_law_machine, od_law_machine, .func (PySem.W.fnOf "_law_machine" "_law_machine" (defArgs s_law_machine) (defBody s_law_machine) (defScope s_law_machine) .none kV_law_machine dc_law_machine pm_law_machine an_law_machine cd_law_machine ct_law_machine), sl_law_machine⟩)
    (c_law_machine : PySem.W.codeIn K cd_law_machine "_law_machine" = true)
    (kk_law_machine : PySem.W.keepIn K (.ref a_law_machine) = true)
    (l_law_next : K.lookup a_law_next = some ⟨oc_law_next, od_law_next, .func (PySem.W.fnOf "_law_next" "_law_next" (defArgs s_law_next) (defBody s_law_next) (defScope s_law_next) .none kV_law_next dc_law_next pm_law_next an_law_next cd_law_next ct_law_next), sl_law_next⟩)
    (c_law_next : PySem.W.codeIn K cd_law_next "_law_next" = true)
    (kk_law_next : PySem.W.keepIn K (.ref a_law_next) = true)
    (l_law_way : K.lookup a_law_way = some ⟨oc_law_way, od_law_way, .func (PySem.W.fnOf "_law_way" "_law_way" (defArgs s_law_way) (defBody s_law_way) (defScope s_law_way) .none kV_law_way dc_law_way pm_law_way an_law_way cd_law_way ct_law_way), sl_law_way⟩)
    (c_law_way : PySem.W.codeIn K cd_law_way "_law_way" = true)
    (kk_law_way : PySem.W.keepIn K (.ref a_law_way) = true)
    (l_law_read : K.lookup a_law_read = some ⟨oc_law_read, od_law_read, .func (PySem.W.fnOf "_law_read" "_law_read" (defArgs s_law_read) (defBody s_law_read) (defScope s_law_read) .none kV_law_read dc_law_read pm_law_read an_law_read cd_law_read ct_law_read), sl_law_read⟩)
    (c_law_read : PySem.W.codeIn K cd_law_read "_law_read" = true)
    (kk_law_read : PySem.W.keepIn K (.ref a_law_read) = true)
    (l_law_is_meter : K.lookup a_law_is_meter = some ⟨oc_law_is_meter, od_law_is_meter, .func (PySem.W.fnOf "_law_is_meter" "_law_is_meter" (defArgs s_law_is_meter) (defBody s_law_is_meter) (defScope s_law_is_meter) .none kV_law_is_meter dc_law_is_meter pm_law_is_meter an_law_is_meter cd_law_is_meter ct_law_is_meter), sl_law_is_meter⟩)
    (c_law_is_meter : PySem.W.codeIn K cd_law_is_meter "_law_is_meter" = true)
    (kk_law_is_meter : PySem.W.keepIn K (.ref a_law_is_meter) = true)
    (l_law : K.lookup a_law = some ⟨oc_law, od_law, .func (PySem.W.fnOf "law" "law" (defArgs s_law) (defBody s_law) (defScope s_law) .none kV_law dc_law pm_law an_law cd_law ct_law), sl_law⟩)
    (c_law : PySem.W.codeIn K cd_law "law" = true)
    (kk_law : PySem.W.keepIn K (.ref a_law) = true)
    (pg_Machine : PySem.W.plainGet K c_Machine Str.empty = true)
    (hd_Machine : PySem.W.hasDictIn K c_Machine = true)
    (po_Machine : PySem.W.plainOver K c_Machine = true)
    (sa_Machine : PySem.W.findIn K (.ref c_Machine) "__setattr__" = some (some (.builtin "object.__setattr__")))
    (mi_Machine : PySem.W.makesIn K c_Machine = true)
    (kc_Machine : PySem.W.keepIn K (.ref c_Machine) = true)
    (fi_Machine : PySem.W.findIn K (.ref c_Machine) "__init__" = some (some (.ref a_Machine_init)))
    (if_Machine : PySem.W.isFn K (.ref a_Machine_init) = true)
    (nf_stands : PySem.W.findIn K (.ref c_Machine) "_stands" = some none)
    (nf_steps : PySem.W.findIn K (.ref c_Machine) "_steps" = some none)
    (nf_ends : PySem.W.findIn K (.ref c_Machine) "_ends" = some none)
    (pf_stands : PySem.W.findIn K (.ref c_Machine) "stands" = some (some (.ref q_stands)))
    (pt_stands : PySem.W.specialIn K (.ref q_stands) "__get__" = some (some (.builtin "property.__get__")))
    (pk_stands : PySem.W.takesIn K (.ref q_stands) = some true)
    (pr_stands : PySem.W.recIn K q_stands "property" = some (.ref a_Machine_stands :: rest_stands))
    (pf_steps : PySem.W.findIn K (.ref c_Machine) "steps" = some (some (.ref q_steps)))
    (pt_steps : PySem.W.specialIn K (.ref q_steps) "__get__" = some (some (.builtin "property.__get__")))
    (pk_steps : PySem.W.takesIn K (.ref q_steps) = some true)
    (pr_steps : PySem.W.recIn K q_steps "property" = some (.ref a_Machine_steps :: rest_steps))
    (x_i1_Machine : PySem.W.findIn K (.ref c_Machine) "__class__" = some (some (.builtin "object.__class__")))
    (x_i2_Machine : PySem.W.specialIn K (.builtin "object.__class__") "__get__" = some (some (.builtin "getset_descriptor.__get__")))
    (x_i3_Machine : PySem.W.takesIn K (.builtin "object.__class__") = some true)
    (x_i4_Machine : PySem.W.mroIn K c_Machine (.type "object") = some true)
    (x_j1_Machine : PySem.W.isClsIn K c_Machine = true)
    (x_j2_Machine : PySem.W.typeIn K (.ref c_Machine) = some (.type "type"))
    (x_j3_Machine : PySem.W.findIn K (.ref c_Machine) "__eq__" = some (some (.ref a_Machine_eq)))
    (x_j4_Machine : PySem.W.isFn K (.ref a_Machine_eq) = true)
    (pg_Meter : PySem.W.plainGet K c_Meter Str.empty = true)
    (hd_Meter : PySem.W.hasDictIn K c_Meter = true)
    (po_Meter : PySem.W.plainOver K c_Meter = true)
    (sa_Meter : PySem.W.findIn K (.ref c_Meter) "__setattr__" = some (some (.builtin "object.__setattr__")))
    (mi_Meter : PySem.W.makesIn K c_Meter = true)
    (kc_Meter : PySem.W.keepIn K (.ref c_Meter) = true)
    (fi_Meter : PySem.W.findIn K (.ref c_Meter) "__init__" = some (some (.ref a_Meter_init)))
    (if_Meter : PySem.W.isFn K (.ref a_Meter_init) = true)
    (nf_machine : PySem.W.findIn K (.ref c_Meter) "_machine" = some none)
    (nf_moves : PySem.W.findIn K (.ref c_Meter) "_moves" = some none)
    (nf_row : PySem.W.findIn K (.ref c_Meter) "_row" = some none)
    (nf_places : PySem.W.findIn K (.ref c_Meter) "_places" = some none)
    (pf_machine : PySem.W.findIn K (.ref c_Meter) "machine" = some (some (.ref q_machine)))
    (pt_machine : PySem.W.specialIn K (.ref q_machine) "__get__" = some (some (.builtin "property.__get__")))
    (pk_machine : PySem.W.takesIn K (.ref q_machine) = some true)
    (pr_machine : PySem.W.recIn K q_machine "property" = some (.ref a_Meter_machine :: rest_machine))
    (pf_row : PySem.W.findIn K (.ref c_Meter) "row" = some (some (.ref q_row)))
    (pt_row : PySem.W.specialIn K (.ref q_row) "__get__" = some (some (.builtin "property.__get__")))
    (pk_row : PySem.W.takesIn K (.ref q_row) = some true)
    (pr_row : PySem.W.recIn K q_row "property" = some (.ref a_Meter_row :: rest_row))
    (pf_stand : PySem.W.findIn K (.ref c_Meter) "stand" = some (some (.ref q_stand)))
    (pt_stand : PySem.W.specialIn K (.ref q_stand) "__get__" = some (some (.builtin "property.__get__")))
    (pk_stand : PySem.W.takesIn K (.ref q_stand) = some true)
    (pr_stand : PySem.W.recIn K q_stand "property" = some (.ref a_Meter_stand :: rest_stand))
    (pf_tally : PySem.W.findIn K (.ref c_Meter) "tally" = some (some (.ref q_tally)))
    (pt_tally : PySem.W.specialIn K (.ref q_tally) "__get__" = some (some (.builtin "property.__get__")))
    (pk_tally : PySem.W.takesIn K (.ref q_tally) = some true)
    (pr_tally : PySem.W.recIn K q_tally "property" = some (.ref a_Meter_tally :: rest_tally))
    (pf_span : PySem.W.findIn K (.ref c_Meter) "span" = some (some (.ref q_span)))
    (pt_span : PySem.W.specialIn K (.ref q_span) "__get__" = some (some (.builtin "property.__get__")))
    (pk_span : PySem.W.takesIn K (.ref q_span) = some true)
    (pr_span : PySem.W.recIn K q_span "property" = some (.ref a_Meter_span :: rest_span))
    (hm_Meter_read : PySem.W.findIn K (.ref c_Meter) "read" = some (some (.ref a_Meter_read)))
    (hn_Meter_read : PySem.W.isFn K (.ref a_Meter_read) = true)
    (hm_Meter_can : PySem.W.findIn K (.ref c_Meter) "can" = some (some (.ref a_Meter_can)))
    (hn_Meter_can : PySem.W.isFn K (.ref a_Meter_can) = true)
    (hm_Meter_undo : PySem.W.findIn K (.ref c_Meter) "undo" = some (some (.ref a_Meter_undo)))
    (hn_Meter_undo : PySem.W.isFn K (.ref a_Meter_undo) = true)
    (hm_Meter_copy : PySem.W.findIn K (.ref c_Meter) "copy" = some (some (.ref a_Meter_copy)))
    (hn_Meter_copy : PySem.W.isFn K (.ref a_Meter_copy) = true)
    (hm_Meter_len : PySem.W.findIn K (.ref c_Meter) "__len__" = some (some (.ref a_Meter_len)))
    (hn_Meter_len : PySem.W.isFn K (.ref a_Meter_len) = true)
    (xx_BadLetter : PySem.W.excIn K c_BadLetter [.type "ValueError", .type "Exception", .type "BaseException", .type "object"] "ValueError.__new__" = true)
    (xk_BadLetter : PySem.W.keepIn K (.ref c_BadLetter) = true)
    (xb_BadLetter : PySem.W.subIn K (.ref c_BadLetter) (.type "BaseException") = some true)
    (xt_BadLetter : PySem.W.typeIn K (.ref c_BadLetter) = some (.type "type"))
    (xi_BadLetter : PySem.W.isClsIn K c_BadLetter = true)
    (xs_BadLetter : PySem.W.subIn K (.ref c_BadLetter) (.ref c_BadLetter) = some true)
    (l_LETTERS : ∀ H : Hp, SqT K H a_LETTERS [V.str "a", V.str "b", V.str "c", V.str "d"]) : Txt K mg :=
  Txt.mk (K := K) (mg := mg)
    (a_Machine_init)
    (_)
    (fun_mk (st := s_Machine_init) l_Machine_init c_Machine_init kk_Machine_init)
    ((fun_mk (st := s_Machine_init) l_Machine_init c_Machine_init kk_Machine_init).binds (ps := ["self", "stands", "steps", "ends"]) bb_Machine_init)
    (kk_Machine_init)
    (a_Machine_stands)
    (_)
    (fun_mk (st := s_Machine_stands) l_Machine_stands c_Machine_stands kk_Machine_stands)
    ((fun_mk (st := s_Machine_stands) l_Machine_stands c_Machine_stands kk_Machine_stands).binds (ps := ["self"]) bb_Machine_stands)
    (kk_Machine_stands)
    (a_Machine_steps)
    (_)
    (fun_mk (st := s_Machine_steps) l_Machine_steps c_Machine_steps kk_Machine_steps)
    ((fun_mk (st := s_Machine_steps) l_Machine_steps c_Machine_steps kk_Machine_steps).binds (ps := ["self"]) bb_Machine_steps)
    (kk_Machine_steps)
    (a_Machine_eq)
    (_)
    (fun_mk (st := s_Machine_eq) l_Machine_eq c_Machine_eq kk_Machine_eq)
    ((fun_mk (st := s_Machine_eq) l_Machine_eq c_Machine_eq kk_Machine_eq).binds (ps := ["self", "other"]) bb_Machine_eq)
    (kk_Machine_eq)
    (a_is_whole_number)
    (_)
    (fun_mk (st := s_is_whole_number) l_is_whole_number c_is_whole_number kk_is_whole_number)
    ((fun_mk (st := s_is_whole_number) l_is_whole_number c_is_whole_number kk_is_whole_number).binds (ps := ["value"]) bb_is_whole_number)
    (kk_is_whole_number)
    (PySem.W.mg_of X G g_is_whole_number)
    (a_is_integer_between)
    (_)
    (fun_mk (st := s_is_integer_between) l_is_integer_between c_is_integer_between kk_is_integer_between)
    ((fun_mk (st := s_is_integer_between) l_is_integer_between c_is_integer_between kk_is_integer_between).binds (ps := ["value", "least", "most"]) bb_is_integer_between)
    (kk_is_integer_between)
    (PySem.W.mg_of X G g_is_integer_between)
    (a_is_stand)
    (_)
    (fun_mk (st := s_is_stand) l_is_stand c_is_stand kk_is_stand)
    ((fun_mk (st := s_is_stand) l_is_stand c_is_stand kk_is_stand).binds (ps := ["stands", "value"]) bb_is_stand)
    (kk_is_stand)
    (PySem.W.mg_of X G g_is_stand)
    (a_check_stands)
    (_)
    (fun_mk (st := s_check_stands) l_check_stands c_check_stands kk_check_stands)
    ((fun_mk (st := s_check_stands) l_check_stands c_check_stands kk_check_stands).binds (ps := ["stands"]) bb_check_stands)
    (kk_check_stands)
    (PySem.W.mg_of X G g_check_stands)
    (a_is_step)
    (_)
    (fun_mk (st := s_is_step) l_is_step c_is_step kk_is_step)
    ((fun_mk (st := s_is_step) l_is_step c_is_step kk_is_step).binds (ps := ["stands", "value"]) bb_is_step)
    (kk_is_step)
    (PySem.W.mg_of X G g_is_step)
    (a_check_steps)
    (_)
    (fun_mk (st := s_check_steps) l_check_steps c_check_steps kk_check_steps)
    ((fun_mk (st := s_check_steps) l_check_steps c_check_steps kk_check_steps).binds (ps := ["stands", "steps"]) bb_check_steps)
    (kk_check_steps)
    (PySem.W.mg_of X G g_check_steps)
    (a_is_ascending)
    (_)
    (fun_mk (st := s_is_ascending) l_is_ascending c_is_ascending kk_is_ascending)
    ((fun_mk (st := s_is_ascending) l_is_ascending c_is_ascending kk_is_ascending).binds (ps := ["value", "many"]) bb_is_ascending)
    (kk_is_ascending)
    (PySem.W.mg_of X G g_is_ascending)
    (a_check_ends)
    (_)
    (fun_mk (st := s_check_ends) l_check_ends c_check_ends kk_check_ends)
    ((fun_mk (st := s_check_ends) l_check_ends c_check_ends kk_check_ends).binds (ps := ["stands", "ends"]) bb_check_ends)
    (kk_check_ends)
    (PySem.W.mg_of X G g_check_ends)
    (a_check_machine)
    (_)
    (fun_mk (st := s_check_machine) l_check_machine c_check_machine kk_check_machine)
    ((fun_mk (st := s_check_machine) l_check_machine c_check_machine kk_check_machine).binds (ps := ["value"]) bb_check_machine)
    (kk_check_machine)
    (PySem.W.mg_of X G g_check_machine)
    (a_moves_of)
    (_)
    (fun_mk (st := s_moves_of) l_moves_of c_moves_of kk_moves_of)
    ((fun_mk (st := s_moves_of) l_moves_of c_moves_of kk_moves_of).binds (ps := ["machine"]) bb_moves_of)
    (kk_moves_of)
    (PySem.W.mg_of X G g_moves_of)
    (a_Meter_init)
    (_)
    (fun_mk (st := s_Meter_init) l_Meter_init c_Meter_init kk_Meter_init)
    ((fun_mk (st := s_Meter_init) l_Meter_init c_Meter_init kk_Meter_init).binds (ps := ["self", "machine"]) bb_Meter_init)
    (kk_Meter_init)
    (a_Meter_machine)
    (_)
    (fun_mk (st := s_Meter_machine) l_Meter_machine c_Meter_machine kk_Meter_machine)
    ((fun_mk (st := s_Meter_machine) l_Meter_machine c_Meter_machine kk_Meter_machine).binds (ps := ["self"]) bb_Meter_machine)
    (kk_Meter_machine)
    (a_Meter_row)
    (_)
    (fun_mk (st := s_Meter_row) l_Meter_row c_Meter_row kk_Meter_row)
    ((fun_mk (st := s_Meter_row) l_Meter_row c_Meter_row kk_Meter_row).binds (ps := ["self"]) bb_Meter_row)
    (kk_Meter_row)
    (a_Meter_stand)
    (_)
    (fun_mk (st := s_Meter_stand) l_Meter_stand c_Meter_stand kk_Meter_stand)
    ((fun_mk (st := s_Meter_stand) l_Meter_stand c_Meter_stand kk_Meter_stand).binds (ps := ["self"]) bb_Meter_stand)
    (kk_Meter_stand)
    (a_Meter_tally)
    (_)
    (fun_mk (st := s_Meter_tally) l_Meter_tally c_Meter_tally kk_Meter_tally)
    ((fun_mk (st := s_Meter_tally) l_Meter_tally c_Meter_tally kk_Meter_tally).binds (ps := ["self"]) bb_Meter_tally)
    (kk_Meter_tally)
    (a_Meter_span)
    (_)
    (fun_mk (st := s_Meter_span) l_Meter_span c_Meter_span kk_Meter_span)
    ((fun_mk (st := s_Meter_span) l_Meter_span c_Meter_span kk_Meter_span).binds (ps := ["self"]) bb_Meter_span)
    (kk_Meter_span)
    (a_Meter_read)
    (_)
    (fun_mk (st := s_Meter_read) l_Meter_read c_Meter_read kk_Meter_read)
    ((fun_mk (st := s_Meter_read) l_Meter_read c_Meter_read kk_Meter_read).binds (ps := ["self", "letter"]) bb_Meter_read)
    (kk_Meter_read)
    (a_Meter_can)
    (_)
    (fun_mk (st := s_Meter_can) l_Meter_can c_Meter_can kk_Meter_can)
    ((fun_mk (st := s_Meter_can) l_Meter_can c_Meter_can kk_Meter_can).binds (ps := ["self"]) bb_Meter_can)
    (kk_Meter_can)
    (a_Meter_undo)
    (_)
    (fun_mk (st := s_Meter_undo) l_Meter_undo c_Meter_undo kk_Meter_undo)
    ((fun_mk (st := s_Meter_undo) l_Meter_undo c_Meter_undo kk_Meter_undo).binds (ps := ["self"]) bb_Meter_undo)
    (kk_Meter_undo)
    (a_Meter_copy)
    (_)
    (fun_mk (st := s_Meter_copy) l_Meter_copy c_Meter_copy kk_Meter_copy)
    ((fun_mk (st := s_Meter_copy) l_Meter_copy c_Meter_copy kk_Meter_copy).binds (ps := ["self"]) bb_Meter_copy)
    (kk_Meter_copy)
    (a_Meter_len)
    (_)
    (fun_mk (st := s_Meter_len) l_Meter_len c_Meter_len kk_Meter_len)
    ((fun_mk (st := s_Meter_len) l_Meter_len c_Meter_len kk_Meter_len).binds (ps := ["self"]) bb_Meter_len)
    (kk_Meter_len)
    (a_law_taken)
    (_)
    (fun_mk (st := s_law_taken) l_law_taken c_law_taken kk_law_taken)
    ((fun_mk (st := s_law_taken) l_law_taken c_law_taken kk_law_taken).binds (ps := ["_law_row", "_law_many"]) bb_law_taken)
    (kk_law_taken)
    (PySem.W.mg_of X G g_law_taken)
    (a_law_parts)
    (_)
    (fun_mk (st := s_law_parts) l_law_parts c_law_parts kk_law_parts)
    ((fun_mk (st := s_law_parts) l_law_parts c_law_parts kk_law_parts).binds (ps := ["_law_row", "_law_stands", "_law_size"]) bb_law_parts)
    (kk_law_parts)
    (PySem.W.mg_of X G g_law_parts)
    (a_law_machine)
    (_)
    (fun_mk (st := s_law_machine) l_law_machine c_law_machine kk_law_machine)
    ((fun_mk (st := s_law_machine) l_law_machine c_law_machine kk_law_machine).binds (ps := ["_law_d"]) bb_law_machine)
    (kk_law_machine)
    (PySem.W.mg_of X G g_law_machine)
    (a_law_next)
    (_)
    (fun_mk (st := s_law_next) l_law_next c_law_next kk_law_next)
    ((fun_mk (st := s_law_next) l_law_next c_law_next kk_law_next).binds (ps := ["_law_d", "_law_stand"]) bb_law_next)
    (kk_law_next)
    (PySem.W.mg_of X G g_law_next)
    (a_law_way)
    (_)
    (fun_mk (st := s_law_way) l_law_way c_law_way kk_law_way)
    ((fun_mk (st := s_law_way) l_law_way c_law_way kk_law_way).binds (ps := ["_law_d", "_law_word", "_law_stand"]) bb_law_way)
    (kk_law_way)
    (PySem.W.mg_of X G g_law_way)
    (a_law_read)
    (_)
    (fun_mk (st := s_law_read) l_law_read c_law_read kk_law_read)
    ((fun_mk (st := s_law_read) l_law_read c_law_read kk_law_read).binds (ps := ["_law_meter", "_law_letter"]) bb_law_read)
    (kk_law_read)
    (PySem.W.mg_of X G g_law_read)
    (a_law_is_meter)
    (_)
    (fun_mk (st := s_law_is_meter) l_law_is_meter c_law_is_meter kk_law_is_meter)
    ((fun_mk (st := s_law_is_meter) l_law_is_meter c_law_is_meter kk_law_is_meter).binds (ps := ["_law_meter", "_law_d", "_law_word"]) bb_law_is_meter)
    (kk_law_is_meter)
    (PySem.W.mg_of X G g_law_is_meter)
    (a_law)
    (_)
    (fun_mk (st := s_law) l_law c_law kk_law)
    ((fun_mk (st := s_law) l_law c_law kk_law).binds (ps := ["_law_script"]) bb_law)
    (kk_law)
    (PySem.W.mg_of X G g_law)
    (c_Machine)
    (⟨pg_Machine, hd_Machine, po_Machine, sa_Machine⟩)
    (PySem.W.mg_of X G g_Machine)
    (⟨mi_Machine, fi_Machine, if_Machine, kc_Machine⟩)
    (nf_stands)
    (nf_steps)
    (nf_ends)
    (q_stands)
    (⟨pf_stands, pt_stands, pk_stands, ⟨_, pr_stands⟩⟩)
    (q_steps)
    (⟨pf_steps, pt_steps, pk_steps, ⟨_, pr_steps⟩⟩)
    (x_i1_Machine)
    (x_i2_Machine)
    (x_i3_Machine)
    (x_i4_Machine)
    (x_j1_Machine)
    (x_j2_Machine)
    (x_j3_Machine)
    (x_j4_Machine)
    (c_Meter)
    (⟨pg_Meter, hd_Meter, po_Meter, sa_Meter⟩)
    (PySem.W.mg_of X G g_Meter)
    (⟨mi_Meter, fi_Meter, if_Meter, kc_Meter⟩)
    (nf_machine)
    (nf_moves)
    (nf_row)
    (nf_places)
    (q_machine)
    (⟨pf_machine, pt_machine, pk_machine, ⟨_, pr_machine⟩⟩)
    (q_row)
    (⟨pf_row, pt_row, pk_row, ⟨_, pr_row⟩⟩)
    (q_stand)
    (⟨pf_stand, pt_stand, pk_stand, ⟨_, pr_stand⟩⟩)
    (q_tally)
    (⟨pf_tally, pt_tally, pk_tally, ⟨_, pr_tally⟩⟩)
    (q_span)
    (⟨pf_span, pt_span, pk_span, ⟨_, pr_span⟩⟩)
    (⟨hm_Meter_read, hn_Meter_read, kk_Meter_read⟩)
    (⟨hm_Meter_can, hn_Meter_can, kk_Meter_can⟩)
    (⟨hm_Meter_undo, hn_Meter_undo, kk_Meter_undo⟩)
    (⟨hm_Meter_copy, hn_Meter_copy, kk_Meter_copy⟩)
    (⟨hm_Meter_len, hn_Meter_len, kk_Meter_len⟩)
    (c_BadLetter)
    (PySem.W.mg_of X G g_BadLetter)
    (xx_BadLetter)
    (xk_BadLetter)
    (xb_BadLetter)
    (xt_BadLetter)
    (exc_self xb_BadLetter xi_BadLetter xt_BadLetter xs_BadLetter)
    (.int 8 t_MOST_STANDS)
    (PySem.W.mg_of X G g_MOST_STANDS)
    (⟨_, rfl⟩)
    (.int 1000000000000000000000000000000 t_MOST_GAIN)
    (PySem.W.mg_of X G g_MOST_GAIN)
    (⟨_, rfl⟩)
    (a_LETTERS)
    (PySem.W.mg_of X G g_LETTERS)
    (rfl)
    (l_LETTERS)
    (PySem.W.mg_none_of X G zz_bool)
    (PySem.W.mg_none_of X G zz_enumerate)
    (PySem.W.mg_none_of X G zz_int)
    (PySem.W.mg_none_of X G zz_isinstance)
    (PySem.W.mg_none_of X G zz_len)
    (PySem.W.mg_none_of X G zz_list)
    (PySem.W.mg_none_of X G zz_max)
    (PySem.W.mg_none_of X G zz_min)
    (PySem.W.mg_none_of X G zz_range)
    (PySem.W.mg_none_of X G zz_sorted)
    (PySem.W.mg_none_of X G zz_str)
    (PySem.W.mg_none_of X G zz_tuple)
    (fun s v => .of_eq rfl)
theorem all_mk {l : PySem.W.OpenLaw} {w : World} {K : PySem.W.Frag} {mg : Str → Option Value} {fa : Addr} (T : Txt K mg) (hfa : mg "law" = some (.ref fa)) :
    ∃ fd : FuncData, (∀ (s : Shared) (v : Value), BindsTo s fd ⟨[v], []⟩ [("_law_script", v)]) ∧ ∀ base : Heap, K.In base → base.Ns mainGlobals mg → FnOk l.prog w K mg base (L2.CX l.prog w) 30 fa fd ["_law_script"] (sp_law K) := by
  have e := hfa.symm.trans T.m_law
  cases e
  exact ⟨T.fd_law, T.bs_law, fun _ _ _ => ok_law T⟩
/-! ### the head by facts: the names that the law comes to, read off the run's end -/
section
open He
theorem map_join {α β γ δ : Type} {o : Option α} {a : α → β} {b : α → γ} {c : α → δ} {A : β} {B : γ} {C : δ} (h1 : o.map (fun x => a x) = some A) (h2 : o.map (fun x => b x) = some B) (h3 : o.map (fun x => c x) = some C) : o.map (fun x => (a x, b x, c x)) = some (A, B, C) := by
  cases o with
  | none => cases h1
  | some x =>
    have e1 : a x = A := Option.some.inj h1
    have e2 : b x = B := Option.some.inj h2
    have e3 : c x = C := Option.some.inj h3
    show some (a x, b x, c x) = _
    rw [e1, e2, e3]
def asN (g : Addr → Option Obj) (names : List Str) : List Addr := names.filterMap fun x => match PySem.W.nsIn (frG g [mainGlobals]) mainGlobals x with
  | some (some (.ref a)) => some a
  | _ => none
/-- what a function, a class, a table, a property names: a code object's own things are not looked at -/
def refsS (o : Obj) : List Addr := match o.data with
  | .seq its _ => its.toList.flatMap refV
  | .dict es _ => es.toList.flatMap fun e => refV e.val
  | .func fd => refV fd.code
  | .cls cd => cd.ns :: cd.mro.flatMap refV
  | .fields vs => (match o.cls with
    | .type c => (match decide (c = "property") with
      | true => vs.toList.flatMap refV
      | false => [])
    | _ => [])
  | _ => []
def newS (g : Addr → Option Obj) (as : List Addr) : List Addr := as.flatMap fun a => match g a with
  | some o => refsS o
  | none => []
/-- what is new at each step alone goes on -/
def grN (g : Addr → Option Obj) : Nat → List Addr → List Addr
  | 0, as => as
  | n + 1, as => as ++ grN g n (newS g as)
def frK (names : List Str) (n : Nat) (g : Addr → Option Obj) : PySem.W.Frag := frG g (mainGlobals :: cStatics :: grN g n (asN g names))
/-- a def of the text: its function's address as the written part tells it, what it must hold -/
structure FnA where
  ad : PySem.W.Frag → Addr
  name : Str
  qual : Str
  params : Arguments
  body : List Stmt
  scope : Scope
def FnSaid (K : PySem.W.Frag) (d : FnA) : Prop := ∃ oc od osl kV doc pm an cdv ct, K.lookup (d.ad K) = some ⟨oc, od, .func (PySem.W.fnOf d.name d.qual d.params d.body d.scope .none kV doc pm an cdv ct), osl⟩ ∧ PySem.W.codeIn K cdv d.qual = true
abbrev FnT : Type := Str × Str × Arguments × FuncBody × Scope × Addr × List (Str × Addr) × Value × Addr × Bool
def seenA (K : PySem.W.Frag) (d : FnA) : Option FnT := (K.lookup (d.ad K)).bind fun o => match o.data with
  | .func u => some (u.name, u.qualname, u.params, u.body, u.scope, u.globals, u.closure, u.defaults, u.builtins, PySem.W.codeIn K u.code d.qual)
  | _ => none
def wishA (d : FnA) : Option FnT := some (d.name, d.qual, d.params, .stmts d.body, d.scope, mainGlobals, [], .none, builtinsNs, true)
theorem seenA_ok {K : PySem.W.Frag} {d : FnA} (e : seenA K d = wishA d) : FnSaid K d := by
  obtain ⟨o, ho, e2⟩ := Option.bind_eq_some_iff.mp e
  obtain ⟨oc, od, dt, osl⟩ := o
  cases dt with
  | func u =>
    obtain ⟨u1, u2, u3, u4, u5, u6, u7, u8, u9, u10, u11, u12, u13, u14, u15⟩ := u
    have e3 := Option.some.inj e2
    simp only [Prod.mk.injEq] at e3
    obtain ⟨h1, h2, h3, h4, h5, h6, h7, h8, h9, h10⟩ := e3
    subst h1 h2 h3 h4 h5 h6 h7 h8 h9
    exact ⟨oc, od, osl, u9, u10, u11, u12, u13, u14, ho, h10⟩
  | _ => cases e2
abbrev AlF : Type := Bool × List (Option FnT)
def obsF (names : List Str) (n : Nat) (fn : List FnA) (ex : PySem.W.Frag → List Bool) (g : Addr → Option Obj) : AlF := ((ex (frK names n g)).all (fun b => b), fn.map (seenA (frK names n g)))
def valF (fn : List FnA) : AlF := (true, fn.map wishA)
theorem said_of {names : List Str} {n : Nat} {fn : List FnA} {ex : PySem.W.Frag → List Bool} {g : Addr → Option Obj} (e : obsF names n fn ex g = valF fn) : (ex (frK names n g)).all (fun b => b) = true ∧ ∀ (i : Nat) (d : FnA), fn[i]? = some d → FnSaid (frK names n g) d := by
  refine ⟨congrArg (fun z : AlF => z.1) e, fun i d h => ?_⟩
  have e3 : fn.map (seenA (frK names n g)) = fn.map wishA := congrArg (fun z : AlF => z.2) e
  have e2 : (fn.map (seenA (frK names n g)))[i]? = (fn.map wishA)[i]? := by rw [e3]
  rw [List.getElem?_map, List.getElem?_map, h] at e2
  exact seenA_ok (Option.some.inj e2)
def hookF (names : List Str) (n : Nat) (fn : List FnA) (ex : PySem.W.Frag → List Bool) : PySem.W.Hook where
  α := AlF
  obs := fun s => obsF names n fn ex s.heap.get?
  val := fun _ => valF fn
  says := fun _ h => ∃ K : PySem.W.Frag, K.In h ∧ (ex K).all (fun b => b) = true ∧ ∀ (i : Nat) (d : FnA), fn[i]? = some d → FnSaid K d
  of := fun _ _ e => ⟨_, frG_in, said_of e⟩
  keeps := fun _ _ _ ⟨K, hK, c⟩ k => ⟨K, PySem.W.Frag.In.keeps hK k, c⟩
theorem row_ok {l : List Bool} (h : l.all (fun b => b) = true) (i : Nat) {b : Bool} (e : l[i]? = some b) : b = true := List.all_eq_true.mp h b (List.mem_of_getElem? e)
theorem int_k {K : PySem.W.Frag} {x : Str} {i : Int} (c : (Fa.int x i).ok K = true) : ∃ t, PySem.W.nsIn K mainGlobals x = some (some (.int i t)) := by
  have c2 : (match PySem.W.nsIn K mainGlobals x with
    | some (some (.int j _)) => decide (j = i)
    | _ => false) = true := c
  cases e : PySem.W.nsIn K mainGlobals x with
  | none => rw [e] at c2; cases c2
  | some o =>
    rw [e] at c2
    cases o with
    | none => cases c2
    | some v =>
      cases v with
      | int j t =>
        have ej : j = i := of_decide_eq_true c2
        rw [ej]
        exact ⟨t, rfl⟩
      | _ => cases c2
theorem str_k {K : PySem.W.Frag} {x z : Str} (c : (Fa.str x z).ok K = true) : ∃ t, PySem.W.nsIn K mainGlobals x = some (some (.str z t)) := by
  have c2 : (match PySem.W.nsIn K mainGlobals x with
    | some (some (.str y _)) => decide (y = z)
    | _ => false) = true := c
  cases e : PySem.W.nsIn K mainGlobals x with
  | none => rw [e] at c2; cases c2
  | some o =>
    rw [e] at c2
    cases o with
    | none => cases c2
    | some v =>
      cases v with
      | str y t =>
        have ej : y = z := of_decide_eq_true c2
        rw [ej]
        exact ⟨t, rfl⟩
      | _ => cases c2
/-- the getter's function of a property, the base behind an exception's class -/
def pgA (K : PySem.W.Frag) (C p : Str) : Addr := match PySem.W.recIn K (ma K (ga K C) p) "property" with
  | some (.ref a :: _) => a
  | _ => 0
def pgB (K : PySem.W.Frag) (C p : Str) : Bool := match PySem.W.recIn K (ma K (ga K C) p) "property" with
  | some (.ref _ :: _) => true
  | _ => false
theorem pgB_ok {K : PySem.W.Frag} {C p : Str} (h : pgB K C p = true) : ∃ rest, PySem.W.recIn K (ma K (ga K C) p) "property" = some (.ref (pgA K C p) :: rest) := by
  unfold pgB at h
  unfold pgA
  cases e : PySem.W.recIn K (ma K (ga K C) p) "property" with
  | none => rw [e] at h; cases h
  | some l =>
    cases l with
    | nil => rw [e] at h; cases h
    | cons v r =>
      cases v with
      | ref a => exact ⟨r, rfl⟩
      | _ => rw [e] at h; cases h
def fvB (K : PySem.W.Frag) (C : Addr) : Bool := match PySem.W.findCls K (.ref C) (.type "type") "__init__" with
  | some (.val (.builtin b)) => decide (b = "ValueError.__init__")
  | _ => false
theorem fvB_ok {K : PySem.W.Frag} {C : Addr} (h : fvB K C = true) : PySem.W.findCls K (.ref C) (.type "type") "__init__" = some (.val (.builtin "ValueError.__init__")) := by
  unfold fvB at h
  split at h
  · rename_i b e
    rw [e, of_decide_eq_true h]
  · cases h
def exclB (K : PySem.W.Frag) (C : Addr) : Bool := match K.lookup C with
  | some ⟨.type t, _, .cls cd, sl⟩ => (match cd.mro, sl.toList with
    | .ref D :: bm, [_, _, _, _, some (.builtin b), _] => decide (t = "type") && (decide (D = C) && (decide (b = "ValueError.__new__") && (decide (cd.hasDel = false) && (decide (cd.hasDict = true) && PySem.HandSPX.refsVE bm))))
    | _, _ => false)
  | _ => false
theorem exclB_ok {K : PySem.W.Frag} {C : Addr} (h : exclB K C = true) : ∃ nm q N bs bm sn sub ab col dd k0 k1 k2 k3 k5, K.lookup C = some (excClassObj nm q C N bs bm true sn sub ab col dd k0 k1 k2 k3 k5 "ValueError.__new__") ∧ PySem.HandSPX.refsVE bm = true := by
  unfold exclB at h
  split at h
  · rename_i t dd cd sl ho
    split at h
    · rename_i D bm k0 k1 k2 k3 b k5 hm hs
      obtain ⟨h1, h⟩ := ba h
      obtain ⟨h2, h⟩ := ba h
      obtain ⟨h3, h⟩ := ba h
      obtain ⟨h4, h⟩ := ba h
      obtain ⟨h5, h6⟩ := ba h
      obtain ⟨nm, bs, mro, ns, qn, hd, sn, sub, ab, col, del⟩ := cd
      have q1 := of_decide_eq_true h1
      have q2 := of_decide_eq_true h2
      have q3 := of_decide_eq_true h3
      have q4 : del = false := of_decide_eq_true h4
      have q5 : hd = true := of_decide_eq_true h5
      have q6 : mro = .ref D :: bm := hm
      clear h1 h2 h3 h4 h5 hm
      have hsl : sl = #[k0, k1, k2, k3, some (.builtin b), k5] := by
        obtain ⟨l⟩ := sl
        have hs : l = [k0, k1, k2, k3, some (.builtin b), k5] := hs
        rw [hs]
      clear hs
      subst q1 q2 q3 q4 q5 q6 hsl
      exact ⟨nm, qn, ns, bs, bm, sn, sub, ab, col, dd, k0, k1, k2, k3, k5, ho, h6⟩
    · cases h
  · cases h
def nm_0 : List Str := ["is_whole_number", "is_integer_between", "_is_stand", "_check_stands", "_is_step", "_check_steps", "is_ascending", "_check_ends", "check_machine", "moves_of", "_law_taken", "_law_parts", "_law_machine", "_law_next", "_law_way", "_law_read", "_law_is_meter", "law", "Machine", "Meter", "BadLetter", "LETTERS"]
def nms : List Str := nm_0
def fd_Machine_init : FnA := ⟨fun K => fAd K ("Machine", some "__init__"), "__init__", "Machine.__init__", defArgs s_Machine_init, defBody s_Machine_init, defScope s_Machine_init⟩
def fd_Machine_stands : FnA := ⟨fun K => pgA K "Machine" "stands", "stands", "Machine.stands", defArgs s_Machine_stands, defBody s_Machine_stands, defScope s_Machine_stands⟩
def fd_Machine_steps : FnA := ⟨fun K => pgA K "Machine" "steps", "steps", "Machine.steps", defArgs s_Machine_steps, defBody s_Machine_steps, defScope s_Machine_steps⟩
def fd_Machine_eq : FnA := ⟨fun K => fAd K ("Machine", some "__eq__"), "__eq__", "Machine.__eq__", defArgs s_Machine_eq, defBody s_Machine_eq, defScope s_Machine_eq⟩
def fd_is_whole_number : FnA := ⟨fun K => fAd K ("is_whole_number", none), "is_whole_number", "is_whole_number", defArgs s_is_whole_number, defBody s_is_whole_number, defScope s_is_whole_number⟩
def fd_is_integer_between : FnA := ⟨fun K => fAd K ("is_integer_between", none), "is_integer_between", "is_integer_between", defArgs s_is_integer_between, defBody s_is_integer_between, defScope s_is_integer_between⟩
def fd_is_stand : FnA := ⟨fun K => fAd K ("_is_stand", none), "_is_stand", "_is_stand", defArgs s_is_stand, defBody s_is_stand, defScope s_is_stand⟩
def fd_check_stands : FnA := ⟨fun K => fAd K ("_check_stands", none), "_check_stands", "_check_stands", defArgs s_check_stands, defBody s_check_stands, defScope s_check_stands⟩
def fd_is_step : FnA := ⟨fun K => fAd K ("_is_step", none), "_is_step", "_is_step", defArgs s_is_step, defBody s_is_step, defScope s_is_step⟩
def fd_check_steps : FnA := ⟨fun K => fAd K ("_check_steps", none), "_check_steps", "_check_steps", defArgs s_check_steps, defBody s_check_steps, defScope s_check_steps⟩
def fd_is_ascending : FnA := ⟨fun K => fAd K ("is_ascending", none), "is_ascending", "is_ascending", defArgs s_is_ascending, defBody s_is_ascending, defScope s_is_ascending⟩
def fd_check_ends : FnA := ⟨fun K => fAd K ("_check_ends", none), "_check_ends", "_check_ends", defArgs s_check_ends, defBody s_check_ends, defScope s_check_ends⟩
def fd_check_machine : FnA := ⟨fun K => fAd K ("check_machine", none), "check_machine", "check_machine", defArgs s_check_machine, defBody s_check_machine, defScope s_check_machine⟩
def fd_moves_of : FnA := ⟨fun K => fAd K ("moves_of", none), "moves_of", "moves_of", defArgs s_moves_of, defBody s_moves_of, defScope s_moves_of⟩
def fd_Meter_init : FnA := ⟨fun K => fAd K ("Meter", some "__init__"), "__init__", "Meter.__init__", defArgs s_Meter_init, defBody s_Meter_init, defScope s_Meter_init⟩
def fd_Meter_machine : FnA := ⟨fun K => pgA K "Meter" "machine", "machine", "Meter.machine", defArgs s_Meter_machine, defBody s_Meter_machine, defScope s_Meter_machine⟩
def fd_Meter_row : FnA := ⟨fun K => pgA K "Meter" "row", "row", "Meter.row", defArgs s_Meter_row, defBody s_Meter_row, defScope s_Meter_row⟩
def fd_Meter_stand : FnA := ⟨fun K => pgA K "Meter" "stand", "stand", "Meter.stand", defArgs s_Meter_stand, defBody s_Meter_stand, defScope s_Meter_stand⟩
def fd_Meter_tally : FnA := ⟨fun K => pgA K "Meter" "tally", "tally", "Meter.tally", defArgs s_Meter_tally, defBody s_Meter_tally, defScope s_Meter_tally⟩
def fd_Meter_span : FnA := ⟨fun K => pgA K "Meter" "span", "span", "Meter.span", defArgs s_Meter_span, defBody s_Meter_span, defScope s_Meter_span⟩
def fd_Meter_read : FnA := ⟨fun K => fAd K ("Meter", some "read"), "read", "Meter.read", defArgs s_Meter_read, defBody s_Meter_read, defScope s_Meter_read⟩
def fd_Meter_can : FnA := ⟨fun K => fAd K ("Meter", some "can"), "can", "Meter.can", defArgs s_Meter_can, defBody s_Meter_can, defScope s_Meter_can⟩
def fd_Meter_undo : FnA := ⟨fun K => fAd K ("Meter", some "undo"), "undo", "Meter.undo", defArgs s_Meter_undo, defBody s_Meter_undo, defScope s_Meter_undo⟩
def fd_Meter_copy : FnA := ⟨fun K => fAd K ("Meter", some "copy"), "copy", "Meter.copy", defArgs s_Meter_copy, defBody s_Meter_copy, defScope s_Meter_copy⟩
def fd_Meter_len : FnA := ⟨fun K => fAd K ("Meter", some "__len__"), "__len__", "Meter.__len__", defArgs s_Meter_len, defBody s_Meter_len, defScope s_Meter_len⟩
def fd_law_taken : FnA := ⟨fun K => fAd K ("_law_taken", none), "_law_taken", "_law_taken", defArgs s_law_taken, defBody s_law_taken, defScope s_law_taken⟩
def fd_law_parts : FnA := ⟨fun K => fAd K ("_law_parts", none), "_law_parts", "_law_parts", defArgs s_law_parts, defBody s_law_parts, defScope s_law_parts⟩
def fd_law_machine : FnA := ⟨fun K => fAd K ("_law_machine", none), "_law_machine", "_law_machine", defArgs s_law_machine, defBody s_law_machine, defScope s_law_machine⟩
def fd_law_next : FnA := ⟨fun K => fAd K ("_law_next", none), "_law_next", "_law_next", defArgs s_law_next, defBody s_law_next, defScope s_law_next⟩
def fd_law_way : FnA := ⟨fun K => fAd K ("_law_way", none), "_law_way", "_law_way", defArgs s_law_way, defBody s_law_way, defScope s_law_way⟩
def fd_law_read : FnA := ⟨fun K => fAd K ("_law_read", none), "_law_read", "_law_read", defArgs s_law_read, defBody s_law_read, defScope s_law_read⟩
def fd_law_is_meter : FnA := ⟨fun K => fAd K ("_law_is_meter", none), "_law_is_meter", "_law_is_meter", defArgs s_law_is_meter, defBody s_law_is_meter, defScope s_law_is_meter⟩
def fd_law : FnA := ⟨fun K => fAd K ("law", none), "law", "law", defArgs s_law, defBody s_law, defScope s_law⟩
def fn_0 : List FnA := [fd_Machine_init, fd_Machine_stands, fd_Machine_steps, fd_Machine_eq, fd_is_whole_number, fd_is_integer_between, fd_is_stand, fd_check_stands, fd_is_step, fd_check_steps, fd_is_ascending, fd_check_ends, fd_check_machine, fd_moves_of, fd_Meter_init, fd_Meter_machine, fd_Meter_row, fd_Meter_stand, fd_Meter_tally, fd_Meter_span, fd_Meter_read, fd_Meter_can, fd_Meter_undo, fd_Meter_copy, fd_Meter_len, fd_law_taken, fd_law_parts, fd_law_machine, fd_law_next, fd_law_way]
def fn_1 : List FnA := [fd_law_read, fd_law_is_meter, fd_law]
def fns : List FnA := fn_0 ++ fn_1
def ex_0 (K : PySem.W.Frag) : List Bool := [
    decide (PySem.W.nsIn K mainGlobals "is_whole_number" = some (some (.ref (fAd K ("is_whole_number", none))))),
    decide (PySem.W.nsIn K mainGlobals "is_integer_between" = some (some (.ref (fAd K ("is_integer_between", none))))),
    decide (PySem.W.nsIn K mainGlobals "_is_stand" = some (some (.ref (fAd K ("_is_stand", none))))),
    decide (PySem.W.nsIn K mainGlobals "_check_stands" = some (some (.ref (fAd K ("_check_stands", none))))),
    decide (PySem.W.nsIn K mainGlobals "_is_step" = some (some (.ref (fAd K ("_is_step", none))))),
    decide (PySem.W.nsIn K mainGlobals "_check_steps" = some (some (.ref (fAd K ("_check_steps", none))))),
    decide (PySem.W.nsIn K mainGlobals "is_ascending" = some (some (.ref (fAd K ("is_ascending", none))))),
    decide (PySem.W.nsIn K mainGlobals "_check_ends" = some (some (.ref (fAd K ("_check_ends", none))))),
    decide (PySem.W.nsIn K mainGlobals "check_machine" = some (some (.ref (fAd K ("check_machine", none))))),
    decide (PySem.W.nsIn K mainGlobals "moves_of" = some (some (.ref (fAd K ("moves_of", none))))),
    decide (PySem.W.nsIn K mainGlobals "_law_taken" = some (some (.ref (fAd K ("_law_taken", none))))),
    decide (PySem.W.nsIn K mainGlobals "_law_parts" = some (some (.ref (fAd K ("_law_parts", none))))),
    decide (PySem.W.nsIn K mainGlobals "_law_machine" = some (some (.ref (fAd K ("_law_machine", none))))),
    decide (PySem.W.nsIn K mainGlobals "_law_next" = some (some (.ref (fAd K ("_law_next", none))))),
    decide (PySem.W.nsIn K mainGlobals "_law_way" = some (some (.ref (fAd K ("_law_way", none))))),
    decide (PySem.W.nsIn K mainGlobals "_law_read" = some (some (.ref (fAd K ("_law_read", none))))),
    decide (PySem.W.nsIn K mainGlobals "_law_is_meter" = some (some (.ref (fAd K ("_law_is_meter", none))))),
    decide (PySem.W.nsIn K mainGlobals "law" = some (some (.ref (fAd K ("law", none))))),
    decide (PySem.W.nsIn K mainGlobals "Machine" = some (some (.ref (ga K "Machine")))),
    decide (PySem.W.nsIn K mainGlobals "Meter" = some (some (.ref (ga K "Meter")))),
    decide (PySem.W.nsIn K mainGlobals "BadLetter" = some (some (.ref (ga K "BadLetter")))),
    (Fa.int "MOST_STANDS" (8)).ok K,
    (Fa.int "MOST_GAIN" (1000000000000000000000000000000)).ok K,
    decide (PySem.W.nsIn K mainGlobals "LETTERS" = some (some (.ref (ga K "LETTERS")))),
    decide (PySem.W.nsIn K mainGlobals "bool" = some none)]
def ex_1 (K : PySem.W.Frag) : List Bool := [
    decide (PySem.W.nsIn K mainGlobals "enumerate" = some none),
    decide (PySem.W.nsIn K mainGlobals "int" = some none),
    decide (PySem.W.nsIn K mainGlobals "isinstance" = some none),
    decide (PySem.W.nsIn K mainGlobals "len" = some none),
    decide (PySem.W.nsIn K mainGlobals "list" = some none),
    decide (PySem.W.nsIn K mainGlobals "max" = some none),
    decide (PySem.W.nsIn K mainGlobals "min" = some none),
    decide (PySem.W.nsIn K mainGlobals "range" = some none),
    decide (PySem.W.nsIn K mainGlobals "sorted" = some none),
    decide (PySem.W.nsIn K mainGlobals "str" = some none),
    decide (PySem.W.nsIn K mainGlobals "tuple" = some none),
    decide (PySem.W.keepIn K (.ref (fAd K ("Machine", some "__init__"))) = true),
    decide (PySem.W.keepIn K (.ref (pgA K "Machine" "stands")) = true),
    decide (PySem.W.keepIn K (.ref (pgA K "Machine" "steps")) = true),
    decide (PySem.W.keepIn K (.ref (fAd K ("Machine", some "__eq__"))) = true),
    decide (PySem.W.keepIn K (.ref (fAd K ("is_whole_number", none))) = true),
    decide (PySem.W.keepIn K (.ref (fAd K ("is_integer_between", none))) = true),
    decide (PySem.W.keepIn K (.ref (fAd K ("_is_stand", none))) = true),
    decide (PySem.W.keepIn K (.ref (fAd K ("_check_stands", none))) = true),
    decide (PySem.W.keepIn K (.ref (fAd K ("_is_step", none))) = true),
    decide (PySem.W.keepIn K (.ref (fAd K ("_check_steps", none))) = true),
    decide (PySem.W.keepIn K (.ref (fAd K ("is_ascending", none))) = true),
    decide (PySem.W.keepIn K (.ref (fAd K ("_check_ends", none))) = true),
    decide (PySem.W.keepIn K (.ref (fAd K ("check_machine", none))) = true),
    decide (PySem.W.keepIn K (.ref (fAd K ("moves_of", none))) = true)]
def ex_2 (K : PySem.W.Frag) : List Bool := [
    decide (PySem.W.keepIn K (.ref (fAd K ("Meter", some "__init__"))) = true),
    decide (PySem.W.keepIn K (.ref (pgA K "Meter" "machine")) = true),
    decide (PySem.W.keepIn K (.ref (pgA K "Meter" "row")) = true),
    decide (PySem.W.keepIn K (.ref (pgA K "Meter" "stand")) = true),
    decide (PySem.W.keepIn K (.ref (pgA K "Meter" "tally")) = true),
    decide (PySem.W.keepIn K (.ref (pgA K "Meter" "span")) = true),
    decide (PySem.W.keepIn K (.ref (fAd K ("Meter", some "read"))) = true),
    decide (PySem.W.keepIn K (.ref (fAd K ("Meter", some "can"))) = true),
    decide (PySem.W.keepIn K (.ref (fAd K ("Meter", some "undo"))) = true),
    decide (PySem.W.keepIn K (.ref (fAd K ("Meter", some "copy"))) = true),
    decide (PySem.W.keepIn K (.ref (fAd K ("Meter", some "__len__"))) = true),
    decide (PySem.W.keepIn K (.ref (fAd K ("_law_taken", none))) = true),
    decide (PySem.W.keepIn K (.ref (fAd K ("_law_parts", none))) = true),
    decide (PySem.W.keepIn K (.ref (fAd K ("_law_machine", none))) = true),
    decide (PySem.W.keepIn K (.ref (fAd K ("_law_next", none))) = true),
    decide (PySem.W.keepIn K (.ref (fAd K ("_law_way", none))) = true),
    decide (PySem.W.keepIn K (.ref (fAd K ("_law_read", none))) = true),
    decide (PySem.W.keepIn K (.ref (fAd K ("_law_is_meter", none))) = true),
    decide (PySem.W.keepIn K (.ref (fAd K ("law", none))) = true),
    decide (PySem.W.plainGet K (ga K "Machine") Str.empty = true),
    decide (PySem.W.hasDictIn K (ga K "Machine") = true),
    decide (PySem.W.plainOver K (ga K "Machine") = true),
    decide (PySem.W.findIn K (.ref (ga K "Machine")) "__setattr__" = some (some (.builtin "object.__setattr__"))),
    decide (PySem.W.makesIn K (ga K "Machine") = true),
    decide (PySem.W.keepIn K (.ref (ga K "Machine")) = true)]
def ex_3 (K : PySem.W.Frag) : List Bool := [
    decide (PySem.W.findIn K (.ref (ga K "Machine")) "__init__" = some (some (.ref (fAd K ("Machine", some "__init__"))))),
    decide (PySem.W.isFn K (.ref (fAd K ("Machine", some "__init__"))) = true),
    decide (PySem.W.findIn K (.ref (ga K "Machine")) "_stands" = some none),
    decide (PySem.W.findIn K (.ref (ga K "Machine")) "_steps" = some none),
    decide (PySem.W.findIn K (.ref (ga K "Machine")) "_ends" = some none),
    decide (PySem.W.findIn K (.ref (ga K "Machine")) "stands" = some (some (.ref (ma K (ga K "Machine") "stands")))),
    decide (PySem.W.specialIn K (.ref (ma K (ga K "Machine") "stands")) "__get__" = some (some (.builtin "property.__get__"))),
    decide (PySem.W.takesIn K (.ref (ma K (ga K "Machine") "stands")) = some true),
    pgB K "Machine" "stands",
    decide (PySem.W.findIn K (.ref (ga K "Machine")) "steps" = some (some (.ref (ma K (ga K "Machine") "steps")))),
    decide (PySem.W.specialIn K (.ref (ma K (ga K "Machine") "steps")) "__get__" = some (some (.builtin "property.__get__"))),
    decide (PySem.W.takesIn K (.ref (ma K (ga K "Machine") "steps")) = some true),
    pgB K "Machine" "steps",
    decide (PySem.W.findIn K (.ref (ga K "Machine")) "__class__" = some (some (.builtin "object.__class__"))),
    decide (PySem.W.specialIn K (.builtin "object.__class__") "__get__" = some (some (.builtin "getset_descriptor.__get__"))),
    decide (PySem.W.takesIn K (.builtin "object.__class__") = some true),
    decide (PySem.W.mroIn K (ga K "Machine") (.type "object") = some true),
    decide (PySem.W.isClsIn K (ga K "Machine") = true),
    decide (PySem.W.typeIn K (.ref (ga K "Machine")) = some (.type "type")),
    decide (PySem.W.findIn K (.ref (ga K "Machine")) "__eq__" = some (some (.ref (fAd K ("Machine", some "__eq__"))))),
    decide (PySem.W.isFn K (.ref (fAd K ("Machine", some "__eq__"))) = true),
    decide (PySem.W.plainGet K (ga K "Meter") Str.empty = true),
    decide (PySem.W.hasDictIn K (ga K "Meter") = true),
    decide (PySem.W.plainOver K (ga K "Meter") = true),
    decide (PySem.W.findIn K (.ref (ga K "Meter")) "__setattr__" = some (some (.builtin "object.__setattr__")))]
def ex_4 (K : PySem.W.Frag) : List Bool := [
    decide (PySem.W.makesIn K (ga K "Meter") = true),
    decide (PySem.W.keepIn K (.ref (ga K "Meter")) = true),
    decide (PySem.W.findIn K (.ref (ga K "Meter")) "__init__" = some (some (.ref (fAd K ("Meter", some "__init__"))))),
    decide (PySem.W.isFn K (.ref (fAd K ("Meter", some "__init__"))) = true),
    decide (PySem.W.findIn K (.ref (ga K "Meter")) "_machine" = some none),
    decide (PySem.W.findIn K (.ref (ga K "Meter")) "_moves" = some none),
    decide (PySem.W.findIn K (.ref (ga K "Meter")) "_row" = some none),
    decide (PySem.W.findIn K (.ref (ga K "Meter")) "_places" = some none),
    decide (PySem.W.findIn K (.ref (ga K "Meter")) "machine" = some (some (.ref (ma K (ga K "Meter") "machine")))),
    decide (PySem.W.specialIn K (.ref (ma K (ga K "Meter") "machine")) "__get__" = some (some (.builtin "property.__get__"))),
    decide (PySem.W.takesIn K (.ref (ma K (ga K "Meter") "machine")) = some true),
    pgB K "Meter" "machine",
    decide (PySem.W.findIn K (.ref (ga K "Meter")) "row" = some (some (.ref (ma K (ga K "Meter") "row")))),
    decide (PySem.W.specialIn K (.ref (ma K (ga K "Meter") "row")) "__get__" = some (some (.builtin "property.__get__"))),
    decide (PySem.W.takesIn K (.ref (ma K (ga K "Meter") "row")) = some true),
    pgB K "Meter" "row",
    decide (PySem.W.findIn K (.ref (ga K "Meter")) "stand" = some (some (.ref (ma K (ga K "Meter") "stand")))),
    decide (PySem.W.specialIn K (.ref (ma K (ga K "Meter") "stand")) "__get__" = some (some (.builtin "property.__get__"))),
    decide (PySem.W.takesIn K (.ref (ma K (ga K "Meter") "stand")) = some true),
    pgB K "Meter" "stand",
    decide (PySem.W.findIn K (.ref (ga K "Meter")) "tally" = some (some (.ref (ma K (ga K "Meter") "tally")))),
    decide (PySem.W.specialIn K (.ref (ma K (ga K "Meter") "tally")) "__get__" = some (some (.builtin "property.__get__"))),
    decide (PySem.W.takesIn K (.ref (ma K (ga K "Meter") "tally")) = some true),
    pgB K "Meter" "tally",
    decide (PySem.W.findIn K (.ref (ga K "Meter")) "span" = some (some (.ref (ma K (ga K "Meter") "span"))))]
def ex_5 (K : PySem.W.Frag) : List Bool := [
    decide (PySem.W.specialIn K (.ref (ma K (ga K "Meter") "span")) "__get__" = some (some (.builtin "property.__get__"))),
    decide (PySem.W.takesIn K (.ref (ma K (ga K "Meter") "span")) = some true),
    pgB K "Meter" "span",
    decide (PySem.W.findIn K (.ref (ga K "Meter")) "read" = some (some (.ref (fAd K ("Meter", some "read"))))),
    decide (PySem.W.isFn K (.ref (fAd K ("Meter", some "read"))) = true),
    decide (PySem.W.findIn K (.ref (ga K "Meter")) "can" = some (some (.ref (fAd K ("Meter", some "can"))))),
    decide (PySem.W.isFn K (.ref (fAd K ("Meter", some "can"))) = true),
    decide (PySem.W.findIn K (.ref (ga K "Meter")) "undo" = some (some (.ref (fAd K ("Meter", some "undo"))))),
    decide (PySem.W.isFn K (.ref (fAd K ("Meter", some "undo"))) = true),
    decide (PySem.W.findIn K (.ref (ga K "Meter")) "copy" = some (some (.ref (fAd K ("Meter", some "copy"))))),
    decide (PySem.W.isFn K (.ref (fAd K ("Meter", some "copy"))) = true),
    decide (PySem.W.findIn K (.ref (ga K "Meter")) "__len__" = some (some (.ref (fAd K ("Meter", some "__len__"))))),
    decide (PySem.W.isFn K (.ref (fAd K ("Meter", some "__len__"))) = true),
    decide (PySem.W.excIn K (ga K "BadLetter") [.type "ValueError", .type "Exception", .type "BaseException", .type "object"] "ValueError.__new__" = true),
    decide (PySem.W.keepIn K (.ref (ga K "BadLetter")) = true),
    decide (PySem.W.subIn K (.ref (ga K "BadLetter")) (.type "BaseException") = some true),
    decide (PySem.W.typeIn K (.ref (ga K "BadLetter")) = some (.type "type")),
    decide (PySem.W.isClsIn K (ga K "BadLetter") = true),
    decide (PySem.W.subIn K (.ref (ga K "BadLetter")) (.ref (ga K "BadLetter")) = some true),
    tupB K "LETTERS" [.str "a", .str "b", .str "c", .str "d"]]
def exs (K : PySem.W.Frag) : List Bool := [(ex_0 K).all fun b => b, (ex_1 K).all fun b => b, (ex_2 K).all fun b => b, (ex_3 K).all fun b => b, (ex_4 K).all fun b => b, (ex_5 K).all fun b => b]
theorem txt_of {K : PySem.W.Frag} {h : Heap} {mg : Str → Option Value} (X : K.In h) (G : h.Ns mainGlobals mg) (he : (exs K).all (fun b => b) = true) (hf : ∀ (i : Nat) (d : FnA), fns[i]? = some d → FnSaid K d) : Nonempty (Txt K mg) := by
  have e0 := row_ok he 0 (b := (ex_0 K).all fun b => b) rfl
  have e1 := row_ok he 1 (b := (ex_1 K).all fun b => b) rfl
  have e2 := row_ok he 2 (b := (ex_2 K).all fun b => b) rfl
  have e3 := row_ok he 3 (b := (ex_3 K).all fun b => b) rfl
  have e4 := row_ok he 4 (b := (ex_4 K).all fun b => b) rfl
  have e5 := row_ok he 5 (b := (ex_5 K).all fun b => b) rfl
  obtain ⟨oc_Machine_init, od_Machine_init, sl_Machine_init, kV_Machine_init, dc_Machine_init, pm_Machine_init, an_Machine_init, cd_Machine_init, ct_Machine_init, l_Machine_init, c_Machine_init⟩ := hf 0 fd_Machine_init rfl
  obtain ⟨oc_Machine_stands, od_Machine_stands, sl_Machine_stands, kV_Machine_stands, dc_Machine_stands, pm_Machine_stands, an_Machine_stands, cd_Machine_stands, ct_Machine_stands, l_Machine_stands, c_Machine_stands⟩ := hf 1 fd_Machine_stands rfl
  obtain ⟨oc_Machine_steps, od_Machine_steps, sl_Machine_steps, kV_Machine_steps, dc_Machine_steps, pm_Machine_steps, an_Machine_steps, cd_Machine_steps, ct_Machine_steps, l_Machine_steps, c_Machine_steps⟩ := hf 2 fd_Machine_steps rfl
  obtain ⟨oc_Machine_eq, od_Machine_eq, sl_Machine_eq, kV_Machine_eq, dc_Machine_eq, pm_Machine_eq, an_Machine_eq, cd_Machine_eq, ct_Machine_eq, l_Machine_eq, c_Machine_eq⟩ := hf 3 fd_Machine_eq rfl
  obtain ⟨oc_is_whole_number, od_is_whole_number, sl_is_whole_number, kV_is_whole_number, dc_is_whole_number, pm_is_whole_number, an_is_whole_number, cd_is_whole_number, ct_is_whole_number, l_is_whole_number, c_is_whole_number⟩ := hf 4 fd_is_whole_number rfl
  obtain ⟨oc_is_integer_between, od_is_integer_between, sl_is_integer_between, kV_is_integer_between, dc_is_integer_between, pm_is_integer_between, an_is_integer_between, cd_is_integer_between, ct_is_integer_between, l_is_integer_between, c_is_integer_between⟩ := hf 5 fd_is_integer_between rfl
  obtain ⟨oc_is_stand, od_is_stand, sl_is_stand, kV_is_stand, dc_is_stand, pm_is_stand, an_is_stand, cd_is_stand, ct_is_stand, l_is_stand, c_is_stand⟩ := hf 6 fd_is_stand rfl
  obtain ⟨oc_check_stands, od_check_stands, sl_check_stands, kV_check_stands, dc_check_stands, pm_check_stands, an_check_stands, cd_check_stands, ct_check_stands, l_check_stands, c_check_stands⟩ := hf 7 fd_check_stands rfl
  obtain ⟨oc_is_step, od_is_step, sl_is_step, kV_is_step, dc_is_step, pm_is_step, an_is_step, cd_is_step, ct_is_step, l_is_step, c_is_step⟩ := hf 8 fd_is_step rfl
  obtain ⟨oc_check_steps, od_check_steps, sl_check_steps, kV_check_steps, dc_check_steps, pm_check_steps, an_check_steps, cd_check_steps, ct_check_steps, l_check_steps, c_check_steps⟩ := hf 9 fd_check_steps rfl
  obtain ⟨oc_is_ascending, od_is_ascending, sl_is_ascending, kV_is_ascending, dc_is_ascending, pm_is_ascending, an_is_ascending, cd_is_ascending, ct_is_ascending, l_is_ascending, c_is_ascending⟩ := hf 10 fd_is_ascending rfl
  obtain ⟨oc_check_ends, od_check_ends, sl_check_ends, kV_check_ends, dc_check_ends, pm_check_ends, an_check_ends, cd_check_ends, ct_check_ends, l_check_ends, c_check_ends⟩ := hf 11 fd_check_ends rfl
  obtain ⟨oc_check_machine, od_check_machine, sl_check_machine, kV_check_machine, dc_check_machine, pm_check_machine, an_check_machine, cd_check_machine, ct_check_machine, l_check_machine, c_check_machine⟩ := hf 12 fd_check_machine rfl
  obtain ⟨oc_moves_of, od_moves_of, sl_moves_of, kV_moves_of, dc_moves_of, pm_moves_of, an_moves_of, cd_moves_of, ct_moves_of, l_moves_of, c_moves_of⟩ := hf 13 fd_moves_of rfl
  obtain ⟨oc_Meter_init, od_Meter_init, sl_Meter_init, kV_Meter_init, dc_Meter_init, pm_Meter_init, an_Meter_init, cd_Meter_init, ct_Meter_init, l_Meter_init, c_Meter_init⟩ := hf 14 fd_Meter_init rfl
  obtain ⟨oc_Meter_machine, od_Meter_machine, sl_Meter_machine, kV_Meter_machine, dc_Meter_machine, pm_Meter_machine, an_Meter_machine, cd_Meter_machine, ct_Meter_machine, l_Meter_machine, c_Meter_machine⟩ := hf 15 fd_Meter_machine rfl
  obtain ⟨oc_Meter_row, od_Meter_row, sl_Meter_row, kV_Meter_row, dc_Meter_row, pm_Meter_row, an_Meter_row, cd_Meter_row, ct_Meter_row, l_Meter_row, c_Meter_row⟩ := hf 16 fd_Meter_row rfl
  obtain ⟨oc_Meter_stand, od_Meter_stand, sl_Meter_stand, kV_Meter_stand, dc_Meter_stand, pm_Meter_stand, an_Meter_stand, cd_Meter_stand, ct_Meter_stand, l_Meter_stand, c_Meter_stand⟩ := hf 17 fd_Meter_stand rfl
  obtain ⟨oc_Meter_tally, od_Meter_tally, sl_Meter_tally, kV_Meter_tally, dc_Meter_tally, pm_Meter_tally, an_Meter_tally, cd_Meter_tally, ct_Meter_tally, l_Meter_tally, c_Meter_tally⟩ := hf 18 fd_Meter_tally rfl
  obtain ⟨oc_Meter_span, od_Meter_span, sl_Meter_span, kV_Meter_span, dc_Meter_span, pm_Meter_span, an_Meter_span, cd_Meter_span, ct_Meter_span, l_Meter_span, c_Meter_span⟩ := hf 19 fd_Meter_span rfl
  obtain ⟨oc_Meter_read, od_Meter_read, sl_Meter_read, kV_Meter_read, dc_Meter_read, pm_Meter_read, an_Meter_read, cd_Meter_read, ct_Meter_read, l_Meter_read, c_Meter_read⟩ := hf 20 fd_Meter_read rfl
  obtain ⟨oc_Meter_can, od_Meter_can, sl_Meter_can, kV_Meter_can, dc_Meter_can, pm_Meter_can, an_Meter_can, cd_Meter_can, ct_Meter_can, l_Meter_can, c_Meter_can⟩ := hf 21 fd_Meter_can rfl
  obtain ⟨oc_Meter_undo, od_Meter_undo, sl_Meter_undo, kV_Meter_undo, dc_Meter_undo, pm_Meter_undo, an_Meter_undo, cd_Meter_undo, ct_Meter_undo, l_Meter_undo, c_Meter_undo⟩ := hf 22 fd_Meter_undo rfl
  obtain ⟨oc_Meter_copy, od_Meter_copy, sl_Meter_copy, kV_Meter_copy, dc_Meter_copy, pm_Meter_copy, an_Meter_copy, cd_Meter_copy, ct_Meter_copy, l_Meter_copy, c_Meter_copy⟩ := hf 23 fd_Meter_copy rfl
  obtain ⟨oc_Meter_len, od_Meter_len, sl_Meter_len, kV_Meter_len, dc_Meter_len, pm_Meter_len, an_Meter_len, cd_Meter_len, ct_Meter_len, l_Meter_len, c_Meter_len⟩ := hf 24 fd_Meter_len rfl
  obtain ⟨oc_law_taken, od_law_taken, sl_law_taken, kV_law_taken, dc_law_taken, pm_law_taken, an_law_taken, cd_law_taken, ct_law_taken, l_law_taken, c_law_taken⟩ := hf 25 fd_law_taken rfl
  obtain ⟨oc_law_parts, od_law_parts, sl_law_parts, kV_law_parts, dc_law_parts, pm_law_parts, an_law_parts, cd_law_parts, ct_law_parts, l_law_parts, c_law_parts⟩ := hf 26 fd_law_parts rfl
  obtain ⟨oc_law_machine, od_law_machine, sl_law_machine, kV_law_machine, dc_law_machine, pm_law_machine, an_law_machine, cd_law_machine, ct_law_machine, l_law_machine, c_law_machine⟩ := hf 27 fd_law_machine rfl
  obtain ⟨oc_law_next, od_law_next, sl_law_next, kV_law_next, dc_law_next, pm_law_next, an_law_next, cd_law_next, ct_law_next, l_law_next, c_law_next⟩ := hf 28 fd_law_next rfl
  obtain ⟨oc_law_way, od_law_way, sl_law_way, kV_law_way, dc_law_way, pm_law_way, an_law_way, cd_law_way, ct_law_way, l_law_way, c_law_way⟩ := hf 29 fd_law_way rfl
  obtain ⟨oc_law_read, od_law_read, sl_law_read, kV_law_read, dc_law_read, pm_law_read, an_law_read, cd_law_read, ct_law_read, l_law_read, c_law_read⟩ := hf 30 fd_law_read rfl
  obtain ⟨oc_law_is_meter, od_law_is_meter, sl_law_is_meter, kV_law_is_meter, dc_law_is_meter, pm_law_is_meter, an_law_is_meter, cd_law_is_meter, ct_law_is_meter, l_law_is_meter, c_law_is_meter⟩ := hf 31 fd_law_is_meter rfl
  obtain ⟨oc_law, od_law, sl_law, kV_law, dc_law, pm_law, an_law, cd_law, ct_law, l_law, c_law⟩ := hf 32 fd_law rfl
  obtain ⟨t_MOST_STANDS, g_MOST_STANDS⟩ := int_k (row_ok e0 21 (b := (Fa.int "MOST_STANDS" (8)).ok K) rfl)
  obtain ⟨t_MOST_GAIN, g_MOST_GAIN⟩ := int_k (row_ok e0 22 (b := (Fa.int "MOST_GAIN" (1000000000000000000000000000000)).ok K) rfl)
  obtain ⟨rest_stands, pr_stands⟩ := pgB_ok (row_ok e3 8 (b := pgB K "Machine" "stands") rfl)
  obtain ⟨rest_steps, pr_steps⟩ := pgB_ok (row_ok e3 12 (b := pgB K "Machine" "steps") rfl)
  obtain ⟨rest_machine, pr_machine⟩ := pgB_ok (row_ok e4 11 (b := pgB K "Meter" "machine") rfl)
  obtain ⟨rest_row, pr_row⟩ := pgB_ok (row_ok e4 15 (b := pgB K "Meter" "row") rfl)
  obtain ⟨rest_stand, pr_stand⟩ := pgB_ok (row_ok e4 19 (b := pgB K "Meter" "stand") rfl)
  obtain ⟨rest_tally, pr_tally⟩ := pgB_ok (row_ok e4 23 (b := pgB K "Meter" "tally") rfl)
  obtain ⟨rest_span, pr_span⟩ := pgB_ok (row_ok e5 2 (b := pgB K "Meter" "span") rfl)
  exact ⟨txt_mk X G
    (of_decide_eq_true (row_ok e0 0 (b := decide (PySem.W.nsIn K mainGlobals "is_whole_number" = some (some (.ref (fAd K ("is_whole_number", none)))))) rfl))
    (of_decide_eq_true (row_ok e0 1 (b := decide (PySem.W.nsIn K mainGlobals "is_integer_between" = some (some (.ref (fAd K ("is_integer_between", none)))))) rfl))
    (of_decide_eq_true (row_ok e0 2 (b := decide (PySem.W.nsIn K mainGlobals "_is_stand" = some (some (.ref (fAd K ("_is_stand", none)))))) rfl))
    (of_decide_eq_true (row_ok e0 3 (b := decide (PySem.W.nsIn K mainGlobals "_check_stands" = some (some (.ref (fAd K ("_check_stands", none)))))) rfl))
    (of_decide_eq_true (row_ok e0 4 (b := decide (PySem.W.nsIn K mainGlobals "_is_step" = some (some (.ref (fAd K ("_is_step", none)))))) rfl))
    (of_decide_eq_true (row_ok e0 5 (b := decide (PySem.W.nsIn K mainGlobals "_check_steps" = some (some (.ref (fAd K ("_check_steps", none)))))) rfl))
    (of_decide_eq_true (row_ok e0 6 (b := decide (PySem.W.nsIn K mainGlobals "is_ascending" = some (some (.ref (fAd K ("is_ascending", none)))))) rfl))
    (of_decide_eq_true (row_ok e0 7 (b := decide (PySem.W.nsIn K mainGlobals "_check_ends" = some (some (.ref (fAd K ("_check_ends", none)))))) rfl))
    (of_decide_eq_true (row_ok e0 8 (b := decide (PySem.W.nsIn K mainGlobals "check_machine" = some (some (.ref (fAd K ("check_machine", none)))))) rfl))
    (of_decide_eq_true (row_ok e0 9 (b := decide (PySem.W.nsIn K mainGlobals "moves_of" = some (some (.ref (fAd K ("moves_of", none)))))) rfl))
    (of_decide_eq_true (row_ok e0 10 (b := decide (PySem.W.nsIn K mainGlobals "_law_taken" = some (some (.ref (fAd K ("_law_taken", none)))))) rfl))
    (of_decide_eq_true (row_ok e0 11 (b := decide (PySem.W.nsIn K mainGlobals "_law_parts" = some (some (.ref (fAd K ("_law_parts", none)))))) rfl))
    (of_decide_eq_true (row_ok e0 12 (b := decide (PySem.W.nsIn K mainGlobals "_law_machine" = some (some (.ref (fAd K ("_law_machine", none)))))) rfl))
    (of_decide_eq_true (row_ok e0 13 (b := decide (PySem.W.nsIn K mainGlobals "_law_next" = some (some (.ref (fAd K ("_law_next", none)))))) rfl))
    (of_decide_eq_true (row_ok e0 14 (b := decide (PySem.W.nsIn K mainGlobals "_law_way" = some (some (.ref (fAd K ("_law_way", none)))))) rfl))
    (of_decide_eq_true (row_ok e0 15 (b := decide (PySem.W.nsIn K mainGlobals "_law_read" = some (some (.ref (fAd K ("_law_read", none)))))) rfl))
    (of_decide_eq_true (row_ok e0 16 (b := decide (PySem.W.nsIn K mainGlobals "_law_is_meter" = some (some (.ref (fAd K ("_law_is_meter", none)))))) rfl))
    (of_decide_eq_true (row_ok e0 17 (b := decide (PySem.W.nsIn K mainGlobals "law" = some (some (.ref (fAd K ("law", none)))))) rfl))
    (of_decide_eq_true (row_ok e0 18 (b := decide (PySem.W.nsIn K mainGlobals "Machine" = some (some (.ref (ga K "Machine"))))) rfl))
    (of_decide_eq_true (row_ok e0 19 (b := decide (PySem.W.nsIn K mainGlobals "Meter" = some (some (.ref (ga K "Meter"))))) rfl))
    (of_decide_eq_true (row_ok e0 20 (b := decide (PySem.W.nsIn K mainGlobals "BadLetter" = some (some (.ref (ga K "BadLetter"))))) rfl))
    g_MOST_STANDS
    g_MOST_GAIN
    (of_decide_eq_true (row_ok e0 23 (b := decide (PySem.W.nsIn K mainGlobals "LETTERS" = some (some (.ref (ga K "LETTERS"))))) rfl))
    (of_decide_eq_true (row_ok e0 24 (b := decide (PySem.W.nsIn K mainGlobals "bool" = some none)) rfl))
    (of_decide_eq_true (row_ok e1 0 (b := decide (PySem.W.nsIn K mainGlobals "enumerate" = some none)) rfl))
    (of_decide_eq_true (row_ok e1 1 (b := decide (PySem.W.nsIn K mainGlobals "int" = some none)) rfl))
    (of_decide_eq_true (row_ok e1 2 (b := decide (PySem.W.nsIn K mainGlobals "isinstance" = some none)) rfl))
    (of_decide_eq_true (row_ok e1 3 (b := decide (PySem.W.nsIn K mainGlobals "len" = some none)) rfl))
    (of_decide_eq_true (row_ok e1 4 (b := decide (PySem.W.nsIn K mainGlobals "list" = some none)) rfl))
    (of_decide_eq_true (row_ok e1 5 (b := decide (PySem.W.nsIn K mainGlobals "max" = some none)) rfl))
    (of_decide_eq_true (row_ok e1 6 (b := decide (PySem.W.nsIn K mainGlobals "min" = some none)) rfl))
    (of_decide_eq_true (row_ok e1 7 (b := decide (PySem.W.nsIn K mainGlobals "range" = some none)) rfl))
    (of_decide_eq_true (row_ok e1 8 (b := decide (PySem.W.nsIn K mainGlobals "sorted" = some none)) rfl))
    (of_decide_eq_true (row_ok e1 9 (b := decide (PySem.W.nsIn K mainGlobals "str" = some none)) rfl))
    (of_decide_eq_true (row_ok e1 10 (b := decide (PySem.W.nsIn K mainGlobals "tuple" = some none)) rfl))
    l_Machine_init
    c_Machine_init
    (of_decide_eq_true (row_ok e1 11 (b := decide (PySem.W.keepIn K (.ref (fAd K ("Machine", some "__init__"))) = true)) rfl))
    l_Machine_stands
    c_Machine_stands
    (of_decide_eq_true (row_ok e1 12 (b := decide (PySem.W.keepIn K (.ref (pgA K "Machine" "stands")) = true)) rfl))
    l_Machine_steps
    c_Machine_steps
    (of_decide_eq_true (row_ok e1 13 (b := decide (PySem.W.keepIn K (.ref (pgA K "Machine" "steps")) = true)) rfl))
    l_Machine_eq
    c_Machine_eq
    (of_decide_eq_true (row_ok e1 14 (b := decide (PySem.W.keepIn K (.ref (fAd K ("Machine", some "__eq__"))) = true)) rfl))
    l_is_whole_number
    c_is_whole_number
    (of_decide_eq_true (row_ok e1 15 (b := decide (PySem.W.keepIn K (.ref (fAd K ("is_whole_number", none))) = true)) rfl))
    l_is_integer_between
    c_is_integer_between
    (of_decide_eq_true (row_ok e1 16 (b := decide (PySem.W.keepIn K (.ref (fAd K ("is_integer_between", none))) = true)) rfl))
    l_is_stand
    c_is_stand
    (of_decide_eq_true (row_ok e1 17 (b := decide (PySem.W.keepIn K (.ref (fAd K ("_is_stand", none))) = true)) rfl))
    l_check_stands
    c_check_stands
    (of_decide_eq_true (row_ok e1 18 (b := decide (PySem.W.keepIn K (.ref (fAd K ("_check_stands", none))) = true)) rfl))
    l_is_step
    c_is_step
    (of_decide_eq_true (row_ok e1 19 (b := decide (PySem.W.keepIn K (.ref (fAd K ("_is_step", none))) = true)) rfl))
    l_check_steps
    c_check_steps
    (of_decide_eq_true (row_ok e1 20 (b := decide (PySem.W.keepIn K (.ref (fAd K ("_check_steps", none))) = true)) rfl))
    l_is_ascending
    c_is_ascending
    (of_decide_eq_true (row_ok e1 21 (b := decide (PySem.W.keepIn K (.ref (fAd K ("is_ascending", none))) = true)) rfl))
    l_check_ends
    c_check_ends
    (of_decide_eq_true (row_ok e1 22 (b := decide (PySem.W.keepIn K (.ref (fAd K ("_check_ends", none))) = true)) rfl))
    l_check_machine
    c_check_machine
    (of_decide_eq_true (row_ok e1 23 (b := decide (PySem.W.keepIn K (.ref (fAd K ("check_machine", none))) = true)) rfl))
    l_moves_of
    c_moves_of
    (of_decide_eq_true (row_ok e1 24 (b := decide (PySem.W.keepIn K (.ref (fAd K ("moves_of", none))) = true)) rfl))
    l_Meter_init
    c_Meter_init
    (of_decide_eq_true (row_ok e2 0 (b := decide (PySem.W.keepIn K (.ref (fAd K ("Meter", some "__init__"))) = true)) rfl))
    l_Meter_machine
    c_Meter_machine
    (of_decide_eq_true (row_ok e2 1 (b := decide (PySem.W.keepIn K (.ref (pgA K "Meter" "machine")) = true)) rfl))
    l_Meter_row
    c_Meter_row
    (of_decide_eq_true (row_ok e2 2 (b := decide (PySem.W.keepIn K (.ref (pgA K "Meter" "row")) = true)) rfl))
    l_Meter_stand
    c_Meter_stand
    (of_decide_eq_true (row_ok e2 3 (b := decide (PySem.W.keepIn K (.ref (pgA K "Meter" "stand")) = true)) rfl))
    l_Meter_tally
    c_Meter_tally
    (of_decide_eq_true (row_ok e2 4 (b := decide (PySem.W.keepIn K (.ref (pgA K "Meter" "tally")) = true)) rfl))
    l_Meter_span
    c_Meter_span
    (of_decide_eq_true (row_ok e2 5 (b := decide (PySem.W.keepIn K (.ref (pgA K "Meter" "span")) = true)) rfl))
    l_Meter_read
    c_Meter_read
    (of_decide_eq_true (row_ok e2 6 (b := decide (PySem.W.keepIn K (.ref (fAd K ("Meter", some "read"))) = true)) rfl))
    l_Meter_can
    c_Meter_can
    (of_decide_eq_true (row_ok e2 7 (b := decide (PySem.W.keepIn K (.ref (fAd K ("Meter", some "can"))) = true)) rfl))
    l_Meter_undo
    c_Meter_undo
    (of_decide_eq_true (row_ok e2 8 (b := decide (PySem.W.keepIn K (.ref (fAd K ("Meter", some "undo"))) = true)) rfl))
    l_Meter_copy
    c_Meter_copy
    (of_decide_eq_true (row_ok e2 9 (b := decide (PySem.W.keepIn K (.ref (fAd K ("Meter", some "copy"))) = true)) rfl))
    l_Meter_len
    c_Meter_len
    (of_decide_eq_true (row_ok e2 10 (b := decide (PySem.W.keepIn K (.ref (fAd K ("Meter", some "__len__"))) = true)) rfl))
    l_law_taken
    c_law_taken
    (of_decide_eq_true (row_ok e2 11 (b := decide (PySem.W.keepIn K (.ref (fAd K ("_law_taken", none))) = true)) rfl))
    l_law_parts
    c_law_parts
    (of_decide_eq_true (row_ok e2 12 (b := decide (PySem.W.keepIn K (.ref (fAd K ("_law_parts", none))) = true)) rfl))
    l_law_machine
    c_law_machine
    (of_decide_eq_true (row_ok e2 13 (b := decide (PySem.W.keepIn K (.ref (fAd K ("_law_machine", none))) = true)) rfl))
    l_law_next
    c_law_next
    (of_decide_eq_true (row_ok e2 14 (b := decide (PySem.W.keepIn K (.ref (fAd K ("_law_next", none))) = true)) rfl))
    l_law_way
    c_law_way
    (of_decide_eq_true (row_ok e2 15 (b := decide (PySem.W.keepIn K (.ref (fAd K ("_law_way", none))) = true)) rfl))
    l_law_read
    c_law_read
    (of_decide_eq_true (row_ok e2 16 (b := decide (PySem.W.keepIn K (.ref (fAd K ("_law_read", none))) = true)) rfl))
    l_law_is_meter
    c_law_is_meter
    (of_decide_eq_true (row_ok e2 17 (b := decide (PySem.W.keepIn K (.ref (fAd K ("_law_is_meter", none))) = true)) rfl))
    l_law
    c_law
    (of_decide_eq_true (row_ok e2 18 (b := decide (PySem.W.keepIn K (.ref (fAd K ("law", none))) = true)) rfl))
    (of_decide_eq_true (row_ok e2 19 (b := decide (PySem.W.plainGet K (ga K "Machine") Str.empty = true)) rfl))
    (of_decide_eq_true (row_ok e2 20 (b := decide (PySem.W.hasDictIn K (ga K "Machine") = true)) rfl))
    (of_decide_eq_true (row_ok e2 21 (b := decide (PySem.W.plainOver K (ga K "Machine") = true)) rfl))
    (of_decide_eq_true (row_ok e2 22 (b := decide (PySem.W.findIn K (.ref (ga K "Machine")) "__setattr__" = some (some (.builtin "object.__setattr__")))) rfl))
    (of_decide_eq_true (row_ok e2 23 (b := decide (PySem.W.makesIn K (ga K "Machine") = true)) rfl))
    (of_decide_eq_true (row_ok e2 24 (b := decide (PySem.W.keepIn K (.ref (ga K "Machine")) = true)) rfl))
    (of_decide_eq_true (row_ok e3 0 (b := decide (PySem.W.findIn K (.ref (ga K "Machine")) "__init__" = some (some (.ref (fAd K ("Machine", some "__init__")))))) rfl))
    (of_decide_eq_true (row_ok e3 1 (b := decide (PySem.W.isFn K (.ref (fAd K ("Machine", some "__init__"))) = true)) rfl))
    (of_decide_eq_true (row_ok e3 2 (b := decide (PySem.W.findIn K (.ref (ga K "Machine")) "_stands" = some none)) rfl))
    (of_decide_eq_true (row_ok e3 3 (b := decide (PySem.W.findIn K (.ref (ga K "Machine")) "_steps" = some none)) rfl))
    (of_decide_eq_true (row_ok e3 4 (b := decide (PySem.W.findIn K (.ref (ga K "Machine")) "_ends" = some none)) rfl))
    (of_decide_eq_true (row_ok e3 5 (b := decide (PySem.W.findIn K (.ref (ga K "Machine")) "stands" = some (some (.ref (ma K (ga K "Machine") "stands"))))) rfl))
    (of_decide_eq_true (row_ok e3 6 (b := decide (PySem.W.specialIn K (.ref (ma K (ga K "Machine") "stands")) "__get__" = some (some (.builtin "property.__get__")))) rfl))
    (of_decide_eq_true (row_ok e3 7 (b := decide (PySem.W.takesIn K (.ref (ma K (ga K "Machine") "stands")) = some true)) rfl))
    pr_stands
    (of_decide_eq_true (row_ok e3 9 (b := decide (PySem.W.findIn K (.ref (ga K "Machine")) "steps" = some (some (.ref (ma K (ga K "Machine") "steps"))))) rfl))
    (of_decide_eq_true (row_ok e3 10 (b := decide (PySem.W.specialIn K (.ref (ma K (ga K "Machine") "steps")) "__get__" = some (some (.builtin "property.__get__")))) rfl))
    (of_decide_eq_true (row_ok e3 11 (b := decide (PySem.W.takesIn K (.ref (ma K (ga K "Machine") "steps")) = some true)) rfl))
    pr_steps
    (of_decide_eq_true (row_ok e3 13 (b := decide (PySem.W.findIn K (.ref (ga K "Machine")) "__class__" = some (some (.builtin "object.__class__")))) rfl))
    (of_decide_eq_true (row_ok e3 14 (b := decide (PySem.W.specialIn K (.builtin "object.__class__") "__get__" = some (some (.builtin "getset_descriptor.__get__")))) rfl))
    (of_decide_eq_true (row_ok e3 15 (b := decide (PySem.W.takesIn K (.builtin "object.__class__") = some true)) rfl))
    (of_decide_eq_true (row_ok e3 16 (b := decide (PySem.W.mroIn K (ga K "Machine") (.type "object") = some true)) rfl))
    (of_decide_eq_true (row_ok e3 17 (b := decide (PySem.W.isClsIn K (ga K "Machine") = true)) rfl))
    (of_decide_eq_true (row_ok e3 18 (b := decide (PySem.W.typeIn K (.ref (ga K "Machine")) = some (.type "type"))) rfl))
    (of_decide_eq_true (row_ok e3 19 (b := decide (PySem.W.findIn K (.ref (ga K "Machine")) "__eq__" = some (some (.ref (fAd K ("Machine", some "__eq__")))))) rfl))
    (of_decide_eq_true (row_ok e3 20 (b := decide (PySem.W.isFn K (.ref (fAd K ("Machine", some "__eq__"))) = true)) rfl))
    (of_decide_eq_true (row_ok e3 21 (b := decide (PySem.W.plainGet K (ga K "Meter") Str.empty = true)) rfl))
    (of_decide_eq_true (row_ok e3 22 (b := decide (PySem.W.hasDictIn K (ga K "Meter") = true)) rfl))
    (of_decide_eq_true (row_ok e3 23 (b := decide (PySem.W.plainOver K (ga K "Meter") = true)) rfl))
    (of_decide_eq_true (row_ok e3 24 (b := decide (PySem.W.findIn K (.ref (ga K "Meter")) "__setattr__" = some (some (.builtin "object.__setattr__")))) rfl))
    (of_decide_eq_true (row_ok e4 0 (b := decide (PySem.W.makesIn K (ga K "Meter") = true)) rfl))
    (of_decide_eq_true (row_ok e4 1 (b := decide (PySem.W.keepIn K (.ref (ga K "Meter")) = true)) rfl))
    (of_decide_eq_true (row_ok e4 2 (b := decide (PySem.W.findIn K (.ref (ga K "Meter")) "__init__" = some (some (.ref (fAd K ("Meter", some "__init__")))))) rfl))
    (of_decide_eq_true (row_ok e4 3 (b := decide (PySem.W.isFn K (.ref (fAd K ("Meter", some "__init__"))) = true)) rfl))
    (of_decide_eq_true (row_ok e4 4 (b := decide (PySem.W.findIn K (.ref (ga K "Meter")) "_machine" = some none)) rfl))
    (of_decide_eq_true (row_ok e4 5 (b := decide (PySem.W.findIn K (.ref (ga K "Meter")) "_moves" = some none)) rfl))
    (of_decide_eq_true (row_ok e4 6 (b := decide (PySem.W.findIn K (.ref (ga K "Meter")) "_row" = some none)) rfl))
    (of_decide_eq_true (row_ok e4 7 (b := decide (PySem.W.findIn K (.ref (ga K "Meter")) "_places" = some none)) rfl))
    (of_decide_eq_true (row_ok e4 8 (b := decide (PySem.W.findIn K (.ref (ga K "Meter")) "machine" = some (some (.ref (ma K (ga K "Meter") "machine"))))) rfl))
    (of_decide_eq_true (row_ok e4 9 (b := decide (PySem.W.specialIn K (.ref (ma K (ga K "Meter") "machine")) "__get__" = some (some (.builtin "property.__get__")))) rfl))
    (of_decide_eq_true (row_ok e4 10 (b := decide (PySem.W.takesIn K (.ref (ma K (ga K "Meter") "machine")) = some true)) rfl))
    pr_machine
    (of_decide_eq_true (row_ok e4 12 (b := decide (PySem.W.findIn K (.ref (ga K "Meter")) "row" = some (some (.ref (ma K (ga K "Meter") "row"))))) rfl))
    (of_decide_eq_true (row_ok e4 13 (b := decide (PySem.W.specialIn K (.ref (ma K (ga K "Meter") "row")) "__get__" = some (some (.builtin "property.__get__")))) rfl))
    (of_decide_eq_true (row_ok e4 14 (b := decide (PySem.W.takesIn K (.ref (ma K (ga K "Meter") "row")) = some true)) rfl))
    pr_row
    (of_decide_eq_true (row_ok e4 16 (b := decide (PySem.W.findIn K (.ref (ga K "Meter")) "stand" = some (some (.ref (ma K (ga K "Meter") "stand"))))) rfl))
    (of_decide_eq_true (row_ok e4 17 (b := decide (PySem.W.specialIn K (.ref (ma K (ga K "Meter") "stand")) "__get__" = some (some (.builtin "property.__get__")))) rfl))
    (of_decide_eq_true (row_ok e4 18 (b := decide (PySem.W.takesIn K (.ref (ma K (ga K "Meter") "stand")) = some true)) rfl))
    pr_stand
    (of_decide_eq_true (row_ok e4 20 (b := decide (PySem.W.findIn K (.ref (ga K "Meter")) "tally" = some (some (.ref (ma K (ga K "Meter") "tally"))))) rfl))
    (of_decide_eq_true (row_ok e4 21 (b := decide (PySem.W.specialIn K (.ref (ma K (ga K "Meter") "tally")) "__get__" = some (some (.builtin "property.__get__")))) rfl))
    (of_decide_eq_true (row_ok e4 22 (b := decide (PySem.W.takesIn K (.ref (ma K (ga K "Meter") "tally")) = some true)) rfl))
    pr_tally
    (of_decide_eq_true (row_ok e4 24 (b := decide (PySem.W.findIn K (.ref (ga K "Meter")) "span" = some (some (.ref (ma K (ga K "Meter") "span"))))) rfl))
    (of_decide_eq_true (row_ok e5 0 (b := decide (PySem.W.specialIn K (.ref (ma K (ga K "Meter") "span")) "__get__" = some (some (.builtin "property.__get__")))) rfl))
    (of_decide_eq_true (row_ok e5 1 (b := decide (PySem.W.takesIn K (.ref (ma K (ga K "Meter") "span")) = some true)) rfl))
    pr_span
    (of_decide_eq_true (row_ok e5 3 (b := decide (PySem.W.findIn K (.ref (ga K "Meter")) "read" = some (some (.ref (fAd K ("Meter", some "read")))))) rfl))
    (of_decide_eq_true (row_ok e5 4 (b := decide (PySem.W.isFn K (.ref (fAd K ("Meter", some "read"))) = true)) rfl))
    (of_decide_eq_true (row_ok e5 5 (b := decide (PySem.W.findIn K (.ref (ga K "Meter")) "can" = some (some (.ref (fAd K ("Meter", some "can")))))) rfl))
    (of_decide_eq_true (row_ok e5 6 (b := decide (PySem.W.isFn K (.ref (fAd K ("Meter", some "can"))) = true)) rfl))
    (of_decide_eq_true (row_ok e5 7 (b := decide (PySem.W.findIn K (.ref (ga K "Meter")) "undo" = some (some (.ref (fAd K ("Meter", some "undo")))))) rfl))
    (of_decide_eq_true (row_ok e5 8 (b := decide (PySem.W.isFn K (.ref (fAd K ("Meter", some "undo"))) = true)) rfl))
    (of_decide_eq_true (row_ok e5 9 (b := decide (PySem.W.findIn K (.ref (ga K "Meter")) "copy" = some (some (.ref (fAd K ("Meter", some "copy")))))) rfl))
    (of_decide_eq_true (row_ok e5 10 (b := decide (PySem.W.isFn K (.ref (fAd K ("Meter", some "copy"))) = true)) rfl))
    (of_decide_eq_true (row_ok e5 11 (b := decide (PySem.W.findIn K (.ref (ga K "Meter")) "__len__" = some (some (.ref (fAd K ("Meter", some "__len__")))))) rfl))
    (of_decide_eq_true (row_ok e5 12 (b := decide (PySem.W.isFn K (.ref (fAd K ("Meter", some "__len__"))) = true)) rfl))
    (of_decide_eq_true (row_ok e5 13 (b := decide (PySem.W.excIn K (ga K "BadLetter") [.type "ValueError", .type "Exception", .type "BaseException", .type "object"] "ValueError.__new__" = true)) rfl))
    (of_decide_eq_true (row_ok e5 14 (b := decide (PySem.W.keepIn K (.ref (ga K "BadLetter")) = true)) rfl))
    (of_decide_eq_true (row_ok e5 15 (b := decide (PySem.W.subIn K (.ref (ga K "BadLetter")) (.type "BaseException") = some true)) rfl))
    (of_decide_eq_true (row_ok e5 16 (b := decide (PySem.W.typeIn K (.ref (ga K "BadLetter")) = some (.type "type"))) rfl))
    (of_decide_eq_true (row_ok e5 17 (b := decide (PySem.W.isClsIn K (ga K "BadLetter") = true)) rfl))
    (of_decide_eq_true (row_ok e5 18 (b := decide (PySem.W.subIn K (.ref (ga K "BadLetter")) (.ref (ga K "BadLetter")) = some true)) rfl))
    (fun H => tupB_ok (row_ok e5 19 (b := tupB K "LETTERS" [.str "a", .str "b", .str "c", .str "d"]) rfl) H)⟩
end
/-! ### the run of the top -/
open PySem.W PySem.Calls PyProof.Rows in
abbrev R : PySem.W.OpenRow := PySem.W.OpenLaw.row PySem.Challenge.rw_staytallies_k27_whole_meters
abbrev qv : Program := PySem.W.view R.prog [32]
def lo_0 : List Str := ["TallyError", "BadStands", "BadSteps", "BadEnds", "BadMachine", "BadLetter", "MOST_STANDS", "MOST_GAIN", "LETTERS", "Machine", "is_whole_number", "is_integer_between", "_is_stand", "_check_stands", "_is_step", "_check_steps", "is_ascending", "_check_ends", "check_machine", "moves_of", "Meter", "_law_taken", "_law_parts", "_law_machine", "_law_next", "_law_way", "_law_read", "_law_is_meter"]
def los : List Str := lo_0
abbrev hk : PySem.W.Hook := hookF nms 4 fns exs
def ob (s : PySem.W.SharedT) : AlF := obsF nms 4 fns exs (HandSHeadRun.getT s)
theorem ob_eq (s : PySem.W.SharedT) : ob s = hk.obs s.abs := by
  have e : HandSHeadRun.getT s = s.abs.heap.get? := funext (HandSHeadRun.getT_eq s)
  show obsF nms 4 fns exs (HandSHeadRun.getT s) = obsF nms 4 fns exs s.abs.heap.get?
  rw [e]
set_option maxHeartbeats 0 in
theorem run_at1 (w : World) : (HandSHeadRun.wholeF (fun p => HandSHeadRun.stepQ (HandSHeadRun.denQ HandSHeadRun.tabQ) p w) HandSHeadRun.fenceQ 20000 R.prog).map (fun x => HandSHeadRun.looksF R.prog x.1.heap x.2.abs) = some true := by
  kernel_rfl
set_option maxHeartbeats 0 in
theorem run_at2 (w : World) : (HandSHeadRun.wholeF (fun p => HandSHeadRun.stepQ (HandSHeadRun.denQ HandSHeadRun.tabQ) p w) HandSHeadRun.fenceQ 20000 R.prog).map (fun x => HandSHeadRun.seenQ qv los (PySem.importedModules R.prog.main.body) (fun s => PySem.W.xlAt qv [] s && PySem.W.recOk R.toRowW.records s) x.2.abs) = some (PySem.W.openGood qv los) := by
  kernel_rfl
set_option maxHeartbeats 0 in
theorem run_at3 (w : World) : (HandSHeadRun.wholeF (fun p => HandSHeadRun.stepQ (HandSHeadRun.denQ HandSHeadRun.tabQ) p w) HandSHeadRun.fenceQ 20000 R.prog).map (fun x => ob x.2) = some (valF fns) := by
  kernel_rfl
theorem run_at (w : World) : HandSHeadRun.RunEqI R qv hk ob 20000 los w := by
  delta HandSHeadRun.RunEqI
  exact map_join (run_at1 w) (run_at2 w) (run_at3 w)
theorem walkH {l : PySem.W.OpenLaw} {q : Program} {loose : List Str} {XP : (Str → Option Value) → Heap → Prop} {YP : World → Heap → Prop} {d : DefRec} (hn : l.most = some 63) (hdf : d.params.defaults = [])
    (F : ∀ (w : World) (mg : Str → Option Value) (fa : Addr) (h : Heap), YP w h → h.Ns mainGlobals mg → mg d.name = some (.ref fa) → ∃ K : PySem.W.Frag, K.In h ∧
      ∃ fd : FuncData, (∀ (s : Shared) (u : Value), BindsTo s fd ⟨[u], []⟩ [("_law_script", u)]) ∧ ∀ base : Heap, K.In base → base.Ns mainGlobals mg → FnOk l.prog w K mg base (L2.CX l.prog w) 30 fa fd ["_law_script"] (sp_law K)) :
    PySem.W.WalkO q loose XP YP l.row.toRowW d [] (fun f vs => PySem.call f vs) := by
  refine Att.attach_call hn hdf fun w s₀ s₁ mg mb fa o pm cd doc a vs ns G Y ho hd hcd hmg hobj hints hlen hg => ?_
  obtain ⟨K, KX, fd, hb, hF⟩ := F w mg fa _ Y G.T.g hmg
  refine law_call KX G.T.g G.T.b G.T.builtins G.T.nolimit hg hobj hints (Nat.le_trans hlen (by decide)) ⟨rfl, by decide, by decide⟩ hF hb (fun H hO hS => ⟨a, ns, rfl, by
      rcases hS with (e | ⟨o, e⟩) | h
      · rcases hO a with z | ⟨_, _, z⟩
        · rw [e] at z; cases z
        · rw [e] at z; cases z
      · exact .inl ⟨o, e⟩
      · exact .inr fun _ => .inr h, hlen, fun _ => rfl⟩) fun H e s' h => ?_
  obtain ⟨_, _, _, _, _, _, _, _, _, _, _, _, z⟩ := h
  exact z.elim
end Sv
open PySem PySem.W PySem.Calls PyProof.Rows in
set_option maxRecDepth 100000 in
set_option maxHeartbeats 0 in
theorem PySem.Challenge.cw_staytallies_k27_whole_meters_holds : PySem.Challenge.rw_staytallies_k27_whole_meters.Holds := by
  w_on; o_law
  refine HandSHeadRun.head_imp (r := Sv.R) (q := Sv.qv) (H := Sv.hk) (ob := Sv.ob) (M := 20000) (loose := Sv.los) (d := HandSHeadRun.topDef Sv.R.prog 32) (kwd := []) Sv.ob_eq Sv.run_at (by kernel_rfl) (by kernel_rfl) (by kernel_rfl) (by rfl) (by first | assumption | decide +kernel) (by decide +kernel) ⟨rfl, rfl, rfl, rfl, rfl, by decide +kernel⟩ ?hw ?hc
  case hw => w_witness2
  case hc =>
    refine Sv.walkH (l := PySem.Challenge.rw_staytallies_k27_whole_meters) rfl (by kernel_rfl) ?F
    intro w mg fa h Y G hmg
    obtain ⟨K, KX, he, hf⟩ := Y
    have hmg2 : mg "law" = some (.ref fa) := by
      have e : (HandSHeadRun.topDef Sv.R.prog 32).name = ("law" : PySem.Str) := by kernel_rfl
      rw [← e]
      exact hmg
    obtain ⟨T⟩ := Sv.txt_of KX G he hf
    exact ⟨K, KX, Sv.all_mk T hmg2⟩
#print axioms PySem.Challenge.cw_staytallies_k27_whole_meters_holds
