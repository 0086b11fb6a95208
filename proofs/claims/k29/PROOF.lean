import PyProof.Rows.All
import Wide.All
import OpenK.AllK
import Wide.FinOn
import HandS.ForMost
import HandS.ForExc
import HandS.Wide
import HandS.Property
import HandS.IsInst
import HandS.TupAny
import HandS.TupLe
import HandS.Style
import HandS.Flow
import HandS.ExcInit
import HandS.ExcField
import HandS.FStr
import HandS.OwnEq
import KE.GoesMore
import HandS.Codes
import HandS.DictComp
import HandS.Walk
import HandS.SortInts
import HandS.TupMul
import HandS.Gcd
import HandS.Head3
import HandS.HeadHook2
import HandS.StrMore
import HandS.RaiseMore
import PySem.Challenge.RW_staytallies_k29_texts_refused
set_option Elab.async false
set_option linter.all false
set_option maxRecDepth 100000
set_option maxHeartbeats 4000000
namespace Sv
open PySem L2
def top (i : Nat) : Stmt := PySem.Challenge.pw_staytallies_k29_texts_refused.main.body.getD i (.Pass ⟨0, 0, 0, 0⟩)
abbrev s_InvalidText_init : Stmt := (inClass (top 5) 0)
abbrev s_Machine_init : Stmt := (inClass (top 10) 0)
abbrev s_is_whole_number : Stmt := (top 11)
abbrev s_is_integer_between : Stmt := (top 12)
abbrev s_is_stand : Stmt := (top 13)
abbrev s_check_stands : Stmt := (top 14)
abbrev s_is_step : Stmt := (top 15)
abbrev s_check_steps : Stmt := (top 16)
abbrev s_is_ascending : Stmt := (top 17)
abbrev s_check_ends : Stmt := (top 18)
abbrev s_number : Stmt := (top 20)
abbrev s_LineReader_init : Stmt := (inClass (top 21) 0)
abbrev s_LineReader_is_over : Stmt := (inClass (top 21) 1)
abbrev s_LineReader_fail : Stmt := (inClass (top 21) 2)
abbrev s_LineReader_take : Stmt := (inClass (top 21) 3)
abbrev s_LineReader_take_number : Stmt := (inClass (top 21) 4)
abbrev s_LineReader_finish : Stmt := (inClass (top 21) 5)
abbrev s_read_stands : Stmt := (top 22)
abbrev s_read_ends : Stmt := (top 23)
abbrev s_read_step : Stmt := (top 24)
abbrev s_read : Stmt := (top 25)
abbrev s_law_taken : Stmt := (top 27)
abbrev s_law_parts : Stmt := (top 28)
abbrev s_law_text : Stmt := (top 29)
abbrev s_law_gain : Stmt := (top 30)
abbrev s_law_step : Stmt := (top 31)
abbrev s_law_wrong : Stmt := (top 32)
abbrev s_law_refused : Stmt := (top 33)
abbrev s_law : Stmt := (top 34)
theorem sc_InvalidText_init : FnScope ["self", "line", "word"] ["self", "line", "word"] (defScope s_InvalidText_init) := ⟨rfl, rfl, rfl, by decide +kernel, rfl, by decide +kernel, by decide +kernel⟩
theorem sc_Machine_init : FnScope ["self", "stands", "steps", "ends"] ["self", "stands", "steps", "ends"] (defScope s_Machine_init) := ⟨rfl, rfl, rfl, by decide +kernel, rfl, by decide +kernel, by decide +kernel⟩
theorem sc_is_whole_number : FnScope ["value"] ["value"] (defScope s_is_whole_number) := ⟨rfl, rfl, rfl, by decide +kernel, rfl, by decide +kernel, by decide +kernel⟩
theorem sc_is_integer_between : FnScope ["value", "least", "most"] ["value", "least", "most"] (defScope s_is_integer_between) := ⟨rfl, rfl, rfl, by decide +kernel, rfl, by decide +kernel, by decide +kernel⟩
theorem sc_is_stand : FnScope ["stands", "value"] ["stands", "value"] (defScope s_is_stand) := ⟨rfl, rfl, rfl, by decide +kernel, rfl, by decide +kernel, by decide +kernel⟩
theorem sc_check_stands : FnScope ["stands"] ["stands"] (defScope s_check_stands) := ⟨rfl, rfl, rfl, by decide +kernel, rfl, by decide +kernel, by decide +kernel⟩
theorem sc_is_step : FnScope ["stands", "value", "begun", "letter", "end", "gain"] ["stands", "value"] (defScope s_is_step) := ⟨rfl, rfl, rfl, by decide +kernel, rfl, by decide +kernel, by decide +kernel⟩
theorem sc_check_steps : FnScope ["stands", "steps", "index", "step"] ["stands", "steps"] (defScope s_check_steps) := ⟨rfl, rfl, rfl, by decide +kernel, rfl, by decide +kernel, by decide +kernel⟩
theorem sc_is_ascending : FnScope ["value", "many", "least", "number"] ["value", "many"] (defScope s_is_ascending) := ⟨rfl, rfl, rfl, by decide +kernel, rfl, by decide +kernel, by decide +kernel⟩
theorem sc_check_ends : FnScope ["stands", "ends"] ["stands", "ends"] (defScope s_check_ends) := ⟨rfl, rfl, rfl, by decide +kernel, rfl, by decide +kernel, by decide +kernel⟩
theorem sc_number : FnScope ["word", "least", "most", "digits", "number"] ["word", "least", "most"] (defScope s_number) := ⟨rfl, rfl, rfl, by decide +kernel, rfl, by decide +kernel, by decide +kernel⟩
theorem sc_LineReader_init : FnScope ["self", "place", "words", "word"] ["self", "place", "words"] (defScope s_LineReader_init) := ⟨rfl, rfl, rfl, by decide +kernel, rfl, by decide +kernel, by decide +kernel⟩
theorem sc_LineReader_is_over : FnScope ["self"] ["self"] (defScope s_LineReader_is_over) := ⟨rfl, rfl, rfl, by decide +kernel, rfl, by decide +kernel, by decide +kernel⟩
theorem sc_LineReader_fail : FnScope ["self"] ["self"] (defScope s_LineReader_fail) := ⟨rfl, rfl, rfl, by decide +kernel, rfl, by decide +kernel, by decide +kernel⟩
theorem sc_LineReader_take : FnScope ["self", "words"] ["self", "words"] (defScope s_LineReader_take) := ⟨rfl, rfl, rfl, by decide +kernel, rfl, by decide +kernel, by decide +kernel⟩
theorem sc_LineReader_take_number : FnScope ["self", "least", "most", "number"] ["self", "least", "most"] (defScope s_LineReader_take_number) := ⟨rfl, rfl, rfl, by decide +kernel, rfl, by decide +kernel, by decide +kernel⟩
theorem sc_LineReader_finish : FnScope ["self"] ["self"] (defScope s_LineReader_finish) := ⟨rfl, rfl, rfl, by decide +kernel, rfl, by decide +kernel, by decide +kernel⟩
theorem sc_read_stands : FnScope ["line", "stands"] ["line"] (defScope s_read_stands) := ⟨rfl, rfl, rfl, by decide +kernel, rfl, by decide +kernel, by decide +kernel⟩
theorem sc_read_ends : FnScope ["line", "stands", "ends", "least", "end"] ["line", "stands"] (defScope s_read_ends) := ⟨rfl, rfl, rfl, by decide +kernel, rfl, by decide +kernel, by decide +kernel⟩
theorem sc_read_step : FnScope ["line", "stands", "ahead", "least", "last", "begun", "letter", "end", "gain", "later"] ["line", "stands", "ahead"] (defScope s_read_step) := ⟨rfl, rfl, rfl, by decide +kernel, rfl, by decide +kernel, by decide +kernel⟩
theorem sc_read : FnScope ["text", "lines", "stands", "ends", "steps", "ahead", "line", "step", "index", "words"] ["text"] (defScope s_read) := ⟨rfl, rfl, rfl, by decide +kernel, rfl, by decide +kernel, by decide +kernel⟩
theorem sc_law_taken : FnScope ["_law_row", "_law_many", "_law_found", "_law_cell"] ["_law_row", "_law_many"] (defScope s_law_taken) := ⟨rfl, rfl, rfl, by decide +kernel, rfl, by decide +kernel, by decide +kernel⟩
theorem sc_law_parts : FnScope ["_law_row", "_law_stands", "_law_size", "_law_many", "_law_kind", "_law_heights", "_law_steps", "_law_letters", "_law_begun", "_law_letter", "_law_end", "_law_gain_here", "_law_ends", "_law_stand"] ["_law_row", "_law_stands", "_law_size"] (defScope s_law_parts) := ⟨rfl, rfl, rfl, by decide +kernel, rfl, by decide +kernel, by decide +kernel⟩
theorem sc_law_text : FnScope ["_law_d", "_law_found", "_law_begun", "_law_letter", "_law_end", "_law_gain_here"] ["_law_d"] (defScope s_law_text) := ⟨rfl, rfl, rfl, by decide +kernel, rfl, by decide +kernel, by decide +kernel⟩
theorem sc_law_gain : FnScope ["_law_word", "_law_figures", "_law_sign"] ["_law_word"] (defScope s_law_gain) := ⟨rfl, rfl, rfl, by decide +kernel, rfl, by decide +kernel, by decide +kernel⟩
theorem sc_law_step : FnScope ["_law_words", "_law_stands", "_law_ahead"] ["_law_words", "_law_stands", "_law_ahead"] (defScope s_law_step) := ⟨rfl, rfl, rfl, by decide +kernel, rfl, by decide +kernel, by decide +kernel⟩
theorem sc_law_wrong : FnScope ["_law_rows", "_law_stands", "_law_at", "_law_ahead", "_law_k", "_law_wrong_here", "_law_stand"] ["_law_rows"] (defScope s_law_wrong) := ⟨rfl, rfl, rfl, by decide +kernel, rfl, by decide +kernel, by decide +kernel⟩
theorem sc_law_refused : FnScope ["_law_text_here", "_law_found", "e"] ["_law_text_here"] (defScope s_law_refused) := ⟨rfl, rfl, rfl, by decide +kernel, rfl, by decide +kernel, by decide +kernel⟩
theorem sc_law : FnScope ["_law_script", "_law_row", "_law_odd", "_law_turn", "_law_rows", "_law_k", "_law_place", "_law_kind", "_law_words", "_law_spot", "_law_more", "_law_same", "_law_swapped"] ["_law_script"] (defScope s_law) := ⟨rfl, rfl, rfl, by decide +kernel, rfl, by decide +kernel, by decide +kernel⟩
structure Txt (K : PySem.W.Frag) (mg : Str → Option Value) : Type where
  a_InvalidText_init : Addr
  fd_InvalidText_init : FuncData
  F_InvalidText_init : Fun K "__init__" "InvalidText.__init__" s_InvalidText_init a_InvalidText_init fd_InvalidText_init
  b_InvalidText_init : Binds K fd_InvalidText_init ["self", "line", "word"] []
  k_InvalidText_init : PySem.W.keepIn K (.ref a_InvalidText_init) = true
  a_Machine_init : Addr
  fd_Machine_init : FuncData
  F_Machine_init : Fun K "__init__" "Machine.__init__" s_Machine_init a_Machine_init fd_Machine_init
  b_Machine_init : Binds K fd_Machine_init ["self", "stands", "steps", "ends"] []
  k_Machine_init : PySem.W.keepIn K (.ref a_Machine_init) = true
  a_is_whole_number : Addr
  fd_is_whole_number : FuncData
  F_is_whole_number : Fun K "is_whole_number" "is_whole_number" s_is_whole_number a_is_whole_number fd_is_whole_number
  b_is_whole_number : Binds K fd_is_whole_number ["value"] []
  k_is_whole_number : PySem.W.keepIn K (.ref a_is_whole_number) = true
  m_is_whole_number : mg "is_whole_number" = some (.ref a_is_whole_number)
  a_is_integer_between : Addr
  fd_is_integer_between : FuncData
  F_is_integer_between : Fun K "is_integer_between" "is_integer_between" s_is_integer_between a_is_integer_between fd_is_integer_between
  b_is_integer_between : Binds K fd_is_integer_between ["value", "least", "most"] []
  k_is_integer_between : PySem.W.keepIn K (.ref a_is_integer_between) = true
  m_is_integer_between : mg "is_integer_between" = some (.ref a_is_integer_between)
  a_is_stand : Addr
  fd_is_stand : FuncData
  F_is_stand : Fun K "_is_stand" "_is_stand" s_is_stand a_is_stand fd_is_stand
  b_is_stand : Binds K fd_is_stand ["stands", "value"] []
  k_is_stand : PySem.W.keepIn K (.ref a_is_stand) = true
  m_is_stand : mg "_is_stand" = some (.ref a_is_stand)
  a_check_stands : Addr
  fd_check_stands : FuncData
  F_check_stands : Fun K "_check_stands" "_check_stands" s_check_stands a_check_stands fd_check_stands
  b_check_stands : Binds K fd_check_stands ["stands"] []
  k_check_stands : PySem.W.keepIn K (.ref a_check_stands) = true
  m_check_stands : mg "_check_stands" = some (.ref a_check_stands)
  a_is_step : Addr
  fd_is_step : FuncData
  F_is_step : Fun K "_is_step" "_is_step" s_is_step a_is_step fd_is_step
  b_is_step : Binds K fd_is_step ["stands", "value"] []
  k_is_step : PySem.W.keepIn K (.ref a_is_step) = true
  m_is_step : mg "_is_step" = some (.ref a_is_step)
  a_check_steps : Addr
  fd_check_steps : FuncData
  F_check_steps : Fun K "_check_steps" "_check_steps" s_check_steps a_check_steps fd_check_steps
  b_check_steps : Binds K fd_check_steps ["stands", "steps"] []
  k_check_steps : PySem.W.keepIn K (.ref a_check_steps) = true
  m_check_steps : mg "_check_steps" = some (.ref a_check_steps)
  a_is_ascending : Addr
  fd_is_ascending : FuncData
  F_is_ascending : Fun K "is_ascending" "is_ascending" s_is_ascending a_is_ascending fd_is_ascending
  b_is_ascending : Binds K fd_is_ascending ["value", "many"] []
  k_is_ascending : PySem.W.keepIn K (.ref a_is_ascending) = true
  m_is_ascending : mg "is_ascending" = some (.ref a_is_ascending)
  a_check_ends : Addr
  fd_check_ends : FuncData
  F_check_ends : Fun K "_check_ends" "_check_ends" s_check_ends a_check_ends fd_check_ends
  b_check_ends : Binds K fd_check_ends ["stands", "ends"] []
  k_check_ends : PySem.W.keepIn K (.ref a_check_ends) = true
  m_check_ends : mg "_check_ends" = some (.ref a_check_ends)
  a_number : Addr
  fd_number : FuncData
  F_number : Fun K "_number" "_number" s_number a_number fd_number
  b_number : Binds K fd_number ["word", "least", "most"] []
  k_number : PySem.W.keepIn K (.ref a_number) = true
  m_number : mg "_number" = some (.ref a_number)
  a_LineReader_init : Addr
  fd_LineReader_init : FuncData
  F_LineReader_init : Fun K "__init__" "LineReader.__init__" s_LineReader_init a_LineReader_init fd_LineReader_init
  b_LineReader_init : Binds K fd_LineReader_init ["self", "place", "words"] []
  k_LineReader_init : PySem.W.keepIn K (.ref a_LineReader_init) = true
  a_LineReader_is_over : Addr
  fd_LineReader_is_over : FuncData
  F_LineReader_is_over : Fun K "is_over" "LineReader.is_over" s_LineReader_is_over a_LineReader_is_over fd_LineReader_is_over
  b_LineReader_is_over : Binds K fd_LineReader_is_over ["self"] []
  k_LineReader_is_over : PySem.W.keepIn K (.ref a_LineReader_is_over) = true
  a_LineReader_fail : Addr
  fd_LineReader_fail : FuncData
  F_LineReader_fail : Fun K "fail" "LineReader.fail" s_LineReader_fail a_LineReader_fail fd_LineReader_fail
  b_LineReader_fail : Binds K fd_LineReader_fail ["self"] []
  k_LineReader_fail : PySem.W.keepIn K (.ref a_LineReader_fail) = true
  a_LineReader_take : Addr
  fd_LineReader_take : FuncData
  F_LineReader_take : Fun K "take" "LineReader.take" s_LineReader_take a_LineReader_take fd_LineReader_take
  b_LineReader_take : Binds K fd_LineReader_take ["self", "words"] []
  k_LineReader_take : PySem.W.keepIn K (.ref a_LineReader_take) = true
  a_LineReader_take_number : Addr
  fd_LineReader_take_number : FuncData
  F_LineReader_take_number : Fun K "take_number" "LineReader.take_number" s_LineReader_take_number a_LineReader_take_number fd_LineReader_take_number
  b_LineReader_take_number : Binds K fd_LineReader_take_number ["self", "least", "most"] []
  k_LineReader_take_number : PySem.W.keepIn K (.ref a_LineReader_take_number) = true
  a_LineReader_finish : Addr
  fd_LineReader_finish : FuncData
  F_LineReader_finish : Fun K "finish" "LineReader.finish" s_LineReader_finish a_LineReader_finish fd_LineReader_finish
  b_LineReader_finish : Binds K fd_LineReader_finish ["self"] []
  k_LineReader_finish : PySem.W.keepIn K (.ref a_LineReader_finish) = true
  a_read_stands : Addr
  fd_read_stands : FuncData
  F_read_stands : Fun K "_read_stands" "_read_stands" s_read_stands a_read_stands fd_read_stands
  b_read_stands : Binds K fd_read_stands ["line"] []
  k_read_stands : PySem.W.keepIn K (.ref a_read_stands) = true
  m_read_stands : mg "_read_stands" = some (.ref a_read_stands)
  a_read_ends : Addr
  fd_read_ends : FuncData
  F_read_ends : Fun K "_read_ends" "_read_ends" s_read_ends a_read_ends fd_read_ends
  b_read_ends : Binds K fd_read_ends ["line", "stands"] []
  k_read_ends : PySem.W.keepIn K (.ref a_read_ends) = true
  m_read_ends : mg "_read_ends" = some (.ref a_read_ends)
  a_read_step : Addr
  fd_read_step : FuncData
  F_read_step : Fun K "_read_step" "_read_step" s_read_step a_read_step fd_read_step
  b_read_step : Binds K fd_read_step ["line", "stands", "ahead"] []
  k_read_step : PySem.W.keepIn K (.ref a_read_step) = true
  m_read_step : mg "_read_step" = some (.ref a_read_step)
  a_read : Addr
  fd_read : FuncData
  F_read : Fun K "read" "read" s_read a_read fd_read
  b_read : Binds K fd_read ["text"] []
  k_read : PySem.W.keepIn K (.ref a_read) = true
  m_read : mg "read" = some (.ref a_read)
  a_law_taken : Addr
  fd_law_taken : FuncData
  F_law_taken : Fun K "_law_taken" "_law_taken" s_law_taken a_law_taken fd_law_taken
  b_law_taken : Binds K fd_law_taken ["_law_row", "_law_many"] []
  k_law_taken : PySem.W.keepIn K (.ref a_law_taken) = true
  m_law_taken : mg "_law_taken" = some (.ref a_law_taken)
  a_law_parts : Addr
  fd_law_parts : FuncData
  F_law_parts : Fun K "_law_parts" "_law_parts" s_law_parts a_law_parts fd_law_parts
  b_law_parts : Binds K fd_law_parts ["_law_row", "_law_stands", "_law_size"] []
  k_law_parts : PySem.W.keepIn K (.ref a_law_parts) = true
  m_law_parts : mg "_law_parts" = some (.ref a_law_parts)
  a_law_text : Addr
  fd_law_text : FuncData
  F_law_text : Fun K "_law_text" "_law_text" s_law_text a_law_text fd_law_text
  b_law_text : Binds K fd_law_text ["_law_d"] []
  k_law_text : PySem.W.keepIn K (.ref a_law_text) = true
  m_law_text : mg "_law_text" = some (.ref a_law_text)
  a_law_gain : Addr
  fd_law_gain : FuncData
  F_law_gain : Fun K "_law_gain" "_law_gain" s_law_gain a_law_gain fd_law_gain
  b_law_gain : Binds K fd_law_gain ["_law_word"] []
  k_law_gain : PySem.W.keepIn K (.ref a_law_gain) = true
  m_law_gain : mg "_law_gain" = some (.ref a_law_gain)
  a_law_step : Addr
  fd_law_step : FuncData
  F_law_step : Fun K "_law_step" "_law_step" s_law_step a_law_step fd_law_step
  b_law_step : Binds K fd_law_step ["_law_words", "_law_stands", "_law_ahead"] []
  k_law_step : PySem.W.keepIn K (.ref a_law_step) = true
  m_law_step : mg "_law_step" = some (.ref a_law_step)
  a_law_wrong : Addr
  fd_law_wrong : FuncData
  F_law_wrong : Fun K "_law_wrong" "_law_wrong" s_law_wrong a_law_wrong fd_law_wrong
  b_law_wrong : Binds K fd_law_wrong ["_law_rows"] []
  k_law_wrong : PySem.W.keepIn K (.ref a_law_wrong) = true
  m_law_wrong : mg "_law_wrong" = some (.ref a_law_wrong)
  a_law_refused : Addr
  fd_law_refused : FuncData
  F_law_refused : Fun K "_law_refused" "_law_refused" s_law_refused a_law_refused fd_law_refused
  b_law_refused : Binds K fd_law_refused ["_law_text_here"] []
  k_law_refused : PySem.W.keepIn K (.ref a_law_refused) = true
  m_law_refused : mg "_law_refused" = some (.ref a_law_refused)
  a_law : Addr
  fd_law : FuncData
  F_law : Fun K "law" "law" s_law a_law fd_law
  b_law : Binds K fd_law ["_law_script"] []
  k_law : PySem.W.keepIn K (.ref a_law) = true
  m_law : mg "law" = some (.ref a_law)
  c_Machine : Addr
  cl_Machine : Cls K c_Machine
  m_Machine : mg "Machine" = some (.ref c_Machine)
  mk_Machine : Mk K c_Machine a_Machine_init
  n__stands : NoAttr K c_Machine "_stands"
  n__steps : NoAttr K c_Machine "_steps"
  n__ends : NoAttr K c_Machine "_ends"
  i1_Machine : PySem.W.findIn K (.ref c_Machine) "__class__" = some (some (.builtin "object.__class__"))
  i2_Machine : PySem.W.specialIn K (.builtin "object.__class__") "__get__" = some (some (.builtin "getset_descriptor.__get__"))
  i3_Machine : PySem.W.takesIn K (.builtin "object.__class__") = some true
  i4_Machine : PySem.W.mroIn K c_Machine (.type "object") = some true
  c_LineReader : Addr
  cl_LineReader : Cls K c_LineReader
  m_LineReader : mg "LineReader" = some (.ref c_LineReader)
  mk_LineReader : Mk K c_LineReader a_LineReader_init
  n__place : NoAttr K c_LineReader "_place"
  n__words : NoAttr K c_LineReader "_words"
  n__taken : NoAttr K c_LineReader "_taken"
  h_LineReader_is_over : Meth K c_LineReader "is_over" a_LineReader_is_over
  h_LineReader_fail : Meth K c_LineReader "fail" a_LineReader_fail
  h_LineReader_take : Meth K c_LineReader "take" a_LineReader_take
  h_LineReader_take_number : Meth K c_LineReader "take_number" a_LineReader_take_number
  h_LineReader_finish : Meth K c_LineReader "finish" a_LineReader_finish
  c_InvalidText : Addr
  m_InvalidText : mg "InvalidText" = some (.ref c_InvalidText)
  o_InvalidText : OexC K c_InvalidText
  xf_InvalidText : XfC K c_InvalidText
  ie_InvalidText : PySem.W.findIn K (.ref c_InvalidText) "__init__" = some (some (.ref a_InvalidText_init))
  ti_InvalidText : PySem.W.typeIn K (.ref a_InvalidText_init) = some (.type "function")
  e_InvalidText : PySem.W.exmOne K (.ref c_InvalidText) (.ref c_InvalidText) = some true
  no_InvalidText_line : PySem.W.findIn K (.ref c_InvalidText) "line" = some none
  no_InvalidText_word : PySem.W.findIn K (.ref c_InvalidText) "word" = some none
  c_TallyError : Addr
  m_TallyError : mg "TallyError" = some (.ref c_TallyError)
  rd_TallyError : PySem.W.readsIn K c_TallyError (.type "type") = true
  fv_TallyError : PySem.W.findCls K (.ref c_TallyError) (.type "type") "__init__" = some (.val (.builtin "ValueError.__init__"))
  sg_TallyError : PySem.W.specialIn K (.ref c_TallyError) "__getattribute__" = some (some (.builtin "type.__getattribute__"))
  u_MOST_STANDS : Value
  m_MOST_STANDS : mg "MOST_STANDS" = some u_MOST_STANDS
  r_MOST_STANDS : RelV (V.int 8) u_MOST_STANDS
  u_MOST_GAIN : Value
  m_MOST_GAIN : mg "MOST_GAIN" = some u_MOST_GAIN
  r_MOST_GAIN : RelV (V.int 1000000000000000000000000000000) u_MOST_GAIN
  a_LETTERS : Addr
  m_LETTERS : mg "LETTERS" = some (.ref a_LETTERS)
  r_LETTERS : RelV (V.ref a_LETTERS) (.ref a_LETTERS)
  s_LETTERS : ∀ H : Hp, SqT K H a_LETTERS [V.str "a", V.str "b", V.str "c", V.str "d"]
  z_all : mg "all" = none
  z_bool : mg "bool" = none
  z_enumerate : mg "enumerate" = none
  z_int : mg "int" = none
  z_isinstance : mg "isinstance" = none
  z_len : mg "len" = none
  z_list : mg "list" = none
  z_range : mg "range" = none
  z_str : mg "str" = none
  z_tuple : mg "tuple" = none
  bs_law : ∀ (s : Shared) (v : Value), BindsTo s fd_law ⟨[v], []⟩ [("_law_script", v)]
/-! ### heaps -/
/-- all but a stands as it was -/
def Keep (a : Addr) (H H' : Hp) : Prop := ∀ b o, b ≠ a → H b = some o → H' b = some o
theorem Keep.refl (a : Addr) (H : Hp) : Keep a H H := fun _ _ _ h => h
theorem Keep.trans {a : Addr} {H H1 H2 : Hp} (x : Keep a H H1) (y : Keep a H1 H2) : Keep a H H2 := fun b o n h => y b o n (x b o n h)
theorem Keep.at_ {a : Addr} {H : Hp} {o : HO} : Keep a H (upd H a o) := fun b u n h => by rw [upd_ne n]; exact h
theorem Keep.new {a p : Addr} {H : Hp} {o : HO} (hp : H p = none) : Keep a H (upd H p o) := fun b u _ h => by rw [upd_ne (ne_of_none h hp)]; exact h
theorem Keep.of_same {a : Addr} {H H' : Hp} (x : Same H H') : Keep a H H' := fun b o _ h => x b o h
theorem Same.new {p : Addr} {H : Hp} {o : HO} (hp : H p = none) : Same H (upd H p o) := fun b u h => by rw [upd_ne (ne_of_none h hp)]; exact h
theorem Keep.free {a p : Addr} {H H' : Hp} (x : Keep a H H') (n : p ≠ a) (h : H' p = none) : H p = none := by
  cases q : H p with
  | none => rfl
  | some o => rw [x p o n q] at h; cases h
/-- what H does not know may change -/
theorem Keep.mut {a p : Addr} {H H' : Hp} {o : HO} (x : Keep a H H') (hp : H p = none) : Keep a H (upd H' p o) := fun b u n h => by rw [upd_ne (ne_of_none h hp)]; exact x b u n h
theorem Keep.tup {K : PySem.W.Frag} {a b : Addr} {H H' : Hp} {xs : List V} (x : Keep a H H') (ha : ∃ l, H a = some (.lst l)) (h : SqT K H b xs) : SqT K H' b xs := by
  obtain ⟨l, ha⟩ := ha
  rcases h with (h | ⟨o, h⟩) | h
  · exact .inl (.inl (x _ _ (fun e => by rw [e, ha] at h; cases h) h))
  · exact .inl (.inr ⟨o, x _ _ (fun e => by rw [e, ha] at h; cases h) h⟩)
  · exact .inr h
theorem Keep.lst {K : PySem.W.Frag} {a b : Addr} {H H' : Hp} {xs : List V} (x : Keep a H H') (n : b ≠ a) (h : SqL K H b xs) : SqL K H' b xs := by
  rcases h with (h | ⟨o, h⟩) | h
  · exact .inl (.inl (x _ _ n h))
  · exact .inl (.inr ⟨o, x _ _ n h⟩)
  · exact .inr h
/-- the script: known to the object, or of the written part -/
def ScAt (K : PySem.W.Frag) (H : Hp) (b : Addr) (xs : List V) : Prop := (∃ o, H b = some (.frz o (.lst xs))) ∨ ∀ H', SqL K H' b xs
theorem ScAt.sq {K : PySem.W.Frag} {H : Hp} {b : Addr} {xs : List V} (h : ScAt K H b xs) : SqL K H b xs := by
  rcases h with ⟨o, h⟩ | h
  · exact .inl (.inr ⟨o, h⟩)
  · exact h H
theorem ScAt.keep {K : PySem.W.Frag} {a b : Addr} {H H' : Hp} {xs l : List V} (h : ScAt K H b xs) (k : Keep a H H') (ha : H a = some (.lst l)) : ScAt K H' b xs := by
  rcases h with ⟨o, h⟩ | h
  · exact .inl ⟨o, k _ _ (fun z => by rw [z, ha] at h; cases h) h⟩
  · exact .inr h
theorem ScAt.same {K : PySem.W.Frag} {b : Addr} {H H' : Hp} {xs : List V} (h : ScAt K H b xs) (k : Same H H') : ScAt K H' b xs := by
  rcases h with ⟨o, h⟩ | h
  · exact .inl ⟨o, k _ _ h⟩
  · exact .inr h
/-- the draws' row at a: the script, how many were read, the mixed number, the rest -/
def RowOk (K : PySem.W.Frag) (H : Hp) (a : Addr) : Prop := ∃ (sc : Addr) (ns : List Int) (i z r : Int), H a = some (.lst [.ref sc, .int i, .int z, .int r]) ∧ ScAt K H sc (ns.map V.int) ∧ ns.length ≤ 63 ∧ 0 ≤ i ∧ 0 ≤ z ∧ z < 2147483647
theorem RowOk.lst {K : PySem.W.Frag} {H : Hp} {a : Addr} (h : RowOk K H a) : ∃ l, H a = some (.lst l) := by
  obtain ⟨_, _, _, _, _, e, _⟩ := h; exact ⟨_, e⟩
/-- behind a step that leaves the row and the script as they were -/
theorem RowOk.same {K : PySem.W.Frag} {H H' : Hp} {a : Addr} (h : RowOk K H a) (s : Same H H') : RowOk K H' a := by
  obtain ⟨sc, ns, i, z, r, e, q, rest⟩ := h
  exact ⟨sc, ns, i, z, r, s _ _ e, q.same s, rest⟩
theorem RowOk.keep {K : PySem.W.Frag} {H H' : Hp} {a l : Addr} {xs : List V} (h : RowOk K H a) (n : a ≠ l) (e : H l = some (.lst xs)) (k : Keep l H H') : RowOk K H' a := by
  obtain ⟨sc, is, i, z, r, ea, q, rest⟩ := h
  exact ⟨sc, is, i, z, r, k _ _ n ea, q.keep k e, rest⟩
theorem RowOk.ne {K : PySem.W.Frag} {H : Hp} {a p : Addr} (h : RowOk K H a) (e : H p = none) : a ≠ p := by
  obtain ⟨l, q⟩ := h.lst
  exact ne_of_none q e
theorem tupl_upd {H : Hp} {F x : Addr} {o : HO} {ys : List V} (hF : ∀ xs, H F ≠ some (.tup xs)) (h : H x = some (.tup ys)) : (upd H F o) x = some (.tup ys) := by
  rw [upd_ne (fun e => hF ys (by rw [← e]; exact h))]
  exact h
theorem free_of {H H' : Hp} {q : Addr} (z : Same H H') (hq : H' q = none) : H q = none := by
  cases e : H q with
  | none => rfl
  | some ob => rw [z _ _ e] at hq; cases hq
theorem unlock_same {H2 H' : Hp} {e : Addr} {od : _} {kvs : List (Key × V)} (he : H2 e = some (.dK kvs)) (z : Same (upd H2 e (.frz od (.dK kvs))) H') : Same H2 (upd H' e (.dK kvs)) := fun b o eb => by
  by_cases c : b = e
  · rw [c, he] at eb
    rw [c, upd_same]
    exact eb
  · rw [upd_ne c]
    exact z _ _ (by rw [upd_ne c]; exact eb)
/-! ### steps: one a combinator -/
section
variable {K : PySem.W.Frag} {σ : L2.St} {H : Hp} {D : Ends} {Q : VK}
theorem k_seq {t u : TS} (h : t { D with nx := u D } σ H) : tSeq t u D σ H := h
theorem k_ifS {c : TT} {t u : TS} (h : c σ H fun b H1 => if b = true then t D σ H1 else u D σ H1) : tIfS c t u D σ H := h
theorem k_asg {te : TE} {g : TG} (h : te σ H fun x H1 => g x σ H1 D.nx) : tAsg te g D σ H := h
theorem k_ret {te : TE} (h : te σ H D.rt) : tRet te D σ H := h
theorem k_retN (h : D.rt .non H) : tRetN D σ H := h
theorem k_next (h : D.nx σ H) : tNext D σ H := h
theorem k_cont (h : D.ct σ H) : tCont D σ H := h
theorem k_break (h : D.bk σ H) : tBreak D σ H := h
theorem k_drop {te : TE} (h : te σ H fun _ H1 => D.nx σ H1) : tDrop te D σ H := h
theorem k_par {i j : Nat} {ta : TA} (h : ta σ H fun vs H1 => ∃ v w, vs = [v, w] ∧ D.nx ((σ.set i (some v)).set j (some w)) H1) : tPar i j ta D σ H := h
theorem k_two {p : V → V → Prop} {a b : V} (h : p a b) : ∃ v w, [a, b] = [v, w] ∧ p v w := ⟨a, b, rfl, h⟩
theorem k_var {i : Nat} {v : V} (e : σ[i]? = some (some v)) (h : Q v H) : tVar i σ H Q := ⟨v, e, h⟩
theorem k_c {v : V} (h : Q v H) : tC v σ H Q := h
theorem k_op {r : R2} {ta tb : TE} (h : ta σ H fun x H1 => tb σ H1 fun y H2 => r x y H2 Q) : tOp r ta tb σ H Q := h
theorem k_un {r : V → Hp → VK → Prop} {ta : TE} (h : ta σ H fun x H1 => r x H1 Q) : tUn r ta σ H Q := h
theorem k_cb {r : List V → Hp → VK → Prop} {t : TA} (h : t σ H fun vs H1 => r vs H1 Q) : tCB r t σ H Q := h
theorem k_cons {ta : TE} {tr : TA} {R : List V → Hp → Prop} (h : ta σ H fun x H1 => tr σ H1 fun xs H2 => R (x :: xs) H2) : tCons ta tr σ H R := h
theorem k_nil {R : List V → Hp → Prop} (h : R [] H) : tNil σ H R := h
theorem k_call {sp : Sp} {dvs : List V} {E : XK} {t : TA} (h : t σ H fun vs H1 => sp (vs ++ dvs) H1 Q E) : tCall sp dvs E t σ H Q := h
theorem k_make {C : Addr} {sp : Sp} {dvs : List V} {E : XK} {t : TA} (h : t σ H fun vs H1 => ∀ x dx, H1 x = none → H1 dx = none → dx ≠ x →
  sp (.ref x :: (vs ++ dvs)) (upd (upd H1 dx (.own x)) x (.ins C dx [])) (fun v H2 => v = .non ∧ Q (.ref x) H2) E) : tMake C sp dvs E t σ H Q := h
theorem k_test {t : TE} {R : Bool → Hp → Prop} (h : t σ H fun x H' => ∃ k, x = .bl k ∧ R k H') : tTest t σ H R := h
theorem k_tB {t : TE} {R : Bool → Hp → Prop} (h : t σ H fun x H' => ∃ k, x = .bl k ∧ R k H') : tB t σ H R := h
theorem k_bl {b : Bool} {R : Bool → Prop} (h : R b) : ∃ k, V.bl b = .bl k ∧ R k := ⟨b, rfl, h⟩
theorem k_and {t u : TT} {R : Bool → Hp → Prop} (h : t σ H fun c H1 => if c = true then u σ H1 R else R false H1) : tAnd t u σ H R := h
theorem k_or {t u : TT} {R : Bool → Hp → Prop} (h : t σ H fun c H1 => if c = true then R true H1 else u σ H1 R) : tOr t u σ H R := h
theorem k_not {t : TT} {R : Bool → Hp → Prop} (h : t σ H fun c H1 => R (!c) H1) : tNot t σ H R := h
theorem k_andV {ta tb : TE} (h : ta σ H fun x H1 => ∃ c, x = .bl c ∧ if c = true then tb σ H1 Q else Q (.bl false) H1) : tAndV ta tb σ H Q := h
theorem k_orV {ta tb : TE} (h : ta σ H fun x H1 => ∃ c, x = .bl c ∧ if c = true then Q (.bl true) H1 else tb σ H1 Q) : tOrV ta tb σ H Q := h
theorem k_notV {ta : TE} (h : ta σ H fun x H1 => ∃ c, x = .bl c ∧ Q (.bl (!c)) H1) : tNotV ta σ H Q := h
theorem k_ifE {t : TT} {ta tb : TE} (h : t σ H fun c H1 => if c = true then ta σ H1 Q else tb σ H1 Q) : tIf t ta tb σ H Q := h
theorem k_isN {ta : TE} (h : ta σ H fun x H1 => Q (.bl (decide (x = .non))) H1) : tIsN ta σ H Q := h
theorem k_notN {ta : TE} (h : ta σ H fun x H1 => Q (.bl (!decide (x = .non))) H1) : tNotN ta σ H Q := h
theorem k_name {i : Nat} {v : V} {R : L2.St → Hp → Prop} (h : R (σ.set i (some v)) H) : gName i v σ H R := h
theorem k_sub {to ti : TE} {t : TSet} {v : V} {R : L2.St → Hp → Prop} (h : to σ H fun o H1 => ti σ H1 fun i H2 => t o i v H2 fun H3 => R σ H3) : gSub to ti t v σ H R := h
theorem k_gt {n : Nat} {t : TGs} {R : L2.St → Hp → Prop} {a : Addr} {xs : List V} (h : SqT K H a xs) (e : xs.length = n) (q : t xs σ H R) : gTup K n t (.ref a) σ H R := ⟨a, xs, rfl, h, e, q⟩
theorem k_gn {R : L2.St → Hp → Prop} (h : R σ H) : gNil [] σ H R := ⟨rfl, h⟩
theorem k_gc {t : TG} {u : TGs} {v : V} {vs : List V} {R : L2.St → Hp → Prop} (h : t v σ H fun σ' H' => u vs σ' H' R) : gCons t u (v :: vs) σ H R := ⟨v, vs, rfl, h⟩
theorem k_I0 {g : Int → Int → V} {i j : Int} (h : Q (g i j) H) : rI0 g (.int i) (.int j) H Q := ⟨i, j, rfl, rfl, h⟩
theorem k_I {C : Int → Int → Prop} {g : Int → Int → V} {i j : Int} (c : C i j) (h : Q (g i j) H) : rI C g (.int i) (.int j) H Q := ⟨i, j, rfl, rfl, c, h⟩
theorem k_U {g : Int → V} {i : Int} (h : Q (g i) H) : rU g (.int i) H Q := ⟨i, rfl, h⟩
theorem k_eq {x y : V} (e : scal x y = true) (h : Q (.bl (decide (x = y))) H) : rEq x y H Q := ⟨e, h⟩
theorem k_ne {x y : V} (e : scal x y = true) (h : Q (.bl (!decide (x = y))) H) : rNe x y H Q := ⟨e, h⟩
theorem k_ixL {p : Addr} {xs : List V} {i : Int} {v : V} (h : SqL K H p xs) (e : atI xs i = some v) (q : Q v H) : rIxL K (.ref p) (.int i) H Q := ⟨p, xs, i, v, rfl, rfl, h, e, q⟩
theorem k_ixT {p : Addr} {xs : List V} {i : Int} {v : V} (h : SqT K H p xs) (e : atI xs i = some v) (q : Q v H) : rIxT K (.ref p) (.int i) H Q := ⟨p, xs, i, v, rfl, rfl, h, e, q⟩
theorem k_setL {p : Addr} {xs : List V} {k : Int} {j : Nat} {v : V} {R : Hp → Prop} (h : H p = some (.lst xs)) (e : ixN xs.length k = some j) (q : R (upd H p (.lst (xs.set j v)))) : rSetL (.ref p) (.int k) v H R := ⟨p, xs, k, j, rfl, rfl, h, e, q⟩
theorem k_tup {t : TA} (h : t σ H fun xs H1 => xs.length ≤ sizeLine ∧ ∀ p, H1 p = none → Q (.ref p) (upd H1 p (.tup xs))) : tTup t σ H Q := h
theorem k_lst {t : TA} (h : t σ H fun xs H1 => xs.length ≤ sizeLine ∧ ∀ p, H1 p = none → Q (.ref p) (upd H1 p (.lst xs))) : tLst t σ H Q := h
theorem k_bm {T : String} {r : V → List V → Hp → VK → Prop} {to : TE} {t : TA} (h : to σ H fun x H1 => tyV K T x H1 ∧ t σ H1 fun xs H2 => r x xs H2 Q) : tBM K T r to t σ H Q := h
theorem k_append {l : Addr} {xs : List V} {y : V} (h : H l = some (.lst xs)) (e : xs.length < sizeLine) (q : Q .non (upd H l (.lst (xs ++ [y])))) : rAppend (.ref l) [y] H Q := ⟨l, xs, y, rfl, rfl, h, e, q⟩
theorem k_dget {td ty : TE} (h : td σ H fun x H1 => ty σ H1 fun y H2 => ∃ a v, x = .ref a ∧ DGet H2 a y (some v) ∧ Q v H2) : tDGet td ty σ H Q := h
theorem k_dg {a : Addr} {y v : V} (h : DGet H a y (some v)) (q : Q v H) : ∃ b u, V.ref a = .ref b ∧ DGet H b y (some u) ∧ Q u H := ⟨a, v, rfl, h, q⟩
theorem k_fld {ta : TE} {f : Str} (h : ta σ H fun x H1 => ∃ a C dx fs v, x = .ref a ∧ H1 a = some (.ins C dx fs) ∧ Cls K C ∧ NoAttr K C f ∧ fs.lookup f = some v ∧ Q v H1) : tFld K ta f σ H Q := h
theorem k_sl {r : V → Option Int → Option Int → Hp → VK → Prop} {te : TE} {tl th : TO} (h : te σ H fun x H1 => tl σ H1 fun l H2 => th σ H2 fun u H3 => r x l u H3 Q) : L2.tSl r te tl th σ H Q := h
theorem k_noPart {R : Option Int → Hp → Prop} (h : R none H) : tNoPart σ H R := h
theorem k_part {t : TE} {R : Option Int → Hp → Prop} (h : t σ H fun x H1 => ∃ i, x = .int i ∧ R (some i) H1) : tPart t σ H R := h
theorem k_int {i : Int} {R : Int → Prop} (h : R i) : ∃ k, V.int i = .int k ∧ R k := ⟨i, rfl, h⟩
theorem k_int1 {i : Int} {R : Int → Prop} {R' : Bool → Prop} (h : R i) : (∃ j, [V.int i] = [V.int j] ∧ R j) ∨ (∃ k, [V.int i] = [V.bl k] ∧ R' k) := .inl ⟨i, rfl, h⟩
theorem k_len {a : Addr} {ys : List V} {R : List V → Prop} (h : SqL K H a ys ∨ SqT K H a ys) (q : R ys) : ∃ p xs, [V.ref a] = [V.ref p] ∧ (SqL K H p xs ∨ SqT K H p xs) ∧ R xs := ⟨a, ys, rfl, h, q⟩
theorem k_disp {trs : List (TE × TE)} (h : ∀ p, H p = none → tPairs trs σ (upd H p (.dK [])) fun ps H2 => H2 p = some (.dK []) ∧ ∃ kvs : List (Key × V), ps = kvs.map (fun kv => (kV kv.1, kv.2)) ∧ kvs.length ≤ 15 ∧ Q (.ref p) (upd H2 p (.dK (mergeK [] kvs)))) : tDisp trs σ H Q := h
theorem k_cut {t u : TS} (M : L2.St → Hp → Prop) (h : t { D with nx := M } σ H) (k : ∀ σ' H', M σ' H' → u D σ' H') : C8.tCut t u D σ H := ⟨M, h, k⟩
theorem k_rng1 {ta : TA} {R : It → Hp → Prop} (h : ta σ H fun vs H1 => ∃ j : Int, vs = [.int j] ∧ -(2 ^ 62) ≤ j ∧ j < 2 ^ 62 ∧ R (Itr 0 j.toNat) H1) : iRng1 ta σ H R := h
theorem k_rg {j : Int} {R : Int → Prop} (h1 : 0 ≤ j) (h2 : j < 2 ^ 62) (q : R j) : ∃ i : Int, [V.int j] = [V.int i] ∧ -(2 ^ 62) ≤ i ∧ i < 2 ^ 62 ∧ R i := ⟨j, rfl, by omega, h2, q⟩
theorem k_for {wi : TI} {g : TG} {tb : TS} (h : wi σ H fun J H1 => ∃ W : Nat → Nat → L2.St → Hp → Prop, (∃ m, W 0 m σ H1) ∧ ∀ i m σ H, W i m σ H →
  (J.stop i H ∧ D.nx σ H) ∨ (J.go i H ∧ ∃ N : L2.St → Hp → Prop, (∀ σ' H', N σ' H' → ∃ m', m' < m ∧ W (i + 1) m' σ' H') ∧ ∀ x H', J.yld i H x H' → g x σ H' fun σ2 H2 => tb { D with nx := N, ct := N, bk := D.nx } σ2 H2)) : tFor wi g tb D σ H := h
theorem k_lc {wi : TI} {g : TG} {tt : TT} {te : TE} {vs : List Nat} (h : wi σ H fun J H1 => ∀ D, H1 D = none → ∃ W : Nat → Nat → Hp → Prop, (∃ m, W 0 m (upd H1 D (.lst []))) ∧ ∀ i m H, W i m H →
  (J.stop i H ∧ Q (.ref D) H) ∨ (J.go i H ∧ ∃ Nx : Hp → Prop, (∀ H', Nx H' → ∃ m', m' < m ∧ W (i + 1) m' H') ∧ ∀ x H', J.yld i H x H' → g x (wipe σ vs) H' fun σ2 H2 => wipe σ2 vs = wipe σ vs ∧ tt σ2 H2 fun b H3 =>
    if b = true then te σ2 H3 fun y H4 => ∃ acc, H4 D = some (.lst acc) ∧ acc.length < sizeLine ∧ Nx (upd H4 D (.lst (acc ++ [y]))) else Nx H3)) : tLc wi g tt te vs σ H Q := h
theorem k_yesT {R : Bool → Hp → Prop} (h : R true H) : tYes σ H R := h
theorem k_str {te : TE} {R : It → Hp → Prop} (h : te σ H fun v H1 => ∃ x, v = .str x ∧ R (Its x) H1) : iStr te σ H R := h
theorem k_slS {z : Str} {lo hi : Option Int} (e : z.length ≤ sizeLine) (q : Q (.str (cutS z lo hi)) H) : rSlS (.str z) lo hi H Q := ⟨z, rfl, e, q⟩
theorem k_prs {tk tv : TE} {r : List (TE × TE)} {R : List (V × V) → Hp → Prop} (h : tk σ H fun x H1 => tv σ H1 fun y H2 => tPairs r σ H2 fun ps H3 => R ((x, y) :: ps) H3) : tPairs ((tk, tv) :: r) σ H R := h
theorem k_prn {R : List (V × V) → Hp → Prop} (h : R [] H) : tPairs [] σ H R := h
theorem k_aug {i : Nat} {te : TE} {ti : TIp} {x : V} (e : σ[i]? = some (some x)) (h : te σ H fun y H1 => ti x y H1 fun z H2 => D.nx (σ.set i (some z)) H2) : tAug i te ti D σ H := ⟨x, e, h⟩
theorem k_ipI {f : Int → Int → Int} {i j : Int} (h : Q (.int (f i j)) H) : ipI f (.int i) (.int j) H Q := ⟨i, j, rfl, rfl, h⟩
theorem k_din {ty td : TE} (h : ty σ H fun y H1 => td σ H1 fun x H2 => ∃ a o, x = .ref a ∧ DGet H2 a y o ∧ Q (.bl o.isSome) H2) : tDIn ty td σ H Q := h
theorem k_dnotin {ty td : TE} (h : ty σ H fun y H1 => td σ H1 fun x H2 => ∃ a o, x = .ref a ∧ DGet H2 a y o ∧ Q (.bl (!o.isSome)) H2) : tDNotIn ty td σ H Q := h
theorem k_dput {td ty tv : TE} (h : tv σ H fun v H1 => td σ H1 fun x H2 => ty σ H2 fun y H3 => ∃ a H4, x = .ref a ∧ DPut H3 a y v H4 ∧ D.nx σ H4) : sDPut td ty tv D σ H := h
theorem k_prop {C : Addr} {sp : Sp} {dvs : List V} {E : XK} {ta : TE} (h : ta σ H fun x H1 => ∃ a dx fs, x = .ref a ∧ H1 a = some (.ins C dx fs) ∧ sp (.ref a :: dvs) H1 Q E) : tProp C sp dvs E ta σ H Q := h
theorem k_itup {tl : TE} {R : It → Hp → Prop} (h : tl σ H fun x H1 => ∃ a, x = .ref a ∧ (∃ xs, SqT K H1 a xs) ∧ R (Itt K a) H1) : iTup K tl σ H R := h
theorem k_ilst {tl : TE} {R : It → Hp → Prop} (h : tl σ H fun x H1 => ∃ a, x = .ref a ∧ (∃ xs, SqL K H1 a xs) ∧ R (Itl K a) H1) : iList K tl σ H R := h
theorem k_bm0 {T : String} {r : V → List V → Hp → VK → Prop} {to : TE} (h : to σ H fun x H1 => tyV K T x H1 ∧ r x [] H1 Q) : tBM0 K T r to σ H Q := h
theorem k_dc {wi : TI} {g : TG} {tt : TT} {tk tv : TE} {vs : List Nat} (h : wi σ H fun J H1 => ∀ D, H1 D = none → ∃ W : Nat → Nat → Hp → Prop, (∃ m, W 0 m (upd H1 D (.dK []))) ∧ ∀ i m H, W i m H →
  (J.stop i H ∧ Q (.ref D) H) ∨ (J.go i H ∧ ∃ Nx : Hp → Prop, (∀ H', Nx H' → ∃ m', m' < m ∧ W (i + 1) m' H') ∧ ∀ x H', J.yld i H x H' → g x (wipe σ vs) H' fun σ2 H2 => wipe σ2 vs = wipe σ vs ∧ tt σ2 H2 fun b H3 =>
    if b = true then tk σ2 H3 fun y H4 => tv σ2 H4 fun z H5 => ∃ kvs k, y = kV k ∧ H5 D = some (.dK kvs) ∧ kvs.length < sizeLine ∧ Nx (upd H5 D (.dK (putK kvs k z))) else Nx H3)) : tDc wi g tt tk tv vs σ H Q := h
theorem k_whl {c : TT} {tb : TS} (W : Nat → L2.St → Hp → Prop) (h0 : ∃ m, W m σ H) (h : ∀ m σ H, W m σ H → c σ H fun b H1 => if b = true then tb { D with nx := fun σ' H' => ∃ m', m' < m ∧ W m' σ' H', ct := fun σ' H' => ∃ m', m' < m ∧ W m' σ' H', bk := D.nx } σ H1 else D.nx σ H1)
    (mono : ∀ σ H (R R' : Bool → Hp → Prop), (∀ b H1, R b H1 → R' b H1) → c σ H R → c σ H R') : tWhile c tb D σ H := by
  refine ⟨W, h0, fun m σ H w => mono _ _ _ _ (fun b H1 q => ?_) (h m σ H w)⟩
  cases b with
  | false => exact q
  | true => exact ⟨_, fun _ _ z => z, q⟩
theorem k_ite {p A B : Prop} [Decidable p] (h1 : p → A) (h2 : ¬ p → B) : if decide p = true then A else B := by
  by_cases h : p
  · rw [decide_eq_true h]; exact iteT (h1 h)
  · rw [decide_eq_false h]; exact iteF (h2 h)
theorem k_iteN {p A B : Prop} [Decidable p] (h1 : p → B) (h2 : ¬ p → A) : if (!decide p) = true then A else B := by
  by_cases h : p
  · rw [decide_eq_true h]; exact iteF (h1 h)
  · rw [decide_eq_false h]; exact iteT (h2 h)
theorem k_yes {c : Bool} {A B : Prop} (e : c = true) (h : A) : if c = true then A else B := by rw [e]; exact iteT h
theorem k_no {c : Bool} {A B : Prop} (e : c = false) (h : B) : if c = true then A else B := by rw [e]; exact iteF h
theorem k_bool {c : Bool} {A B : Prop} (h1 : c = true → A) (h2 : c = false → B) : if c = true then A else B := by cases c; exact iteF (h2 rfl); exact iteT (h1 rfl)
end
section
variable {K : PySem.W.Frag} {σ : L2.St} {H : Hp} {D : Ends} {Q : VK}
theorem k_par3 {i j l : Nat} {ta : TA} (h : ta σ H fun vs H1 => ∃ u v w, vs = [u, v, w] ∧ D.nx (((σ.set i (some u)).set j (some v)).set l (some w)) H1) : tPar3 i j l ta D σ H := h
theorem k_three {p : V → V → V → Prop} {a b c : V} (h : p a b c) : ∃ u v w, [a, b, c] = [u, v, w] ∧ p u v w := ⟨a, b, c, rfl, h⟩
theorem k_neD {x y : V} {d e : PyData} (h1 : Dp K H x d) (h2 : Dp K H y e) (s1 : SeqAt.shaped d = true) (s2 : SeqAt.shaped e = true) (q : Q (.bl (!PyData.eqv d e)) H) : rNeD K x y H Q := ⟨d, e, h1, h2, s1, s2, q⟩
theorem k_eqD {x y : V} {d e : PyData} (h1 : Dp K H x d) (h2 : Dp K H y e) (s1 : SeqAt.shaped d = true) (s2 : SeqAt.shaped e = true) (q : Q (.bl (PyData.eqv d e)) H) : rEqD K x y H Q := ⟨d, e, h1, h2, s1, s2, q⟩
theorem k_lenS {z : Str} {R : Int → Prop} (h : z.length ≤ sizeLine) (q : R z.length) : ∃ y : Str, [V.str z] = [V.str y] ∧ y.length ≤ sizeLine ∧ R y.length := ⟨z, rfl, h, q⟩
end
local macro_rules | `(tactic| walk_at "st") => `(tactic| first
  | ((with_reducible show tVar _ _ _ _); refine k_var rfl ?_)
  | (with_reducible first
    | refine k_c ?_ | refine k_op ?_ | refine k_I0 ?_ | refine k_seq ?_ | refine k_asg ?_ | refine k_name ?_ | refine k_cons ?_ | refine k_nil ?_ | refine k_cb ?_
    | refine k_ret ?_ | refine k_ifS ?_ | refine k_test ?_ | refine k_tB ?_ | refine k_bl ?_ | refine k_call ?_ | refine k_make ?_ | refine k_par3 ?_ | refine k_three ?_ | refine k_ipI ?_ | refine k_din ?_ | refine k_dnotin ?_ | refine k_dput ?_ | refine k_prop ?_ | refine k_itup ?_ | refine k_ilst ?_ | refine k_bm0 ?_ | refine k_dc ?_ | refine k_prs ?_ | refine k_prn ?_ | refine k_lc ?_ | refine k_yesT ?_ | refine k_str ?_ | refine k_disp ?_ | refine k_for ?_ | refine k_rng1 ?_ | refine k_drop ?_ | refine k_next ?_ | refine k_sub ?_ | refine k_un ?_ | refine k_U ?_
    | refine k_par ?_ | refine k_two ?_ | refine k_and ?_ | refine k_or ?_ | refine k_not ?_ | refine k_andV ?_ | refine k_orV ?_ | refine k_notV ?_ | refine k_ifE ?_ | refine k_isN ?_ | refine k_notN ?_
    | refine k_gn ?_ | refine k_gc ?_ | refine k_tup ?_ | refine k_lst ?_ | refine k_bm ?_ | refine k_dget ?_ | refine k_fld ?_ | refine k_sl ?_ | refine k_noPart ?_ | refine k_part ?_ | refine k_int ?_
    | refine k_int1 ?_ | refine k_retN ?_ | refine k_cont ?_ | refine k_break ?_)
  | ((with_reducible show rIxL _ _ _ _ _); refine k_ixL (SqL.of (by first | assumption | exact upd_same)) rfl ?_)
  | ((with_reducible show rSetL _ _ _ _ _); refine k_setL (by first | assumption | exact upd_same) rfl ?_)
  | ((with_reducible show tAug _ _ _ _ _ _); refine k_aug rfl ?_)
  | ((with_reducible show rEq _ _ _ _); refine k_eq rfl ?_)
  | ((with_reducible show rNe _ _ _ _); refine k_ne rfl ?_))
local macro_rules | `(tactic| walk_at "go") => `(tactic| repeat (walk_at "st"))
local macro_rules | `(tactic| walk_at "begin") => `(tactic| ((try dsimp only [cxOf]); simp only [L2.start, List.map_cons, List.map_nil, List.length_cons, List.length_nil, Nat.reduceAdd, Nat.reduceSub, List.replicate_succ, List.replicate_zero, List.cons_append, List.nil_append]))
/-! ### a draw: any number below the most -/
def sp_taken (K : PySem.W.Frag) : Sp := fun vs H Q _ => ∃ (a : Addr) (m : Int), vs = [.ref a, .int m] ∧ 0 < m ∧ m.natAbs < 2 ^ 8000 ∧ RowOk K H a ∧
  ∀ (x : Int) (H' : Hp), 0 ≤ x → x < m → RowOk K H' a → Keep a H H' → Q (.int x) H'
section
variable {P : Program} {w : World} {K : PySem.W.Frag} {mg : Str → Option Value} {base : Heap}
theorem ok_law_taken (T : Txt K mg) : FnOk P w K mg base (L2.CX P w) 1 T.a_law_taken T.fd_law_taken ["_law_row", "_law_many"] (sp_taken K) := by
  refine T.F_law_taken.okX sc_law_taken (fun vs H Q E h => ?_) (fun cdv A outer s H vs Q E hr h => ?_)
  · obtain ⟨a, m, rfl, _⟩ := h
    rfl
  · obtain ⟨a, m, rfl, m0, mb, ⟨sc, ns, i, z, r, ea, hs, hn, i0, z0, z1⟩, k⟩ := h
    refine ⟨_, (PSs.nox (pss_cons (ps_if (pt_cmpR op_gt (pe_ix ix_list (pv 0) pe_int (fun _ _ => rfl)) pe_int (nomark _))
  (pss_cons (ps_set (i := 2) sc_law_taken.nd rfl (Or.inl rfl) (pe_op op_mod (pe_callTy call_int1 (by rfl) T.z_int PySem.Pv.boot_int (pa_cons (pe_ix ix_list (pv 0) pe_int (fun _ _ => rfl)) pa_nil)) (pv 1)))
  (pss_cons (ps_asg (pe_op op_fdivW (pe_ix ix_list (pv 0) pe_int (fun _ _ => rfl)) (pv 1)) (pg_sub (pv 0) pe_int set_list))
  (pss_one (ps_ret (pv 2)))))
  pss_nil)
  (pss_cons (ps_asg (pe_op op_add (pe_ix ix_list (pv 0) pe_int (fun _ _ => rfl)) pe_int) (pg_sub (pv 0) pe_int set_list))
  (pss_cons (ps_if (pt_cmpR op_gt (pe_ix ix_list (pv 0) pe_int (fun _ _ => rfl)) (pe_callB call_len_seq (by rfl) T.z_len PySem.boot_len (pa_cons (pe_ix ix_list (pv 0) pe_int (fun _ _ => rfl)) pa_nil)) (nomark _))
  (pss_cons (ps_asg (pe_op op_mod (pe_callTy call_int1 (by rfl) T.z_int PySem.Pv.boot_int (pa_cons (pe_op op_add (pe_op op_mulW (pe_ix ix_list (pv 0) pe_int (fun _ _ => rfl)) pe_int) pe_int) pa_nil)) pe_int) (pg_sub (pv 0) pe_int set_list))
  (pss_one (ps_ret (pe_op op_mod (pe_callTy call_int1 (by rfl) T.z_int PySem.Pv.boot_int (pa_cons (pe_op op_fdivW (pe_ix ix_list (pv 0) pe_int (fun _ _ => rfl)) pe_int) pa_nil)) (pv 1)))))
  pss_nil)
  (pss_cons (ps_set (i := 3) sc_law_taken.nd rfl (Or.inl rfl) (pe_ix ix_list (pe_ix ix_list (pv 0) pe_int (fun _ _ => rfl)) (pe_op op_sub (pe_ix ix_list (pv 0) pe_int (fun _ _ => rfl)) pe_int) (fun _ _ => rfl)))
  (pss_cons (ps_asg (pe_op op_mod (pe_callTy call_int1 (by rfl) T.z_int PySem.Pv.boot_int (pa_cons (pe_op op_add (pe_op op_add (pe_op op_mulW (pe_ix ix_list (pv 0) pe_int (fun _ _ => rfl)) pe_int) (pv 3)) pe_int) pa_nil)) pe_int) (pg_sub (pv 0) pe_int set_list))
  (pss_cons (ps_if (pt_cmpR op_ge (pv 3) (pe_op op_pow pe_int pe_int) (nomark _))
  (pss_one (ps_asg (pe_op op_fdivW (pv 3) (pv 1)) (pg_sub (pv 0) pe_int set_list)))
  pss_nil)
  (pss_one (ps_ret (pe_op op_mod (pe_callTy call_int1 (by rfl) T.z_int PySem.Pv.boot_int (pa_cons (pv 3) pa_nil)) (pv 1))))))))))), ?_⟩
    walk_at "begin"
    walk_at "go"
    have CD : CDivW r m := wide_div m0 mb (by decide) (by decide)
    have CZ : CMulW z 48271 := wide_mul (a := 31) (b := 16) (by omega) (by decide) (by decide) (by decide) (by decide)
    refine k_ite (fun c => ?_) (fun c => ?_)
    · walk_at "go"
      refine k_I m0 ?_
      walk_at "go"
      refine k_I CD ?_
      walk_at "go"
      exact k _ _ (Int.emod_nonneg _ (by omega)) (Int.emod_lt_of_pos _ m0) ⟨sc, ns, i, z, r / m, upd_same, hs.keep Keep.at_ ea, hn, i0, z0, z1⟩ Keep.at_
    · walk_at "go"
      have K1 : Keep a H (upd H a (HO.lst ([V.ref sc, V.int i, V.int z, V.int r].set (Int.toNat 1) (V.int (i + 1))))) := Keep.at_
      refine k_len (.inl (hs.keep K1 ea).sq) ?_
      walk_at "go"
      have zn : ∀ q : Int, 0 ≤ q % 2147483647 ∧ q % 2147483647 < 2147483647 := fun q => ⟨Int.emod_nonneg _ (by decide), Int.emod_lt_of_pos _ (by decide)⟩
      have mn : ∀ q : Int, 0 ≤ q % m ∧ q % m < m := fun q => ⟨Int.emod_nonneg _ (by omega), Int.emod_lt_of_pos _ m0⟩
      refine k_ite (fun c1 => ?_) (fun c1 => ?_)
      · walk_at "go"
        refine k_I CZ ?_
        walk_at "go"
        refine k_I (by decide) ?_
        walk_at "go"
        refine k_I (wide_div (b := 3) (by decide) (by decide) (by decide) (by decide)) ?_
        walk_at "go"
        refine k_I m0 ?_
        exact k _ _ (mn _).1 (mn _).2 ⟨sc, ns, i + 1, _, r, upd_same, (hs.keep K1 ea).keep Keep.at_ upd_same, hn, by omega, (zn _).1, (zn _).2⟩ (K1.trans Keep.at_)
      · walk_at "go"
        rw [List.length_map] at c1
        have hl : (i + 1 - 1).toNat < ns.length := by omega
        refine k_ixL (hs.keep K1 ea).sq (v := V.int (ns[(i + 1 - 1).toNat]'hl)) (at_of (j := (i + 1 - 1).toNat) (by omega) (by rw [List.getElem?_map, List.getElem?_eq_getElem hl]; rfl)) ?_
        generalize ns[(i + 1 - 1).toNat]'hl = cell
        walk_at "go"
        refine k_I CZ ?_
        walk_at "go"
        refine k_I (by decide) ?_
        walk_at "go"
        refine k_I (by exact ⟨by decide, by decide, by decide⟩) ?_
        walk_at "go"
        refine k_ite (fun c2 => ?_) (fun c2 => ?_)
        · walk_at "go"
          refine k_I (wide_div m0 mb (by decide) (by decide)) ?_
          walk_at "go"
          refine k_I m0 ?_
          exact k _ _ (mn _).1 (mn _).2 ⟨sc, ns, i + 1, _, _, upd_same, ((hs.keep K1 ea).keep Keep.at_ upd_same).keep Keep.at_ upd_same, hn, by omega, (zn _).1, (zn _).2⟩ ((K1.trans Keep.at_).trans Keep.at_)
        · walk_at "go"
          refine k_I m0 ?_
          exact k _ _ (mn _).1 (mn _).2 ⟨sc, ns, i + 1, _, _, upd_same, (hs.keep K1 ea).keep Keep.at_ upd_same, hn, by omega, (zn _).1, (zn _).2⟩ (K1.trans Keep.at_)
end
/-! ### enumerate over a tuple -/
section
open Builtin
theorem meets_enumT (t : Addr) (its : Array Value) : Meets (Builtin.«enumerate.__new__» ⟨[.type "enumerate", .ref t], []⟩) (fun _ R st => st.heap.IsTuple t its ∧
    R (.ok (.ret (.ref (st.heap.objs.size + 1)))) { st with heap := (st.heap.push { cls := .type "tuple_iterator", data := .fields #[.ref t, .int 0 0] }).push { cls := .type "enumerate", data := .fields #[.none, .bool false, .ref st.heap.objs.size, rawInt 0, .none, .none] } }) := by
  refine Meets.of_wp fun prog w A R st hh => ?_
  rcases st with ⟨h0, g0, d0, t0, o0⟩
  obtain ⟨isT, q⟩ := hh
  have sub := sub_enumerate
  have L : Heap.IsTuple (Shared.heap ⟨h0, g0, d0, t0, o0⟩) t its := isT
  obtain ⟨ob, e0, c0, n0, dt0⟩ := L
  have z : (Heap.push h0 { cls := .type "tuple_iterator", data := .fields #[.ref t, .int 0 0] }).objs.size = h0.objs.size + 1 := Heap.size_push ..
  have q' := q
  rw [← z] at q'
  wp_walk using PySem.wpAny_pyIter_tuple isT
  refine wpAny_stack_any fun fr => wpAny_pure ?_
  split
  · rename_i cc _ _ _ _ _
    cases (cc == Value.type "enumerate")
    · wp_walk using PySem.wpAny_pyIter_tuple isT
      exact ⟨_, rfl, q'⟩
    · wp_walk using PySem.wpAny_pyIter_tuple isT
      exact ⟨_, rfl, q'⟩
  · wp_walk using PySem.wpAny_pyIter_tuple isT
    exact ⟨_, rfl, q'⟩
end
section
variable {prog : Program} {w : World} {A : Around} {E : Value → Shared → Prop} {s : Shared}
theorem call_enumT {t : Addr} {its : Array Value} {Q : Value → Shared → Prop} (isT : s.heap.IsTuple t its)
    (k : ∀ h', IsEnum h' (s.heap.objs.size + 1) s.heap.objs.size 0 .none → h'.IsTupleIter s.heap.objs.size t 0 → (∀ b o, s.heap.get? b = some o → h'.get? b = some o) →
      Q (.ref (s.heap.objs.size + 1)) { s with heap := h' }) : wpAny (model prog w) A (call (.type "enumerate") [.ref t]) Q E s := by
  have m := meets_enumT t its
  refine callType_new F.called_enumerate (by decide) (F.typeCall_enumerate_1 _) (F.newCall_enumerate_1 _) (fun o => F.args_object_init_2 o _) F.entry_enumerate_new m ⟨isT, ?_⟩
  have z : (Heap.push s.heap { cls := .type "tuple_iterator", data := .fields #[.ref t, .int 0 0] }).objs.size = s.heap.objs.size + 1 := Heap.size_push ..
  have g := Heap.get?_push_size (Heap.push s.heap { cls := .type "tuple_iterator", data := .fields #[.ref t, .int 0 0] })
    (o := { cls := .type "enumerate", data := .fields #[.none, .bool false, .ref s.heap.objs.size, rawInt 0, .none, .none] }) rfl
  rw [z] at g
  exact ⟨⟨_, g, rfl⟩, k _ g ⟨_, Heap.get?_push_of_some _ (Heap.get?_push_size _ rfl), rfl, rfl⟩ fun b o x => Heap.get?_push_of_some _ (Heap.get?_push_of_some _ x)⟩
end
/-- the i-th pair is new: its place and the tuple's item -/
def Iet (K : PySem.W.Frag) (a : Addr) : It :=
  ⟨fun i H => ∃ (xs : List V) (x : V), SqT K H a xs ∧ xs[i]? = some x,
   fun i H v H' => ∃ p x, v = .ref p ∧ H p = none ∧ H' = upd H p (.tup [.int (i : Nat), x]) ∧ ∀ xs, SqT K H a xs → xs[i]? = some x,
   fun i H => ∃ xs : List V, SqT K H a xs ∧ xs.length ≤ i⟩
theorem turn_enumT {P : Program} {w : World} {K : PySem.W.Frag} {es : List Expr} {c : Nat} {tp : Pos} (a e it : Addr) :
    Turn P w K (.Tuple es c tp) (Iet K a) [e, it] e (fun i h => (∃ old, IsEnum h e it ((i : Nat) : Int) old) ∧ h.IsTupleIter it a i ∧ e ≠ it) := by
  have two : ∀ b, b ∈ [e, it] → b = e ∨ b = it := fun b hb => by simpa using hb
  constructor
  case mem => simp
  case obj =>
    rintro i h ⟨⟨old, he⟩, ⟨o, ho, hc, hd⟩, _⟩ b hb
    rcases two b hb with rfl | rfl
    · exact ⟨_, he, fun v q => nomatch q⟩
    · exact ⟨o, ho, fun v q => by rw [hd] at q; cases q⟩
  case keep =>
    rintro i h h' ⟨⟨old, he⟩, hi, ne⟩ k
    exact ⟨⟨old, k e (by simp) _ he⟩, hi.at fun o q => k it (by simp) o q, ne⟩
  case item =>
    rintro X rfl rfl rfl hC i pins s σ H E I hf ⟨⟨old, he⟩, hit, ne⟩ ⟨xs, x, hq, hx⟩
    obtain ⟨its, rv, p, hz⟩ := I.tuple hq
    obtain ⟨u, hu, ru⟩ := rv.get hx
    have le : e < s.heap.objs.size := Heap.lt_size he
    have li : it < s.heap.objs.size := by obtain ⟨_, q, _⟩ := hit; exact Heap.lt_size q
    have pt : s.heap.IsTuple a its.toArray := p
    have na : a ≠ it := fun z => by
      obtain ⟨o1, q1, c1, _⟩ := hit
      obtain ⟨o2, q2, c2, _⟩ := pt
      rw [z, q1] at q2
      cases q2
      rw [c1] at c2
      exact absurd c2 (by simp)
    have nb : e ≠ a := fun z => by
      obtain ⟨o2, q2, c2, _⟩ := pt
      have q3 : s.heap.get? e = _ := he
      rw [z, q2] at q3
      cases q3
      exact absurd c2 (by simp)
    have Dr := Draws.tuple (prog := X.prog) (w := X.w) (A := X.A.in1) (I.ok.hd hC) it a na its.toArray
    refine wpAny_pyNext_enum_itemD (i := i) Dr he ⟨hit, pt⟩ (by simpa using (List.getElem?_eq_some_iff.mp hu).1) ne (by simp [ne, nb]) fun x' h' tk px ho st hT hsz hk => ?_
    have ex : x' = u := by
      have q : its.toArray[i]? = some x' := px
      rw [List.getElem?_toArray, hu] at q
      exact (Option.some.inj q).symm
    subst ex
    refine ⟨_, rfl, wpAny_letOwnedTupleGo_enum (s := { s with heap := h', toks := tk + 1 }) ho fun h2 he2 sb => ?_⟩
    have hT2 : h2.get? s.heap.objs.size = some { cls := .type "tuple", data := .seq #[.int i tk, x'] } := (sb.2 _ (Nat.ne_of_gt le)).trans hT
    have new : ObjOk X.prog X.w (upd H s.heap.objs.size (.tup [.int (i : Nat), x])) h2 s.heap.objs.size (.tup [.int (i : Nat), x]) :=
      ⟨(by decide : 2 ≤ sizeLine), [.int i tk, x'], .cons ⟨_, rfl⟩ (.cons ru .nil), ⟨_, hT2, rfl, _, rfl⟩⟩
    have I1 : Inv X pins σ (upd H s.heap.objs.size (.tup [.int (i : Nat), x])) { s with heap := h2, toks := tk + 1 } :=
      I.turnedNew (ch := [e, it]) (fun b ob hb q => (sb.2 b (fun z => hb (by simp [z]))).trans (hk b ob (fun z => hb (by simp [z])) (fun z => hb (by simp [z])) q)) hf (Nat.le_refl _) new
    refine ⟨.ref s.heap.objs.size, _, I1, rfl, ⟨_, x, rfl, I.hok.fresh (Nat.le_refl _), rfl, fun ys hy => ?_⟩, ⟨⟨x', ?_⟩, ?_, ne⟩, fun b hb => ?_⟩
    · rw [I.tuple_inj hy hq]; exact hx
    · have e1 : ((i + 1 : Nat) : Int) = (i : Int) + 1 := by omega
      rw [e1]; exact he2
    · exact st.1.at fun o q => (sb.2 it (Ne.symm ne)).trans q
    · have lb : b < s.heap.objs.size := by rcases two b hb with rfl | rfl <;> assumption
      rw [upd_ne (Nat.ne_of_lt lb)]
      exact (hf b hb).1
  case done =>
    rintro X rfl rfl rfl hC i pins s σ H E I hf ⟨⟨old, he⟩, hit, ne⟩ ⟨xs, hq, hx⟩
    obtain ⟨its, rv, p, hz⟩ := I.tuple hq
    have pt : s.heap.IsTuple a its.toArray := p
    have na : a ≠ it := fun z => by
      obtain ⟨o1, q1, c1, _⟩ := hit
      obtain ⟨o2, q2, c2, _⟩ := pt
      rw [z, q1] at q2
      cases q2
      rw [c1] at c2
      exact absurd c2 (by simp)
    have out : its.toArray[i]? = none := by
      have hl := rv.length
      rw [List.getElem?_toArray]
      exact List.getElem?_eq_none (by omega)
    have Dr : Draws X.prog X.w X.A.in1 it [it, a] i (fun _ _ => True) (fun j h => j = i ∧ h.IsTupleIter it a j ∧ h.IsTuple a its.toArray) :=
      { live := fun j h st => by obtain ⟨_, ⟨o, ho, _⟩, _⟩ := st; exact ⟨o, ho⟩
        frame := fun j h h' st hk => ⟨st.1, st.2.1.at fun o e => hk it (by simp) o e, st.2.2.at fun o e => hk a (by simp) o e⟩
        item := fun j s Q E hj st hQ => absurd st.1 (Nat.ne_of_lt hj)
        done := fun s Q E st hE => wpAny_nextOf_tuple_end (A := X.A.in1) (I.ok.hd hC) st.2.1 st.2.2 out hE }
    obtain ⟨f0, f1, f2, f3, f4, f5⟩ := hf it (by simp)
    exact wpAny_pyNext_enum_endD Dr he ⟨rfl, hit, pt⟩ fun h' eb => ⟨rfl, I.turned (t' := s.toks) (fun b o hb q => eb b o hb q) f0 f1 f3 f4 f5⟩
  case self =>
    rintro A i s Q E ⟨⟨_, he⟩, _⟩ h
    exact wpAny_pyIter_enum he h
def iEnumT (K : PySem.W.Frag) (ta : TA) : TI := fun σ H R => ta σ H fun vs H1 => ∃ a xs, vs = [.ref a] ∧ SqT K H1 a xs ∧ R (Iet K a) H1
theorem pi_enumT {X : Cx} {e : Expr} {ta : TA} {p pos tpos : Pos} {es : List Expr} {c : Nat} (hg : Gl X "enumerate") (hm : X.mg "enumerate" = none) (ha : PA X [e] ta)
    (hs : starEach [e] X.env = [(false, eval e X.env)] := by rfl) : PI X (.Tuple es c tpos) (.Call (.Name "enumerate" p) [e] [] pos) (iEnumT X.K ta) := by
  constructor
  intro pins s σ H R I h
  refine PyProof.Rows.Call_ (ld_blt I hg hm (show bootBuiltins "enumerate" = some (.type "enumerate") by decide +kernel) (PyProof.Rows.callWith_type1 (thn (ha.run pos pins s σ H _ I h) ?_) hs rfl))
  rintro us s1 ⟨vs, H1, I1, r1, a, xs, rfl, hq, q⟩
  obtain ⟨u, rfl, ru⟩ := vals1 r1
  cases ru
  obtain ⟨its, rv, p', hz⟩ := I1.tuple hq
  have pt : s1.heap.IsTuple a its.toArray := p'
  refine call_enumT pt fun h' he hit hk => wpAny_pyIter_enum he ?_
  have I2 : Inv X pins σ H1 { s1 with heap := h' } := I1.kept (t' := s1.toks) hk
  refine ⟨s1.heap.objs.size + 1, [s1.heap.objs.size + 1, s1.heap.objs.size], _, _, H1, rfl, I2, turn_enumT a (s1.heap.objs.size + 1) s1.heap.objs.size, ⟨⟨.none, he⟩, hit, Nat.succ_ne_self _⟩, fun b hb => ?_, q⟩
  have lb : s1.heap.objs.size ≤ b := by
    have two : b = s1.heap.objs.size + 1 ∨ b = s1.heap.objs.size := by simpa using hb
    rcases two with rfl | rfl
    · exact Nat.le_succ _
    · exact Nat.le_refl _
  exact I1.fpOk lb (I1.hok.fresh lb)
/-- over a tuple that stands still, the place and the item in a new pair -/
theorem for_enumT {K : PySem.W.Frag} {a : Addr} {xs : List V} {g : TG} {tb : TS} {D : Ends} {σ : L2.St} {H : Hp} (Pv : Nat → L2.St → Hp → Prop) (h0 : Pv 0 σ H) (hl : ∀ i σ H, i ≤ xs.length → Pv i σ H → SqT K H a xs)
    (hs : ∀ i x p σ H, xs[i]? = some x → Pv i σ H → H p = none → g (.ref p) σ (upd H p (.tup [.int (i : Nat), x])) fun σ2 H2 => tb { D with nx := Pv (i + 1), ct := Pv (i + 1), bk := D.nx } σ2 H2) (hd : ∀ σ H, Pv xs.length σ H → D.nx σ H) :
    ∃ W : Nat → Nat → L2.St → Hp → Prop, (∃ m, W 0 m σ H) ∧ ∀ i m σ H, W i m σ H → ((Iet K a).stop i H ∧ D.nx σ H) ∨
      ((Iet K a).go i H ∧ ∃ N : L2.St → Hp → Prop, (∀ σ' H', N σ' H' → ∃ m', m' < m ∧ W (i + 1) m' σ' H') ∧ ∀ x H', (Iet K a).yld i H x H' → g x σ H' fun σ2 H2 => tb { D with nx := N, ct := N, bk := D.nx } σ2 H2) := by
  refine ⟨fun i m σ H => m + i = xs.length ∧ Pv i σ H, ⟨xs.length, by simp, h0⟩, fun i m σ H ⟨em, hP⟩ => ?_⟩
  have sq := hl i σ H (by omega) hP
  by_cases c : i < xs.length
  · refine .inr ⟨⟨xs, xs[i], sq, List.getElem?_eq_getElem c⟩, Pv (i + 1), fun σ' H' z => ⟨m - 1, by omega, by omega, z⟩, ?_⟩
    rintro v H' ⟨p, x, rfl, hp, rfl, hx⟩
    exact hs i x p σ H (hx xs sq) hP hp
  · have e : i = xs.length := by omega
    exact .inl ⟨⟨xs, sq, by omega⟩, hd σ H (e ▸ hP)⟩
/-! ### machines as data -/
structure Stp where
  b : Nat
  c : Nat
  e : Nat
  g : Int
structure MD where
  n : Nat
  ss : List Stp
  es : List Nat
def stpV (s : Stp) : List V := [.int (s.b : Nat), .str ⟨#[s.c]⟩, .int (s.e : Nat), .int s.g]
structure Stp.Ok (n : Nat) (s : Stp) : Prop where
  b : s.b < n
  c : 97 ≤ s.c
  c' : s.c ≤ 100
  e : s.e < n
  g : -(10 ^ 30) ≤ s.g
  g' : s.g ≤ 10 ^ 30
def Stp.lt (s t : Stp) : Prop := s.b < t.b ∨ (s.b = t.b ∧ s.c < t.c)
structure MD.Ok (m : MD) : Prop where
  n1 : 1 ≤ m.n
  n8 : m.n ≤ 8
  ok : ∀ s ∈ m.ss, s.Ok m.n
  up : m.ss.Pairwise Stp.lt
  len : m.ss.length ≤ 32
  eb : ∀ e ∈ m.es, e < m.n
  eu : m.es.Pairwise (· < ·)
  el : m.es.length ≤ 8
/-- steps alone, whatever the number of stands -/
structure StOk (N : Nat) (s : Stp) : Prop where
  b : s.b < N
  c : 97 ≤ s.c
  c' : s.c ≤ 100
  e : s.e < N
  g : -(10 ^ 32) ≤ s.g
  g' : s.g ≤ 10 ^ 32
structure SsOk (N : Nat) (ss : List Stp) : Prop where
  n1 : 1 ≤ N
  n64 : N ≤ 63
  ok : ∀ s ∈ ss, StOk N s
  len : ss.length ≤ 300
theorem MD.Ok.sok {m : MD} (o : m.Ok) : SsOk m.n m.ss := ⟨o.n1, by have := o.n8; omega, fun s h => let k := o.ok s h; ⟨k.b, k.c, k.c', k.e, by have := k.g; omega, by have := k.g'; omega⟩, by have := o.len; omega⟩
/-- the steps' tuples -/
def StpsAt (K : PySem.W.Frag) (H : Hp) (vs : List V) (ss : List Stp) : Prop := vs.length = ss.length ∧ ∀ (i : Nat) (s : Stp), ss[i]? = some s → ∃ p, vs[i]? = some (V.ref p) ∧ SqT K H p (stpV s)
def nats (es : List Nat) : List V := es.map fun e => V.int (e : Nat)
def StAt (K : PySem.W.Frag) (H : Hp) (t : Addr) (ss : List Stp) : Prop := ∃ us, SqT K H t us ∧ StpsAt K H us ss
/-- steps and ends as they stand -/
def PartsAt (K : PySem.W.Frag) (H : Hp) (t u : Addr) (m : MD) : Prop := (∃ vs, SqT K H t vs ∧ StpsAt K H vs m.ss) ∧ SqT K H u (nats m.es)
def DAt (K : PySem.W.Frag) (H : Hp) (d : Addr) (m : MD) : Prop := ∃ t u, H d = some (.dK [(.inr "stands", .int (m.n : Nat)), (.inr "steps", .ref t), (.inr "ends", .ref u)]) ∧ PartsAt K H t u m
def mfs (n : Nat) (t u : Addr) : List (Str × V) := [("_stands", .int (n : Nat)), ("_steps", .ref t), ("_ends", .ref u)]
def MAt (K : PySem.W.Frag) (C : Addr) (H : Hp) (x : Addr) (m : MD) : Prop := ∃ dx t u, H x = some (.ins C dx (mfs m.n t u)) ∧ PartsAt K H t u m
section
variable {K : PySem.W.Frag} {a : Addr} {H H' : Hp}
/-- tuples stay -/
def Tups (H H' : Hp) : Prop := (∀ b xs, H b = some (.tup xs) → H' b = some (.tup xs)) ∧ ∀ b o xs, H b = some (.frz o (.tup xs)) → H' b = some (.frz o (.tup xs))
theorem Tups.trans {H H1 H2 : Hp} (a : Tups H H1) (b : Tups H1 H2) : Tups H H2 := ⟨fun c xs e => b.1 c xs (a.1 c xs e), fun c o xs e => b.2 c o xs (a.2 c o xs e)⟩
theorem Tups.sq {p : Addr} {xs : List V} (k : Tups H H') (h : SqT K H p xs) : SqT K H' p xs := by
  rcases h with (h | ⟨o, h⟩) | h
  · exact .inl (.inl (k.1 _ _ h))
  · exact .inl (.inr ⟨o, k.2 _ _ _ h⟩)
  · exact .inr h
theorem Tups.steps {vs : List V} {ss : List Stp} (k : Tups H H') (h : StpsAt K H vs ss) : StpsAt K H' vs ss := ⟨h.1, fun i s e => let ⟨p, e1, q⟩ := h.2 i s e; ⟨p, e1, k.sq q⟩⟩
theorem Tups.stAt {t : Addr} {ss : List Stp} (k : Tups H H') (h : StAt K H t ss) : StAt K H' t ss := let ⟨us, q, z⟩ := h; ⟨us, k.sq q, k.steps z⟩
theorem Tups.parts {t u : Addr} {m : MD} (k : Tups H H') (h : PartsAt K H t u m) : PartsAt K H' t u m := let ⟨⟨vs, q, z⟩, r⟩ := h; ⟨⟨vs, k.sq q, k.steps z⟩, k.sq r⟩
theorem same_tups (k : Same H H') : Tups H H' := ⟨fun _ _ e => k _ _ e, fun _ _ _ e => k _ _ e⟩
theorem Keep.tups {l : List V} (k : Keep a H H') (ha : H a = some (.lst l)) : Tups H H' := ⟨fun b _ e => k _ _ (fun z => by rw [z, ha] at e; cases e) e, fun b _ _ e => k _ _ (fun z => by rw [z, ha] at e; cases e) e⟩
theorem Tups.new {p : Addr} {o : HO} (h : H p = none) : Tups H (upd H p o) := same_tups (Same.new h)
theorem Tups.lst {p : Addr} {xs : List V} {o : HO} (h : H p = some (.lst xs)) : Tups H (upd H p o) := Keep.tups (Keep.at_) h
theorem DAt.keep {d : Addr} {m : MD} {l : List V} (h : DAt K H d m) (k : Keep a H H') (ha : H a = some (.lst l)) : DAt K H' d m :=
  let ⟨t, u, e, q⟩ := h; ⟨t, u, k _ _ (fun z => by rw [z, ha] at e; cases e) e, (k.tups ha).parts q⟩
theorem MAt.keep {C x : Addr} {m : MD} {l : List V} (h : MAt K C H x m) (k : Keep a H H') (ha : H a = some (.lst l)) : MAt K C H' x m :=
  let ⟨dx, t, u, e, q⟩ := h; ⟨dx, t, u, k _ _ (fun z => by rw [z, ha] at e; cases e) e, (k.tups ha).parts q⟩
theorem DAt.same {d : Addr} {m : MD} (h : DAt K H d m) (k : Same H H') : DAt K H' d m := let ⟨t, u, e, q⟩ := h; ⟨t, u, k _ _ e, (same_tups k).parts q⟩
theorem MAt.same {C x : Addr} {m : MD} (h : MAt K C H x m) (k : Same H H') : MAt K C H' x m := let ⟨dx, t, u, e, q⟩ := h; ⟨dx, t, u, k _ _ e, (same_tups k).parts q⟩
theorem StpsAt.snoc {vs : List V} {ss : List Stp} {p : Addr} {s : Stp} (h : StpsAt K H vs ss) (q : SqT K H p (stpV s)) : StpsAt K H (vs ++ [V.ref p]) (ss ++ [s]) := by
  refine ⟨by rw [List.length_append, List.length_append, h.1]; rfl, fun i t e => ?_⟩
  by_cases c : i < ss.length
  · rw [List.getElem?_append_left c] at e
    obtain ⟨r, e1, q1⟩ := h.2 i t e
    exact ⟨r, by rw [List.getElem?_append_left (by rw [h.1]; exact c)]; exact e1, q1⟩
  · rw [List.getElem?_append_right (by omega)] at e
    have z : i - ss.length = 0 := by
      have := (List.getElem?_eq_some_iff.mp e).1
      simp at this
      omega
    rw [z] at e
    cases e
    exact ⟨p, by rw [List.getElem?_append_right (by rw [h.1]; omega), h.1, z]; rfl, q⟩
end
/-! ### what a machine checks -/
def NotInt (K : PySem.W.Frag) (H : Hp) (v : V) : Prop := (∃ b, v = .bl b) ∨ ∃ t, TyX K H v t ∧ PySem.W.kitOne K t (.type "int") = some false
theorem k_isi {K : PySem.W.Frag} {H : Hp} {Q : VK} {x c : V} {t u : Value} {b : Bool} (hc : ClsV c u) (ht : TyX K H x t) (hk : PySem.W.kitOne K t u = some b) (h : Q (.bl b) H) : rIsi K [x, c] H Q := ⟨x, c, t, u, b, rfl, hc, ht, hk, h⟩
theorem k_chain {r r' : R2} {ta tb tc : TE} {σ : L2.St} {H : Hp} {Q : VK} (h : ta σ H fun x H1 => tb σ H1 fun y H2 => r x y H2 fun z H3 => ∃ k, z = .bl k ∧
  (if k = true then tc σ H3 fun w' H4 => r' y w' H4 Q else Q (.bl false) H3)) : tChain r r' ta tb tc σ H Q := h
def sp_whole (K : PySem.W.Frag) : Sp := fun vs H Q _ => ∃ v : V, vs = [v] ∧ ((∃ i, v = .int i ∧ Q (.bl true) H) ∨ (NotInt K H v ∧ Q (.bl false) H))
def sp_between (K : PySem.W.Frag) : Sp := fun vs H Q _ => ∃ (v : V) (lo hi : Int), vs = [v, .int lo, .int hi] ∧ ((∃ i, v = .int i ∧ Q (.bl (decide (lo ≤ i ∧ i ≤ hi))) H) ∨ (NotInt K H v ∧ Q (.bl false) H))
def sp_is_stand (K : PySem.W.Frag) : Sp := fun vs H Q _ => ∃ (v : V) (n : Int), vs = [.int n, v] ∧ ((∃ i, v = .int i ∧ Q (.bl (decide (0 ≤ i ∧ i < n))) H) ∨ (NotInt K H v ∧ Q (.bl false) H))
def sp_check_stands (K : PySem.W.Frag) : Sp := fun vs H Q _ => ∃ n : Int, vs = [.int n] ∧ 1 ≤ n ∧ n ≤ 8 ∧ Q .non H
section
variable {P : Program} {w : World} {K : PySem.W.Frag} {mg : Str → Option Value} {base : Heap}
theorem ok_is_whole_number (T : Txt K mg) : FnOk P w K mg base (L2.CX P w) 1 T.a_is_whole_number T.fd_is_whole_number ["value"] (sp_whole K) := by
  refine T.F_is_whole_number.okX sc_is_whole_number (fun vs H Q E h => ?_) (fun cdv A outer s H vs Q E hr h => ?_)
  · obtain ⟨v, rfl, _⟩ := h
    rfl
  · obtain ⟨v, rfl, k⟩ := h
    refine ⟨_, (PSs.nox (pss_one (ps_ret (pe_and (pe_callB call_isi (by rfl) T.z_isinstance (by decide +kernel) (pa_cons (pv 0) (pa_cons (pe_bltn (v := .ty "int") (by rfl) T.z_int (by decide +kernel) rfl) pa_nil))) (pe_one (pe_not (pe_callB call_isi (by rfl) T.z_isinstance (by decide +kernel) (pa_cons (pv 0) (pa_cons (pe_bltn (v := .ty "bool") (by rfl) T.z_bool (by decide +kernel) rfl) pa_nil))))))))), ?_⟩
    walk_at "begin"
    walk_at "go"
    rcases k with ⟨i, rfl, k⟩ | ⟨⟨b, rfl⟩ | ⟨t, ht, hk⟩, k⟩
    · refine k_isi (.ty _) (.base (.int i)) (kit_ty (b := "int") (r := true) (by decide +kernel)) ?_
      walk_at "go"
      refine iteT ?_
      walk_at "go"
      refine k_isi (.ty _) (.base (.int i)) (kit_ty (b := "bool") (r := false) (by decide +kernel)) ?_
      walk_at "go"
      exact k
    · refine k_isi (.ty _) (.base (.bl b)) (kit_ty (b := "int") (r := true) (by decide +kernel)) ?_
      walk_at "go"
      refine iteT ?_
      walk_at "go"
      refine k_isi (.ty _) (.base (.bl b)) (kit_ty (b := "bool") (r := true) (by decide +kernel)) ?_
      walk_at "go"
      exact k
    · refine k_isi (.ty _) ht hk ?_
      walk_at "go"
      exact iteF k
theorem ok_is_integer_between (T : Txt K mg) : FnOk P w K mg base (L2.CX P w) 2 T.a_is_integer_between T.fd_is_integer_between ["value", "least", "most"] (sp_between K) := by
  refine T.F_is_integer_between.okX sc_is_integer_between (fun vs H Q E h => ?_) (fun cdv A outer s H vs Q E hr h => ?_)
  · obtain ⟨v, lo, hi, rfl, _⟩ := h
    rfl
  · obtain ⟨v, lo, hi, rfl, k⟩ := h
    refine ⟨_, (PSs.nox (pss_one (ps_ret (pe_and (pe_call (ok_is_whole_number T) (hr.mono (by decide)) (by rfl) T.m_is_whole_number T.k_is_whole_number T.b_is_whole_number .nil passL (pa_cons (pv 0) pa_nil)) (pe_one (pe_chain op_le op_le (pv 1) (pv 0) (pv 2))))))), ?_⟩
    walk_at "begin"
    walk_at "go"
    rcases k with ⟨i, rfl, k⟩ | ⟨ni, k⟩
    · refine ⟨_, rfl, .inl ⟨i, rfl, ?_⟩⟩
      walk_at "go"
      refine iteT (k_chain ?_)
      walk_at "go"
      refine k_ite (fun c => ?_) (fun c => ?_)
      · walk_at "go"
        rw [decide_eq_decide.mpr (show lo ≤ i ∧ i ≤ hi ↔ i ≤ hi from ⟨fun z => z.2, fun z => ⟨c, z⟩⟩)] at k
        exact k
      · walk_at "go"
        rw [decide_eq_false (show ¬ (lo ≤ i ∧ i ≤ hi) from fun z => c z.1)] at k
        exact k
    · refine ⟨_, rfl, .inr ⟨ni, ?_⟩⟩
      walk_at "go"
      exact iteF k
theorem ok_is_stand (T : Txt K mg) : FnOk P w K mg base (L2.CX P w) 3 T.a_is_stand T.fd_is_stand ["stands", "value"] (sp_is_stand K) := by
  refine T.F_is_stand.okX sc_is_stand (fun vs H Q E h => ?_) (fun cdv A outer s H vs Q E hr h => ?_)
  · obtain ⟨v, n, rfl, _⟩ := h
    rfl
  · obtain ⟨v, n, rfl, k⟩ := h
    refine ⟨_, (PSs.nox (pss_one (ps_ret (pe_call (ok_is_integer_between T) (hr.mono (by decide)) (by rfl) T.m_is_integer_between T.k_is_integer_between T.b_is_integer_between .nil passL (pa_cons (pv 1) (pa_cons pe_int (pa_cons (pe_op op_sub (pv 0) pe_int) pa_nil))))))), ?_⟩
    walk_at "begin"
    walk_at "go"
    refine ⟨v, 0, n - 1, rfl, ?_⟩
    rcases k with ⟨i, rfl, k⟩ | ⟨ht, k⟩
    · refine .inl ⟨i, rfl, ?_⟩
      rw [decide_eq_decide.mpr (show (0 ≤ i ∧ i < n) ↔ (0 ≤ i ∧ i ≤ n - 1) by omega)] at k
      exact k
    · exact .inr ⟨ht, k⟩
theorem ok_check_stands (T : Txt K mg) : FnOk P w K mg base (L2.CX P w) 3 T.a_check_stands T.fd_check_stands ["stands"] (sp_check_stands K) := by
  refine T.F_check_stands.okX sc_check_stands (fun vs H Q E h => ?_) (fun cdv A outer s H vs Q E hr h => ?_)
  · obtain ⟨n, rfl, _⟩ := h
    rfl
  · obtain ⟨n, rfl, n1, n8, k⟩ := h
    refine ⟨_, (PSs.nox (pss_one (ps_if (pt_not (pt_val (pe_call (ok_is_integer_between T) (hr.mono (by decide)) (by rfl) T.m_is_integer_between T.k_is_integer_between T.b_is_integer_between .nil passL (pa_cons (pv 0) (pa_cons pe_int (pa_cons (pe_glob (by rfl) T.m_MOST_STANDS T.r_MOST_STANDS) pa_nil))))))
  (pss_one ps_never)
  pss_nil))), ?_⟩
    walk_at "begin"
    walk_at "go"
    refine ⟨_, 1, 8, rfl, .inl ⟨n, rfl, ?_⟩⟩
    rw [decide_eq_true (show 1 ≤ n ∧ n ≤ 8 from ⟨n1, n8⟩)]
    walk_at "go"
    refine iteF ?_
    walk_at "go"
    exact k
end
/-! ### (int, text) <= (int, text) -/
def le2 (i : Int) (s : Str) (j : Int) (t : Str) : Bool := if i = j then (if s = t then true else !decide (t.cps.toList < s.cps.toList)) else decide (i ≤ j)
def rLe2 (K : PySem.W.Frag) : R2 := fun x y H Q => ∃ (a b : Addr) (i j : Int) (s t : Str), x = .ref a ∧ y = .ref b ∧ SqT K H a [.int i, .str s] ∧ SqT K H b [.int j, .str t] ∧ Q (.bl (le2 i s j t)) H
theorem op_le2 {X : Cx} (hu : X.A.units < cLine) : OpR X (compareOp .LtE) (rLe2 X.K) := by
  rintro pins st σ H x y v u Q I rx ry ⟨a, b, i, j, s, t, rfl, rfl, ha, hb, q⟩
  cases rx
  cases ry
  obtain ⟨us, r1, p1, _⟩ := I.tuple ha
  obtain ⟨ws, r2, p2, _⟩ := I.tuple hb
  obtain ⟨u1, u2, rfl, ⟨k1, rfl⟩, ⟨k2, rfl⟩⟩ := vals2 r1
  obtain ⟨w1, w2, rfl, ⟨l1, rfl⟩, ⟨l2, rfl⟩⟩ := vals2 r2
  have R := Ob.RcOp.tuples_le (A := X.A) (s := st) (e := fun n => if n = 0 then (i == j) else decide (s = t)) (r := fun n => if n = 0 then decide (i ≤ j) else !decide (t.cps.toList < s.cps.toList)) p1 p2 hu
    (fun n h1 h2 => by
      have n2 : n < 2 := h1
      match n, n2 with
      | 0, _ => exact SeqAt.EqAt.int_int _ _ _ _
      | 1, _ => exact SeqAt.EqAt.str_str _ _ _ _)
    (fun n h1 h2 _ => by
      have n2 : n < 2 := h1
      match n, n2 with
      | 0, _ => exact Ob.RcOp.le_int _ _ _ _
      | 1, _ => exact fun prog w E Q hQ => PySem.P.le_str hQ)
  have z : Ob.lexAt (fun n => if n = 0 then (i == j) else decide (s = t)) (fun n => if n = 0 then decide (i ≤ j) else !decide (t.cps.toList < s.cps.toList)) (decide ((2 : Nat) ≤ 2)) 0 (min 2 2) = le2 i s j t := by
    show Ob.lexAt _ _ _ 0 2 = _
    rw [Ob.lexAt_succ]
    unfold le2
    by_cases c : i = j
    · have c' : (i == j) = true := beq_iff_eq.mpr c
      simp only [if_pos, c', if_pos c]
      rw [Ob.lexAt_succ]
      by_cases d : s = t
      · simp [d, Ob.lexAt_zero]
      · simp [d]
    · have c' : (i == j) = false := beq_eq_false_iff_ne.mpr c
      simp [c']
      exact fun z => absurd z c
  have R' := R X.prog X.w X.xe (EP X pins σ Q) ⟨.bl _, H, I, rfl, (by rw [← z] at q; exact q)⟩
  exact R'
/-! ### steps, ends, machines -/
theorem ty_tup {K : PySem.W.Frag} {H : Hp} {p : Addr} {xs : List V} (h : SqT K H p xs) : TyX K H (.ref p) (.type "tuple") := by
  rcases h with (h | ⟨o, h⟩) | ⟨o, its, n, h, hc, _⟩
  · exact .base (.tup h)
  · exact .fTuple h
  · exact .kTuple h hc
theorem k_in {K : PySem.W.Frag} {neg : Bool} {H : Hp} {Q : VK} {p : Addr} {x : V} {xs : List V} (h : SqL K H p xs ∨ SqT K H p xs) (fx : flatV x = true) (fa : xs.all flatV = true) (q : Q (.bl (if neg then !inV x xs else inV x xs)) H) : rIn K neg x (.ref p) H Q := ⟨p, xs, rfl, h, fx, fa, q⟩
theorem letter_in {c : Nat} (h : 97 ≤ c) (h' : c ≤ 100) : inV (.str ⟨#[c]⟩) [V.str "a", V.str "b", V.str "c", V.str "d"] = true := by
  have z : c = 97 ∨ c = 98 ∨ c = 99 ∨ c = 100 := by omega
  rcases z with rfl | rfl | rfl | rfl <;> decide
theorem k_slA2 {K : PySem.W.Frag} {H : Hp} {Q : VK} {a : Addr} {x y z u : V} (h : SqT K H a [x, y, z, u]) (q : ∀ p, H p = none → Q (.ref p) (upd H p (.tup [x, y]))) : rSlA K (.ref a) none (some 2) H Q :=
  ⟨a, _, rfl, h, fun e => absurd e (by show ¬ ((0 : Nat) = 0 ∧ (2 : Nat) = 4); decide), fun _ p hp => q p hp⟩
theorem le2_no {s t : Stp} (h : s.lt t) : le2 (t.b : Nat) ⟨#[t.c]⟩ (s.b : Nat) ⟨#[s.c]⟩ = false := by
  unfold le2
  rcases h with h | ⟨h1, h2⟩
  · rw [if_neg (by omega), decide_eq_false (by omega)]
  · rw [if_pos (by omega), if_neg (by intro z; injection z with z; simp at z; omega)]
    simp
    exact List.Lex.rel h2
theorem few {n : Nat} (k : Nat) (h : k < 1000) (q : n ≤ k) : n < 1000 := Nat.lt_of_le_of_lt q h
def sp_is_step (K : PySem.W.Frag) : Sp := fun vs H Q _ => ∃ (n : Nat) (p : Addr) (s : Stp), vs = [.int (n : Nat), .ref p] ∧ SqT K H p (stpV s) ∧ s.Ok n ∧ Q (.bl true) H
def sp_check_steps (K : PySem.W.Frag) : Sp := fun vs H Q _ => ∃ (t : Addr) (us : List V) (m : MD), vs = [.int (m.n : Nat), .ref t] ∧ SqT K H t us ∧ StpsAt K H us m.ss ∧ m.Ok ∧ ∀ H', Same H H' → Q .non H'
def sp_check_ends (K : PySem.W.Frag) : Sp := fun vs H Q _ => ∃ (t : Addr) (m : MD), vs = [.int (m.n : Nat), .ref t] ∧ SqT K H t (nats m.es) ∧ m.Ok ∧ ∀ H', Same H H' → Q .non H'
/-- whether values are ascending integers from l to below n -/
def ascV (n : Int) : Int → List V → Bool
  | _, [] => true
  | l, .int j :: r => decide (l ≤ j ∧ j ≤ n - 1) && ascV n (j + 1) r
  | _, _ => false
theorem ascV_odd {n l : Int} {x : V} {r : List V} (h : ∀ j, x ≠ .int j) : ascV n l (x :: r) = false := by
  cases x with
  | int j => exact (h j rfl).elim
  | _ => rfl
theorem ascV_nats {n : Nat} : ∀ {es : List Nat} {l : Nat}, (∀ e ∈ es, e < n) → es.Pairwise (· < ·) → (∀ e ∈ es, l ≤ e) → ascV (n : Nat) (l : Nat) (nats es) = true
  | [], _, _, _, _ => rfl
  | e :: es, l, h1, h2, h3 => by
    show (decide (((l : Nat) : Int) ≤ (e : Nat) ∧ ((e : Nat) : Int) ≤ (n : Nat) - 1) && ascV (n : Nat) (((e + 1 : Nat)) : Int) (nats es)) = true
    have a := h1 e (List.mem_cons_self ..)
    have b := h3 e (List.mem_cons_self ..)
    have c := List.pairwise_cons.mp h2
    rw [decide_eq_true (by omega), ascV_nats (fun x hx => h1 x (List.mem_cons_of_mem _ hx)) c.2 (fun x hx => c.1 x hx)]
    rfl
def sp_asc (K : PySem.W.Frag) : Sp := fun vs H Q _ => ∃ (v : V) (n : Int), vs = [v, .int n] ∧ ((∃ ty, TyX K H v ty ∧ PySem.W.kitOne K ty (.type "tuple") = some false ∧ Q (.bl false) H) ∨
  ∃ t xs, v = .ref t ∧ SqT K H t xs ∧ (∀ x ∈ xs, (∃ j, x = .int j) ∨ (NotInt K H x ∧ ∀ j, x ≠ .int j)) ∧ Q (.bl (ascV n 0 xs)) H)
def sp_init (K : PySem.W.Frag) (C : Addr) : Sp := fun vs H Q _ => ∃ (x dx t u : Addr) (m : MD), vs = [.ref x, .int (m.n : Nat), .ref t, .ref u] ∧ H x = some (.ins C dx []) ∧ PartsAt K H t u m ∧ m.Ok ∧
  ∀ H', Keep x H H' → H' x = some (.ins C dx (mfs m.n t u)) → Q .non H'
def sp_machine (K : PySem.W.Frag) (C : Addr) : Sp := fun vs H Q _ => ∃ (d : Addr) (m : MD), vs = [.ref d] ∧ DAt K H d m ∧ m.Ok ∧ ∀ x H', Same H H' → H x = none → MAt K C H' x m → Q (.ref x) H'
section
variable {P : Program} {w : World} {K : PySem.W.Frag} {mg : Str → Option Value} {base : Heap}
theorem ok_is_step (T : Txt K mg) : FnOk P w K mg base (L2.CX P w) 4 T.a_is_step T.fd_is_step ["stands", "value"] (sp_is_step K) := by
  refine T.F_is_step.okX sc_is_step (fun vs H Q E h => ?_) (fun cdv A outer s H vs Q E hr h => ?_)
  · obtain ⟨n, p, s, rfl, _⟩ := h
    rfl
  · obtain ⟨n, p, t, rfl, hp, o, k⟩ := h
    refine ⟨_, (PSs.nox (pss_cons (ps_if (PW.pt (pw_or (pt_not (pt_val (pe_callB call_isi (by rfl) T.z_isinstance (by decide +kernel) (pa_cons (pv 1) (pa_cons (pe_bltn (v := .ty "tuple") (by rfl) T.z_tuple (by decide +kernel) rfl) pa_nil))))) (pw_or1 (pt_cmpR op_ne (pe_callB call_len_seq (by rfl) T.z_len PySem.boot_len (pa_cons (pv 1) pa_nil)) pe_int (nomark _)))))
  (pss_one (ps_ret pe_bl))
  pss_nil)
  (pss_cons (ps_asg (pv 1) (pg_tup rfl (pgs_cons (pg_name (i := 2) sc_is_step.nd rfl (Or.inl rfl)) (pgs_cons (pg_name (i := 3) sc_is_step.nd rfl (Or.inl rfl)) (pgs_cons (pg_name (i := 4) sc_is_step.nd rfl (Or.inl rfl)) (pgs_cons (pg_name (i := 5) sc_is_step.nd rfl (Or.inl rfl)) pgs_nil))))))
  (pss_one (ps_ret (pe_and (pe_call (ok_is_stand T) (hr.mono (by decide)) (by rfl) T.m_is_stand T.k_is_stand T.b_is_stand .nil passL (pa_cons (pv 0) (pa_cons (pv 2) pa_nil))) (pe_and (pe_cmpR op_in_seq (pv 3) (pe_glob (by rfl) T.m_LETTERS T.r_LETTERS) (by rfl)) (pe_and (pe_call (ok_is_stand T) (hr.mono (by decide)) (by rfl) T.m_is_stand T.k_is_stand T.b_is_stand .nil passL (pa_cons (pv 0) (pa_cons (pv 4) pa_nil))) (pe_one (pe_call (ok_is_integer_between T) (hr.mono (by decide)) (by rfl) T.m_is_integer_between T.k_is_integer_between T.b_is_integer_between .nil passL (pa_cons (pv 5) (pa_cons (pe_un un_neg (pe_glob (by rfl) T.m_MOST_GAIN T.r_MOST_GAIN)) (pa_cons (pe_glob (by rfl) T.m_MOST_GAIN T.r_MOST_GAIN) pa_nil))))))))))))), ?_⟩
    walk_at "begin"
    walk_at "go"
    refine k_isi (.ty _) (ty_tup hp) (kit_ty (b := "tuple") (r := true) (by decide +kernel)) ?_
    walk_at "go"
    refine iteF ?_
    walk_at "go"
    refine k_len (.inr hp) ?_
    walk_at "go"
    refine iteF ?_
    walk_at "go"
    refine k_gt hp rfl ?_
    unfold stpV
    walk_at "go"
    refine ⟨_, _, rfl, .inl ⟨_, rfl, ?_⟩⟩
    rw [decide_eq_true (show 0 ≤ ((t.b : Nat) : Int) ∧ ((t.b : Nat) : Int) < (n : Nat) from ⟨Int.natCast_nonneg _, by have := o.b; omega⟩)]
    walk_at "go"
    refine iteT ?_
    walk_at "go"
    refine k_in (.inr (T.s_LETTERS _)) rfl (by decide) ?_
    rw [letter_in o.c o.c']
    walk_at "go"
    refine iteT ?_
    walk_at "go"
    refine ⟨_, _, rfl, .inl ⟨_, rfl, ?_⟩⟩
    rw [decide_eq_true (show 0 ≤ ((t.e : Nat) : Int) ∧ ((t.e : Nat) : Int) < (n : Nat) from ⟨Int.natCast_nonneg _, by have := o.e; omega⟩)]
    walk_at "go"
    refine iteT ?_
    walk_at "go"
    refine ⟨_, _, _, rfl, .inl ⟨_, rfl, ?_⟩⟩
    rw [decide_eq_true (show -1000000000000000000000000000000 ≤ t.g ∧ t.g ≤ 1000000000000000000000000000000 from ⟨by have := o.g; omega, by have := o.g'; omega⟩)]
    exact k
theorem ok_check_steps (T : Txt K mg) : FnOk P w K mg base (L2.CX P w) 5 T.a_check_steps T.fd_check_steps ["stands", "steps"] (sp_check_steps K) := by
  refine T.F_check_steps.okX sc_check_steps (fun vs H Q E h => ?_) (fun cdv A outer s H vs Q E hr h => ?_)
  · obtain ⟨t, us, m, rfl, _⟩ := h
    rfl
  · obtain ⟨t, us, m, rfl, ht, hs, o, k⟩ := h
    refine ⟨_, (PSs.nox (pss_cons (ps_if (pt_not (pt_val (pe_callB call_isi (by rfl) T.z_isinstance (by decide +kernel) (pa_cons (pv 1) (pa_cons (pe_bltn (v := .ty "tuple") (by rfl) T.z_tuple (by decide +kernel) rfl) pa_nil)))))
  (pss_one ps_never)
  pss_nil)
  (pss_one (ps_for PassesOwn.never rfl (pi_enumT (by rfl) T.z_enumerate (pa_cons (pv 1) pa_nil)) (pg_tup rfl (pgs_cons (pg_name (i := 2) sc_check_steps.nd rfl (Or.inl rfl)) (pgs_cons (pg_name (i := 3) sc_check_steps.nd rfl (Or.inl rfl)) pgs_nil)))
  (pss_cons (ps_if (pt_not (pt_val (pe_call (ok_is_step T) (hr.mono (by decide)) (by rfl) T.m_is_step T.k_is_step T.b_is_step .nil passL (pa_cons (pv 0) (pa_cons (pv 3) pa_nil)))))
  (pss_one ps_never)
  pss_nil)
  (pss_one (ps_if (PW.pt (pw_and (pt_cmpR op_gt (pv 2) pe_int (nomark _)) (pw_and1 (pt_cmpR (op_le2 hr.units0) (pe_slice sl_tupA (pv 3) po_none (po_some pe_int)) (pe_slice sl_tupA (pe_ix ix_tup (pv 1) (pe_op op_sub (pv 2) pe_int) (fun _ _ => rfl)) po_none (po_some pe_int)) (nomark _)))))
  (pss_one ps_never)
  pss_nil))))))), ?_⟩
    walk_at "begin"
    walk_at "go"
    refine k_isi (.ty _) (ty_tup ht) (kit_ty (b := "tuple") (r := true) (by decide +kernel)) ?_
    walk_at "go"
    refine iteF ?_
    walk_at "go"
    refine ⟨_, rfl, t, us, rfl, ht, for_enumT (xs := us) (fun i σ H' => Same H H' ∧ ∃ a b, σ = [some (.int (m.n : Nat)), some (.ref t), a, b]) ⟨Same.refl _, _, _, rfl⟩ (fun i σ H' _ ⟨z, _⟩ => (same_tups z).sq ht) ?_ ?_⟩
    · rintro i x p σ H1 hx ⟨z, a, b, rfl⟩ hp
      have il : i < m.ss.length := by rw [← hs.1]; exact (List.getElem?_eq_some_iff.mp hx).1
      obtain ⟨q, eq, hq⟩ := hs.2 i _ (List.getElem?_eq_getElem il)
      rw [hx] at eq
      cases eq
      have z1 : Same H (upd H1 p (.tup [.int (i : Nat), .ref q])) := z.trans (Same.new hp)
      have hq1 := (same_tups z1).sq hq
      have ok1 := o.ok _ (List.getElem_mem il)
      refine k_gt (SqT.of upd_same) rfl ?_
      walk_at "go"
      refine ⟨m.n, q, _, rfl, hq1, ok1, ?_⟩
      walk_at "go"
      refine iteF ?_
      walk_at "go"
      refine k_ite (fun c => ?_) (fun c => iteF ?_)
      · walk_at "go"
        have jl : i - 1 < m.ss.length := by omega
        obtain ⟨q2, eq2, hq2⟩ := hs.2 (i - 1) _ (List.getElem?_eq_getElem jl)
        refine k_slA2 hq1 fun p1 n1 => ?_
        have z2 := z1.trans (Same.new (o := .tup [.int ((m.ss[i]'il).b : Nat), .str ⟨#[(m.ss[i]'il).c]⟩]) n1)
        walk_at "go"
        refine k_ixT ((same_tups z2).sq ht) (v := .ref q2) (at_of (j := i - 1) (by omega) eq2) ?_
        walk_at "go"
        refine k_slA2 ((same_tups z2).sq hq2) fun p2 n2 => ?_
        have z3 := z2.trans (Same.new (o := .tup [.int ((m.ss[i - 1]'jl).b : Nat), .str ⟨#[(m.ss[i - 1]'jl).c]⟩]) n2)
        refine ⟨p1, p2, _, _, _, _, rfl, rfl, SqT.of (Same.new n2 _ _ upd_same), SqT.of upd_same, ?_⟩
        · have up := List.pairwise_iff_getElem.mp o.up (i - 1) i jl il (by omega)
          rw [le2_no up]
          walk_at "go"
          refine iteF ?_
          walk_at "go"
          exact ⟨z3, _, _, rfl⟩
      · walk_at "go"
        exact ⟨z1, _, _, rfl⟩
    · rintro σ H1 ⟨z, _⟩
      exact k H1 z
theorem ok_is_ascending (T : Txt K mg) : FnOk P w K mg base (L2.CX P w) 3 T.a_is_ascending T.fd_is_ascending ["value", "many"] (sp_asc K) := by
  refine T.F_is_ascending.okX sc_is_ascending (fun vs H Q E h => ?_) (fun cdv A outer s H vs Q E hr h => ?_)
  · obtain ⟨v, n, rfl, _⟩ := h
    rfl
  · obtain ⟨v, n, rfl, h⟩ := h
    refine ⟨_, (PSs.nox (pss_cons (ps_if (pt_not (pt_val (pe_callB call_isi (by rfl) T.z_isinstance (by decide +kernel) (pa_cons (pv 0) (pa_cons (pe_bltn (v := .ty "tuple") (by rfl) T.z_tuple (by decide +kernel) rfl) pa_nil)))))
  (pss_one (ps_ret pe_bl))
  pss_nil)
  (pss_cons (ps_set (i := 2) sc_is_ascending.nd rfl (Or.inl rfl) pe_int)
  (pss_cons (ps_for PassesOwn.never rfl (pi_tup (pv 0)) (pg_name (i := 3) sc_is_ascending.nd rfl (Or.inl rfl))
  (pss_cons (ps_if (pt_not (pt_val (pe_call (ok_is_integer_between T) (hr.mono (by decide)) (by rfl) T.m_is_integer_between T.k_is_integer_between T.b_is_integer_between .nil passL (pa_cons (pv 3) (pa_cons (pv 2) (pa_cons (pe_op op_sub (pv 1) pe_int) pa_nil))))))
  (pss_one (ps_ret pe_bl))
  pss_nil)
  (pss_one (ps_set (i := 2) sc_is_ascending.nd rfl (Or.inl rfl) (pe_op op_add (pv 3) pe_int)))))
  (pss_one (ps_ret pe_bl)))))), ?_⟩
    walk_at "begin"
    walk_at "go"
    rcases h with ⟨ty, h1, h2, k⟩ | ⟨t, xs, rfl, ht, hx, k⟩
    · refine k_isi (.ty _) h1 h2 ?_
      walk_at "go"
      refine iteT ?_
      walk_at "go"
      exact k
    · refine k_isi (.ty _) (ty_tup ht) (kit_ty (b := "tuple") (r := true) (by decide +kernel)) ?_
      walk_at "go"
      refine iteF ?_
      walk_at "go"
      refine ⟨t, rfl, ⟨_, ht⟩, ?_⟩
      refine for_tup (xs := xs) (fun i σ H' => H' = H ∧ ∃ (l : Int) (a : Option V), σ = [some (.ref t), some (.int n), some (.int l), a] ∧ ascV n 0 xs = ascV n l (xs.drop i)) ⟨rfl, 0, _, rfl, rfl⟩ (fun i σ H' _ ⟨e, _⟩ => by rw [e]; exact ht) ?_ ?_
      · rintro i x σ H1 hx1 ⟨rfl, l, a, rfl, eq⟩
        have il : i < xs.length := (List.getElem?_eq_some_iff.mp hx1).1
        have dr : xs.drop i = x :: xs.drop (i + 1) := by rw [List.drop_eq_getElem_cons il, (List.getElem?_eq_some_iff.mp hx1).2]
        rw [dr] at eq
        walk_at "go"
        rcases hx x (List.mem_of_getElem? hx1) with ⟨j, rfl⟩ | ⟨ni, nj⟩
        · refine ⟨_, _, _, rfl, .inl ⟨j, rfl, ?_⟩⟩
          by_cases c : l ≤ j ∧ j ≤ n - 1
          · rw [decide_eq_true c]
            walk_at "go"
            refine iteF ?_
            walk_at "go"
            refine ⟨rfl, _, _, rfl, ?_⟩
            rw [eq]
            show (decide (l ≤ j ∧ j ≤ n - 1) && ascV n (j + 1) (xs.drop (i + 1))) = _
            rw [decide_eq_true c]
            rfl
          · rw [decide_eq_false c]
            walk_at "go"
            refine iteT ?_
            walk_at "go"
            have e2 : ascV n 0 xs = false := by
              rw [eq]
              show (decide (l ≤ j ∧ j ≤ n - 1) && ascV n (j + 1) (xs.drop (i + 1))) = _
              rw [decide_eq_false c]
              rfl
            rw [e2] at k
            exact k
        · refine ⟨_, _, _, rfl, .inr ⟨ni, ?_⟩⟩
          walk_at "go"
          refine iteT ?_
          walk_at "go"
          have e2 : ascV n 0 xs = false := by
            rw [eq]
            exact ascV_odd nj
          rw [e2] at k
          exact k
      · rintro σ H1 ⟨rfl, l, a, rfl, eq⟩
        rw [List.drop_length] at eq
        rw [eq] at k
        walk_at "go"
        exact k
theorem ok_check_ends (T : Txt K mg) : FnOk P w K mg base (L2.CX P w) 4 T.a_check_ends T.fd_check_ends ["stands", "ends"] (sp_check_ends K) := by
  refine T.F_check_ends.okX sc_check_ends (fun vs H Q E h => ?_) (fun cdv A outer s H vs Q E hr h => ?_)
  · obtain ⟨t, m, rfl, _⟩ := h
    rfl
  · obtain ⟨t, m, rfl, ht, o, k⟩ := h
    refine ⟨_, (PSs.nox (pss_one (ps_if (pt_not (pt_val (pe_call (ok_is_ascending T) (hr.mono (by decide)) (by rfl) T.m_is_ascending T.k_is_ascending T.b_is_ascending .nil passL (pa_cons (pv 1) (pa_cons (pv 0) pa_nil)))))
  (pss_one ps_never)
  pss_nil))), ?_⟩
    walk_at "begin"
    walk_at "go"
    refine ⟨_, _, rfl, .inr ⟨t, _, rfl, ht, fun x h => ?_, ?_⟩⟩
    · obtain ⟨e, _, rfl⟩ := List.mem_map.mp h
      exact .inl ⟨_, rfl⟩
    rw [show ascV (m.n : Nat) 0 (nats m.es) = true from ascV_nats (l := 0) (fun e h => o.eb e h) o.eu (fun _ _ => Nat.zero_le _)]
    walk_at "go"
    refine iteF ?_
    walk_at "go"
    exact k H (Same.refl _)
theorem ok_Machine_init (T : Txt K mg) : FnOk P w K mg base (L2.CX P w) 6 T.a_Machine_init T.fd_Machine_init ["self", "stands", "steps", "ends"] (sp_init K T.c_Machine) := by
  refine T.F_Machine_init.okX sc_Machine_init (fun vs H Q E h => ?_) (fun cdv A outer s H vs Q E hr h => ?_)
  · obtain ⟨x, dx, t, u, m, rfl, _⟩ := h
    rfl
  · obtain ⟨x, dx, t, u, m, rfl, hx, ⟨⟨us, ht, hs⟩, hu⟩, o, k⟩ := h
    refine ⟨_, (PSs.nox (pss_cons (ps_expr (pe_call (ok_check_stands T) (hr.mono (by decide)) (by rfl) T.m_check_stands T.k_check_stands T.b_check_stands .nil passL (pa_cons (pv 1) pa_nil)))
  (pss_cons (ps_expr (pe_call (ok_check_steps T) (hr.mono (by decide)) (by rfl) T.m_check_steps T.k_check_steps T.b_check_steps .nil passL (pa_cons (pv 1) (pa_cons (pv 2) pa_nil))))
  (pss_cons (ps_expr (pe_call (ok_check_ends T) (hr.mono (by decide)) (by rfl) T.m_check_ends T.k_check_ends T.b_check_ends .nil passL (pa_cons (pv 1) (pa_cons (pv 3) pa_nil))))
  (pss_cons (ps_fld (pv 0) (pv 1) rfl)
  (pss_cons (ps_fld (pv 0) (pv 2) rfl)
  (pss_one (ps_fld (pv 0) (pv 3) rfl)))))))), ?_⟩
    walk_at "begin"
    walk_at "go"
    refine ⟨_, rfl, by have := o.n1; omega, by have := o.n8; omega, ?_⟩
    walk_at "go"
    refine ⟨t, us, m, rfl, ht, hs, o, fun H1 z1 => ?_⟩
    walk_at "go"
    refine ⟨u, m, rfl, (same_tups z1).sq hu, o, fun H2 z2 => ?_⟩
    walk_at "go"
    have e2 : H2 x = some (.ins T.c_Machine dx []) := z2 _ _ (z1 _ _ hx)
    refine ⟨_, rfl, _, rfl, x, _, dx, _, rfl, e2, T.cl_Machine, T.n__stands, (by decide : 0 < 1000), ?_⟩
    refine ⟨_, rfl, _, rfl, x, _, dx, _, rfl, upd_same, T.cl_Machine, T.n__steps, few 1 (by decide) (length_putF _ _ _), ?_⟩
    refine ⟨_, rfl, _, rfl, x, _, dx, _, rfl, upd_same, T.cl_Machine, T.n__ends, few 2 (by decide) (Nat.le_trans (length_putF _ _ _) (Nat.succ_le_succ (length_putF _ _ _))), ?_⟩
    refine k _ (((Keep.of_same (z1.trans z2)).trans Keep.at_).trans (Keep.at_.trans Keep.at_)) ?_
    rw [upd_same]
    rfl
end
/-! ### steps in a tuple or in a list -/
def SqS (K : PySem.W.Frag) (H : Hp) (a : Addr) (xs : List V) : Prop := SqT K H a xs ∨ SqL K H a xs
theorem SqS.same {K : PySem.W.Frag} {H H' : Hp} {a : Addr} {xs : List V} (h : SqS K H a xs) (z : Same H H') : SqS K H' a xs := h.imp (fun h => (same_tups z).sq h) fun h => z.seq h
def StSq (K : PySem.W.Frag) (H : Hp) (t : Addr) (ss : List Stp) : Prop := ∃ us, SqS K H t us ∧ StpsAt K H us ss
theorem StSq.of {K : PySem.W.Frag} {H : Hp} {t : Addr} {ss : List Stp} (h : StAt K H t ss) : StSq K H t ss := let ⟨us, a, b⟩ := h; ⟨us, .inl a, b⟩
theorem StSq.same {K : PySem.W.Frag} {H H' : Hp} {t : Addr} {ss : List Stp} (h : StSq K H t ss) (z : Same H H') : StSq K H' t ss := let ⟨us, a, b⟩ := h; ⟨us, a.same z, (same_tups z).steps b⟩
def iSq (K : PySem.W.Frag) (tl : TE) : TI := fun σ H R => iTup K tl σ H R ∨ iList K tl σ H R
theorem pi_sq {X : L2.Cx} {tg l : Expr} {tl : TE} (hl : PE X l tl) : PI X tg l (iSq X.K tl) := ⟨fun pins s σ H R I h => h.elim ((pi_tup hl).run pins s σ H R I) ((pi_list hl).run pins s σ H R I)⟩
theorem for_sq {K : PySem.W.Frag} {t : Addr} {xs : List V} {j : Nat} {g : TG} {tb : TS} {D : Ends} {σ : L2.St} {H Hb : Hp} (e : σ[j]? = some (some (.ref t))) (hx : SqS K Hb t xs) (Pv : Nat → L2.St → Hp → Prop) (h0 : Pv 0 σ H) (hl : ∀ i σ H, Pv i σ H → Same Hb H)
    (hs : ∀ i x σ H, xs[i]? = some x → Pv i σ H → g x σ H fun σ2 H2 => tb { D with nx := Pv (i + 1), ct := Pv (i + 1), bk := D.nx } σ2 H2) (hd : ∀ σ H, Pv xs.length σ H → D.nx σ H) :
    iSq K (tVar j) σ H fun J H1 => ∃ W : Nat → Nat → L2.St → Hp → Prop, (∃ m, W 0 m σ H1) ∧ ∀ i m σ H, W i m σ H →
      (J.stop i H ∧ D.nx σ H) ∨ (J.go i H ∧ ∃ N : L2.St → Hp → Prop, (∀ σ' H', N σ' H' → ∃ m', m' < m ∧ W (i + 1) m' σ' H') ∧ ∀ x H', J.yld i H x H' → g x σ H' fun σ2 H2 => tb { D with nx := N, ct := N, bk := D.nx } σ2 H2) := by
  have z0 := hl _ _ _ h0
  rcases hx with hx | hx
  · exact .inl (k_var e ⟨t, rfl, ⟨xs, (same_tups z0).sq hx⟩, for_tup Pv h0 (fun i σ H _ p => (same_tups (hl _ _ _ p)).sq hx) hs hd⟩)
  · exact .inr (k_var e ⟨t, rfl, ⟨xs, z0.seq hx⟩, for_list Pv h0 (fun i σ H _ p => (hl _ _ _ p).seq hx) hs hd⟩)
/-! ### what is never reached needs no reading -/
theorem ps_any {X : Cx} {st : Stmt} : PS X st (fun _ _ _ => False) := ⟨fun _ _ _ _ _ _ h => h.elim⟩
theorem pss_any {X : Cx} {l : List Stmt} : PSs X l (fun _ _ _ => False) := ⟨fun _ _ _ _ _ _ h => h.elim⟩
theorem pe_any {X : Cx} {e : Expr} : PE X e (fun _ _ _ => False) := ⟨fun _ _ _ _ _ _ h => h.elim⟩
/-! ### an own object whose __init__ may be left by an error -/
def tMakeS (C : Addr) (sp : Sp) (E : L2.St → XK) (t : TA) : TE := fun σ H Q => t σ H fun vs H1 => ∀ x dx, H1 x = none → H1 dx = none → dx ≠ x → sp (.ref x :: vs) (upd (upd H1 dx (.own x)) x (.ins C dx [])) (fun v H2 => v = .non ∧ Q (.ref x) H2) (E σ)
theorem k_makeS {C : Addr} {sp : Sp} {E : L2.St → XK} {t : TA} {σ : L2.St} {H : Hp} {Q : VK} (h : t σ H fun vs H1 => ∀ x dx, H1 x = none → H1 dx = none → dx ≠ x → sp (.ref x :: vs) (upd (upd H1 dx (.own x)) x (.ins C dx [])) (fun v H2 => v = .non ∧ Q (.ref x) H2) (E σ)) : tMakeS C sp E t σ H Q := h
section
variable {X : Cx} {k : Nat} {f C : Addr} {fd : FuncData} {ps : List Str} {sp : Sp} {E : L2.St → XK} {x : Str} {p pos : Pos} {e : Expr} {es : List Expr} {t : TA}
theorem run_makeS {pins : List (Addr × Obj)} {σ : L2.St} {H : Hp} {s : Shared} {Q : VK} {us : List Value} {vs : List V} (M : Mk X.K C f) (F : FnOk X.prog X.w X.K X.mg X.base (L2.CX X.prog X.w) k f fd ps sp) (hr : Room (k + 1) X.A) (hb : Binds X.K fd ps [])
    (hx : PassesAt (L2.CX X.prog X.w) X σ (E σ)) (I : Inv X pins σ H s) (r : Vals vs us)
    (h : ∀ x dx, H x = none → H dx = none → dx ≠ x → sp (.ref x :: vs) (upd (upd H dx (.own x)) x (.ins C dx [])) (fun v H2 => v = .non ∧ Q (.ref x) H2) (E σ)) :
    wpAny (model X.prog X.w) X.A (call (.ref C) us) (EP X pins σ Q) X.xe s := by
  have hq := h (s.heap.objs.size + 1) s.heap.objs.size (I.hok.fresh (Nat.le_succ _)) (I.hok.fresh (Nat.le_refl _)) (Nat.ne_of_lt (Nat.lt_succ_self _))
  have I2 := Inv.made (C := C) I
  have r2 : Vals (V.ref (s.heap.objs.size + 1) :: vs) (Value.ref (s.heap.objs.size + 1) :: us) := .cons rfl r
  have hl : (Value.ref (s.heap.objs.size + 1) :: us ++ []).length = ps.length := by
    have e := r2.length
    rw [F.len _ _ _ _ hq] at e
    rw [List.append_nil]
    exact e.symm
  have b := hb _ (Value.ref (s.heap.objs.size + 1) :: us) I2.kIn hl
  rw [List.append_nil] at b
  refine wpAny_call (make_map (f := f) I.kIn M.makes M.init (beq_iff_eq.mp M.fn) (codeAny_mono (F.run _ X.stack _ _ ⟨Value.ref (s.heap.objs.size + 1) :: us, []⟩ (Value.ref (s.heap.objs.size + 1) :: us) _ _ (E σ) (hr.make C us [])
    (I2.env0.make C us []) b r2 hq) fun r s' hq' => ?_))
  cases r with
  | error e => exact hx pins _ _ e s' I2 hq'
  | ok fl =>
    cases fl with
    | ret u =>
      obtain ⟨v, H', I3, rv, ev, q3⟩ := I2.after hq'
      subst ev
      exact ⟨rv, ⟨V.ref (s.heap.objs.size + 1), H', I3, rfl, q3⟩⟩
    | next => exact False.elim hq'
    | brk => exact False.elim hq'
    | cont => exact False.elim hq'
theorem pe_makeS (M : Mk X.K C f) (F : FnOk X.prog X.w X.K X.mg X.base (L2.CX X.prog X.w) k f fd ps sp) (hr : Room (k + 1) X.A) (hg : Gl X x) (hm : X.mg x = some (.ref C)) (hb : Binds X.K fd ps []) (hx : ∀ σ, PassesAt (L2.CX X.prog X.w) X σ (E σ))
    (ha : PA X (e :: es) t) (hdb : (x == ("__debug__" : Str)) = false := by decide) (he : starEach (e :: es) X.env = (false, eval e X.env) :: starEach es X.env := by rfl) (hpl : (backTo pos (starEach es X.env)).any (·.1) = false := by rfl) :
    PE X (.Call (.Name x p) (e :: es) [] pos) (tMakeS C sp E t) := by
  refine ⟨fun pins s σ H Q I h => ?_⟩
  refine wpAny_Call_Name_kw (ld_glob I hg hm ?_ hdb)
  refine PySem.W.callWith_K (h₀ := X.base) I.ok.mod.kin M.kp (thn (ha.run pos pins s σ H _ I h) fun us s1 ⟨vs, H1, I1, r, q⟩ => ⟨I1.kIn, ?_⟩) he hpl
  exact run_makeS M F hr hb (hx σ) I1 r q
end
theorem exc_rel {K : PySem.W.Frag} {S C : Addr} {b : Bool} (hb : PySem.W.subIn K (.ref C) (.type "BaseException") = some true) (hc : PySem.W.isClsIn K C = true) (ht : PySem.W.typeIn K (.ref C) = some (.type "type")) (hs : PySem.W.subIn K (.ref S) (.ref C) = some b) : PySem.W.exmOne K (.ref S) (.ref C) = some b := by
  have hc' : (PySem.W.clsIn K C).isSome = true := hc
  unfold PySem.W.exmOne PySem.W.kitCls
  simp only [hb, ht, hc', hs, beq_self_eq_true, Bool.and_self, if_true]
theorem FnOk.or {P : Program} {w : World} {K : PySem.W.Frag} {mg : Str → Option Value} {base : Heap} {CX : CXT} {k : Nat} {f : Addr} {fd : FuncData} {ps : List Str} {sp sp' : Sp} (F : FnOk P w K mg base CX k f fd ps sp) (G : FnOk P w K mg base CX k f fd ps sp') :
    FnOk P w K mg base CX k f fd ps (fun vs H Q E => sp vs H Q E ∨ sp' vs H Q E) :=
  ⟨fun vs H Q E q => q.elim (F.len vs H Q E) (G.len vs H Q E), fun A outer s H args us vs Q E hr he hb hv hs => hs.elim (F.run A outer s H args us vs Q E hr he hb hv) (G.run A outer s H args us vs Q E hr he hb hv)⟩
/-! ### several except clauses, some of them with a name -/
/-- what the clauses wish of an exception of the body, one after the other; some i: the slot of the clause's name -/
def wManyA (K : PySem.W.Frag) (Wout : WX) (D : Ends) : List (Value × Option Nat × (Addr → Value → Option Addr → TS)) → WX
  | [] => Wout
  | (c, none, ts) :: r => fun cls d σ H => ∃ b, PySem.W.exmOne K cls c = some b ∧ (b = true → ∀ a, H a = none → ts a cls d D σ H) ∧ (b = false → wManyA K Wout D r cls d σ H)
  | (c, some i, ts) :: r => fun cls d σ H => ∃ b, PySem.W.exmOne K cls c = some b ∧ (b = true → ∀ a, H a = none → ts a cls d { nx := fun σ' H' => D.nx (σ'.set i none) H', rt := D.rt, bk := fun σ' H' => D.bk (σ'.set i none) H', ct := fun σ' H' => D.ct (σ'.set i none) H' } (σ.set i (some (.ref a))) H) ∧
      (b = false → wManyA K Wout D r cls d σ H)
inductive HdsOkA (X : Cx) : List ExceptHandler → List (Value × Option Nat × (Addr → Value → Option Addr → TS)) → Prop
  | nil : HdsOkA X [] []
  | cons {x : Str} {c : Value} {ts : Addr → Value → Option Addr → TS} {b₀ : Stmt} {suite : List Stmt} {np pos' : Pos} {hds : List ExceptHandler} {l : List (Value × Option Nat × (Addr → Value → Option Addr → TS))} (hc : Names X x c)
      (hsu : ∀ (a : Addr) (oe : Obj) (cls : Value) (d : Option Addr) (pn : List (Addr × Obj)), Zc cls d oe → (∃ vs, oe.data = .fields vs) → PSs (X.suite a ((a, oe) :: pn)) (b₀ :: suite) (ts a cls d)) (r : HdsOkA X hds l) :
      HdsOkA X (.ExceptHandler (some (.Name x np)) none (b₀ :: suite) pos' :: hds) ((c, none, ts) :: l)
  | consA {x n : Str} {i : Nat} {c : Value} {ts : Addr → Value → Option Addr → TS} {b₀ : Stmt} {suite : List Stmt} {np pos' : Pos} {hds : List ExceptHandler} {l : List (Value × Option Nat × (Addr → Value → Option Addr → TS))} (hN : X.N.Nodup) (hi : X.N[i]? = some n) (hln : X.env.kindOf n = some .local) (hc : Names X x c)
      (hsu : ∀ (a : Addr) (oe : Obj) (cls : Value) (d : Option Addr) (pn : List (Addr × Obj)), Zc cls d oe → (∃ vs, oe.data = .fields vs) → PSs (X.suite a ((a, oe) :: pn)) (b₀ :: suite) (ts a cls d)) (r : HdsOkA X hds l) :
      HdsOkA X (.ExceptHandler (some (.Name x np)) (some n) (b₀ :: suite) pos' :: hds) ((c, some i, ts) :: l)
section
variable {X : Cx} {body : List Stmt} {h₀ : ExceptHandler} {hds : List ExceptHandler} {l : List (Value × Option Nat × (Addr → Value → Option Addr → TS))} {pos : Pos} {tb : WX → TS} {Wout : WX}
theorem ps_try_manyA (hs : X.stack = X.env :: X.outer) (hf : X.env.frame = some X.env.locals) (tk : Takes X Wout)
    (hb : ∀ (W : WX) (pn : List (Addr × Obj)) (xe : Value → Shared → Prop), Takes (X.tr pn xe) W → PassesOwn (model X.prog X.w) X.A X.env xe → PSs (X.tr pn xe) body (tb W))
    (hh : HdsOkA X (h₀ :: hds) l) : PS X (.Try body (h₀ :: hds) [] [] pos) (fun D σ H => tb (wManyA X.K Wout D l) D σ H) := by
  refine ⟨fun pins s σ H D I h => ?_⟩
  have ok := I.ok
  have hfr : X.A.frames = some (X.env :: X.outer) := by rw [ok.frames, hs]
  refine PySem.wpAny_Try_except ?_
  refine wpAny_mono ((hb (wManyA X.K Wout D l) (X.pn ++ pins) (fun e s₁ => wpAny (model X.prog X.w) X.A (noteFrame e X.env) (fun _ s₂ => wpAny (model X.prog X.w) X.A (setFlight e none) (fun _ s₃ =>
    wpAny (model X.prog X.w) X.A (handleBy e X.env (h₀ :: hds)) (SP X pins D) X.xe s₃) X.xe s₂) X.xe s₁) (fun u s' xx => ?_) PassesOwn.looking).run [] s σ H D (I.toTry _) h) (fun f s1 hsp => ?_) (fun e s1 he => he)
  · -- the catch
    obtain ⟨a, B, sI, pins', σ', H', cls, d, rfl, J', nb, up, sky, na, os, ag, w⟩ := xx
    have J : Inv X pins σ' H' sI := J'.ofTry ok
    have sky' : Sky B (X.env :: X.outer) a (Zc cls d) X.env.locals s'.heap := by rw [← hs]; exact sky
    show wpAny (model X.prog X.w) X.A (noteFrame (.ref a) X.env) _ _ _
    refine Sky.land Zc.steady hfr hf sky' fun h3 fl3 up3 => ?_
    have J3 : Inv X pins σ' H' { s' with heap := h3 } := J.landed nb fl3.1 (up.trans up3) os ag
    obtain ⟨oe3, vs3, he3, hz3, hd3⟩ := fl3.there
    have notFr : ∀ {h : Heap} {o : Obj} {vs : Array Value}, h.FunFrames B (X.env :: X.outer) → h.get? a = some o → o.data = .fields vs → a ∉ frs (X.env :: X.outer) := fun {h o vs} ff e dd hm => by
      obtain ⟨_, o', e', hnf⟩ := ff.mem hm
      rw [e] at e'; cases e'
      exact hnf _ dd
    have nfr := notFr fl3.2.2.1 he3 hd3
    have nL : a ≠ X.env.locals := fun z => nfr (List.mem_filterMap.mpr ⟨X.env, List.mem_cons_self, by rw [hf, z]⟩)
    have nF : a ∉ X.fs := fun hm => by
      obtain ⟨e, he, q⟩ := List.mem_filterMap.mp hm
      exact nfr (List.mem_filterMap.mpr ⟨e, List.mem_cons_of_mem _ he, q⟩)
    have S3 := J3.suite he3 hd3 na nL nF
    have go : ∀ {hds' : List ExceptHandler} {l' : List (Value × Option Nat × (Addr → Value → Option Addr → TS))}, HdsOkA X hds' l' → wManyA X.K Wout D l' cls d σ' H' →
        wpAny (model X.prog X.w) X.A (handleBy (.ref a) X.env hds') (SP X pins D) X.xe { s' with heap := h3 } := by
      intro hds' l' hk
      induction hk with
      | nil =>
        intro w
        refine PySem.wpAny_handleBy_nil ?_
        obtain ⟨k1, k2, k3, oe, vs, T, oT, ts', he, hz, hd, h1, hr⟩ := id fl3
        unfold PySem.passOn
        refine wpAny_bind (wpAny_field he hd h1 ?_)
        rw [if_neg (show ¬ ((Value.ref T == Value.none) = true) from by simp)]
        have fin : wpAny (model X.prog X.w) X.A (setFlight (.ref a) X.env.frame) (fun _ s4 => wpAny (model X.prog X.w) X.A (throw (.ref a) : Sem Flow) (SP X pins D) X.xe s4) X.xe { s' with heap := h3 } := by
          rw [hf]
          refine HandSPX.setFlight_upZ fl3 fun h4 hh4 up4 => wpAny_throw (tk _ _ ?_)
          exact ⟨a, B, sI, pins, σ', H', cls, d, rfl, J, nb, (up.trans up3).trans up4, .inr (.inr (by rw [hs]; exact hh4)), na, os, ag, w⟩
        first
          | exact wpAny_bind (wpAny_pure (wpAny_bind fin))
          | exact wpAny_bind fin
      | @cons x c ts b₀ suite np pos' hds2 l2 hc hsu r ih =>
        intro w
        obtain ⟨b, hb1, hyes, hno⟩ := w
        refine wpAny_handleBy_cons (codeAny_handlers_test ?_) (by intro q; cases q)
        have LT : PySem.W.Looks (model X.prog X.w) h3 (typeOf (.ref a)) cls := fun A Q E s k q => wpAny_typeOf_ref (k _ _ he3) (by rw [hz3.1]; exact q)
        have LM := PySem.W.exm_one (M := model X.prog X.w) (J3.kIn) LT hb1
        have test : ∀ {Q : Value → Shared → Prop} {E : Value → Shared → Prop}, Q c { s' with heap := h3 } → wpAny (model X.prog X.w) (X.A.mark (some (.ref a))) (eval (.Name x np) X.env) Q E { s' with heap := h3 } := fun {Q E} q => by
          obtain ⟨hg, hdbg, hm | ⟨hm, hv, hnn⟩⟩ := hc
          · exact ld_glob (X := X.suite a ((a, oe3) :: (X.pn ++ pins))) S3 hg hm q hdbg
          · exact ld_blt (X := X.suite a ((a, oe3) :: (X.pn ++ pins))) S3 hg hm hv q hnn hdbg
        refine test (LM.here ?_)
        cases b with
        | true =>
          refine codeAny_handlers_suite ?_
          refine HandSPX.lands_againZ fl3 fun h4 fl4 up4 => ?_
          have J4 : Inv X pins σ' H' { s' with heap := h4 } := J.landed nb fl4.1 ((up.trans up3).trans up4) os ag
          obtain ⟨oe4, vs4, he4, hz4, hd4⟩ := fl4.there
          have S4 := J4.suite he4 hd4 na nL nF
          refine wpAny_mono ((hsu a oe4 cls d (X.pn ++ pins) hz4 ⟨_, hd4⟩).run [] _ _ H' _ S4 (hyes rfl a na)) (fun f s6 hsp => ?_) (fun _ _ z => False.elim z)
          cases f with
          | next =>
            obtain ⟨σ6, H6, S6, q6⟩ := hsp
            exact ⟨_, _, S6.unsuite ok, q6⟩
          | brk =>
            obtain ⟨σ6, H6, S6, q6⟩ := hsp
            exact ⟨_, _, S6.unsuite ok, q6⟩
          | cont =>
            obtain ⟨σ6, H6, S6, q6⟩ := hsp
            exact ⟨_, _, S6.unsuite ok, q6⟩
          | ret u =>
            obtain ⟨v6, σ6, H6, S6, r6, q6⟩ := hsp
            exact ⟨_, _, _, S6.unsuite ok, r6, q6⟩
        | false =>
          show wpAny _ X.A (handleBy (.ref a) X.env hds2) _ _ _
          exact ih (hno rfl)
      | @consA x n i c ts b₀ suite np pos' hds2 l2 hN hi hln hc hsu r ih =>
        intro w
        obtain ⟨b, hb1, hyes, hno⟩ := w
        have hloc : Loc X.env.scope n := .inl hln
        refine wpAny_handleBy_cons (codeAny_handlers_test ?_) (by intro q; cases q)
        have LT : PySem.W.Looks (model X.prog X.w) h3 (typeOf (.ref a)) cls := fun A Q E s k q => wpAny_typeOf_ref (k _ _ he3) (by rw [hz3.1]; exact q)
        have LM := PySem.W.exm_one (M := model X.prog X.w) (J3.kIn) LT hb1
        have test : ∀ {Q : Value → Shared → Prop} {E : Value → Shared → Prop}, Q c { s' with heap := h3 } → wpAny (model X.prog X.w) (X.A.mark (some (.ref a))) (eval (.Name x np) X.env) Q E { s' with heap := h3 } := fun {Q E} q => by
          obtain ⟨hg, hdbg, hm | ⟨hm, hv, hnn⟩⟩ := hc
          · exact ld_glob (X := X.suite a ((a, oe3) :: (X.pn ++ pins))) S3 hg hm q hdbg
          · exact ld_blt (X := X.suite a ((a, oe3) :: (X.pn ++ pins))) S3 hg hm hv q hnn hdbg
        refine test (LM.here ?_)
        cases b with
        | true =>
          refine codeAny_handlers_suite_as ?_
          refine HandSPX.lands_againZ fl3 fun h4 fl4 up4 => ?_
          have J4 : Inv X pins σ' H' { s' with heap := h4 } := J.landed nb fl4.1 ((up.trans up3).trans up4) os ag
          obtain ⟨oe4, vs4, he4, hz4, hd4⟩ := fl4.there
          have S4 := J4.suite he4 hd4 na nL nF
          refine store_ok (X := X.suite a ((a, oe4) :: (X.pn ++ pins))) (v := .ref a) S4 hN hi hloc rfl (fun s5 S5 => ?_) (.inr hln)
          refine wpAny_mono ((hsu a oe4 cls d (X.pn ++ pins) hz4 ⟨_, hd4⟩).run [] s5 _ H' _ S5 (hyes rfl a na)) (fun f s6 hsp => ?_) (fun _ _ z => False.elim z)
          have end_ : ∀ {σ6 : L2.St} {H6 : Hp} {Q : Shared → Prop}, Inv (X.suite a ((a, oe4) :: (X.pn ++ pins))) [] σ6 H6 s6 → (∀ s7, Inv X pins (σ6.set i none) H6 s7 → Q s7) →
              wpAny (model X.prog X.w) X.A (do bindName X.env n .none; unbindBehindTheSuite X.env n pos') (fun _ s7 => Q s7) X.xe s6 := fun {σ6 H6 Q} S6 hq => gone_ok (S6.unsuite ok) hN hi hln hq
          cases f with
          | next =>
            obtain ⟨σ6, H6, S6, q6⟩ := hsp
            exact end_ S6 fun s7 J7 => ⟨_, _, J7, q6⟩
          | brk =>
            obtain ⟨σ6, H6, S6, q6⟩ := hsp
            exact end_ S6 fun s7 J7 => ⟨_, _, J7, q6⟩
          | cont =>
            obtain ⟨σ6, H6, S6, q6⟩ := hsp
            exact end_ S6 fun s7 J7 => ⟨_, _, J7, q6⟩
          | ret u =>
            obtain ⟨v6, σ6, H6, S6, r6, q6⟩ := hsp
            exact end_ S6 fun s7 J7 => ⟨_, _, _, J7, r6, q6⟩
        | false =>
          show wpAny _ X.A (handleBy (.ref a) X.env hds2) _ _ _
          exact ih (hno rfl)
    exact go hh w
  · cases f with
    | next =>
      obtain ⟨σ', H', J', q⟩ := hsp
      exact PySem.wpAny_execs_nil ⟨σ', H', J'.ofTry ok, q⟩
    | brk =>
      obtain ⟨σ', H', J', q⟩ := hsp
      exact ⟨σ', H', J'.ofTry ok, q⟩
    | cont =>
      obtain ⟨σ', H', J', q⟩ := hsp
      exact ⟨σ', H', J'.ofTry ok, q⟩
    | ret u =>
      obtain ⟨v, σ', H', J', r, q⟩ := hsp
      exact ⟨v, σ', H', J'.ofTry ok, r, q⟩
end
/-! ### an own error whose __init__ calls its base's, and that is told by a field -/
theorem pe_tveinit {X : Cx} {e : Expr} {es : List Expr} {ta : TA} {p1 p2 pos : Pos} {x : Str} {CB : Addr} {pl : Sem Bool} (hg : Gl X x) (hm : X.mg x = some (.ref CB)) (hr : PySem.W.readsIn X.K CB (.type "type") = true)
    (vV : PySem.W.findCls X.K (.ref CB) (.type "type") "__init__" = some (.val (.builtin "ValueError.__init__"))) (sg : PySem.W.specialIn X.K (.ref CB) "__getattribute__" = some (some (.builtin "type.__getattribute__"))) (ha : PA X (e :: es) ta)
    (hdb : (x == ("__debug__" : Str)) = false := by decide)
    (hc : eval (.Call (.Attribute (.Name x p1) "__init__" p2) (e :: es) [] pos) X.env = (do
      let ov ← eval (.Name x p1) X.env
      standAt p2.atName
      let (f, first) ← holding [ov] (getMethod ov "__init__" pl)
      callWith pos f first (backTo pos (starEach (e :: es) X.env)) (backToKw pos (keywordEach [] X.env))) := by rfl)
    (he : starEach (e :: es) X.env = (false, eval e X.env) :: starEach es X.env := by rfl) (hpl : (backTo pos (starEach es X.env)).any (·.1) = false := by rfl) :
    PE X (.Call (.Attribute (.Name x p1) "__init__" p2) (e :: es) [] pos) (tVeI X.K ta) := by
  refine ⟨fun pins s σ H Q I h => ?_⟩
  refine PySem.W.methodCall_KW (ld_glob I hg hm ?_ hdb) hc
  refine PySem.W.method_cls I.kIn sg (PySem.W.cls_value I.kIn hr vV rfl ?_)
  show wpAny _ _ (callWith pos (Value.builtin "ValueError.__init__") [] (backTo pos (starEach (e :: es) X.env)) []) _ _ _
  refine PyProof.Rows.callWith_method1 (thn (ha.run pos pins _ σ H _ (I.tok _) h) fun us s1 ⟨vs, H1, I1, r1, a, C, ws, ev, hl, T, ea, q⟩ => ?_) he hpl
  subst ev
  cases r1 with
  | @cons _ u0 _ ur ra rw' =>
    obtain rfl : u0 = Value.ref a := ra
    have hlen : ur.length ≤ sizeLine := by
      rw [← Paired.length rw', sizeLine_eq]
      omega
    exact oinit_ok T I1 ea hlen fun s' J => ⟨.non, H1, J, rfl, q⟩
/-- what __init__ of such an error is called with, and leaves -/
def sp_einit (K : PySem.W.Frag) (C : Addr) (f : Str) : Sp := fun vs H Q _ => ∃ (a : Addr) (v : V), vs = [.ref a, v] ∧ H a = some (exo a C none) ∧ ∀ dx, H dx = none → dx ≠ a → Q .non (upd (upd H dx (exd dx [(f, v)])) a (exo a C (some dx)))
theorem k_vei {K : PySem.W.Frag} {ta : TA} {σ : L2.St} {H : Hp} {Q : VK} (h : ta σ H fun vs H1 => ∃ (a C : Addr) (ws : List V), vs = .ref a :: ws ∧ ws.length ≤ 1000 ∧ OexC K C ∧ H1 a = some (exo a C none) ∧ Q .non H1) : tVeI K ta σ H Q := h
theorem k_ost {K : PySem.W.Frag} {f : Str} {to te : TE} {D : Ends} {σ : L2.St} {H : Hp} (h : te σ H fun y H1 => to σ H1 fun x H2 => ∃ a C : Addr, x = .ref a ∧ OexC K C ∧ PySem.W.findIn K (.ref C) f = some none ∧
  ((H2 a = some (exo a C none) ∧ ∀ dx, H2 dx = none → dx ≠ a → D.nx σ (upd (upd H2 dx (exd dx [(f, y)])) a (exo a C (some dx)))) ∨
    ∃ (dx : Addr) (fs : List (Str × V)), H2 a = some (exo a C (some dx)) ∧ H2 dx = some (exd dx fs) ∧ fs.length ≤ 900 ∧ D.nx σ (upd H2 dx (exd dx ((f, y) :: fs))))) : tOst K f to te D σ H := h
theorem k_mkO {C : Addr} {sp : Sp} {dvs : List V} {ta : TA} {σ : L2.St} {H : Hp} {Q : XK} (h : ta σ H fun vs H1 => vs.length ≤ 1000 ∧ ∀ a, H1 a = none → sp (.ref a :: (vs ++ dvs)) (upd H1 a (exo a C none))
  (fun v H2 => v = .non ∧ ∃ (d : Addr) (fs : List (Str × V)), H2 a = some (exo a C (some d)) ∧ H2 d = some (exd d fs) ∧ H1 d = none ∧ Q (.ref C) (some d) (upd (del H2 a) d (.xd fs))) (fun _ _ _ => False)) : tMkO C sp dvs ta σ H Q := h
theorem k_xf {a : Addr} {cls : Value} {d : Option Addr} {C : Addr} {f : Str} {te : TE} {σ : L2.St} {H : Hp} {Q : VK} (h : te σ H fun x H1 => x = .ref a ∧ cls = .ref C ∧ ∃ (dd : Addr) (fs : List (Str × V)) (v : V), d = some dd ∧ H1 dd = some (.xd fs) ∧ fs.lookup f = some v ∧ Q v H1) : tXf a cls d C f te σ H Q := h
theorem exc_same {H : Hp} {a d C : Addr} {fs : List (Str × V)} {o : HO} (ha : H a = none) (hd : H d = none) : Same H (upd (del (upd (upd (upd H a (exo a C none)) d o) a (exo a C (some d))) a) d (.xd fs)) := fun b ob e => by
  rw [upd_ne (ne_of_none e hd), del_ne (ne_of_none e ha), upd_ne (ne_of_none e ha), upd_ne (ne_of_none e hd), upd_ne (ne_of_none e ha)]
  exact e
/-! ### f'..{x}..' of an int or None -/
def tFmtN (te : TE) : TE := fun σ H Q => te σ H fun x H1 => (x = .non ∧ Q (.str "None") H1) ∨ ∃ i : Int, x = .int i ∧ i.natAbs.log2 < 1920 ∧ Q (.str (toString i)) H1
theorem pe_fmtN {X : Cx} {e : Expr} {te : TE} {pos : Pos} (he : PE X e te) : PE X (.FormattedValue e (-1) none pos) (tFmtN te) := by
  refine ⟨fun pins s σ H Q I h => ?_⟩
  refine PySem.wpAny_FormattedValue_plain (thn (he.run pins s σ H _ I h) fun v s1 hv => ?_)
  obtain ⟨x, H1, I1, r1, q⟩ := hv
  rcases q with ⟨rfl, q⟩ | ⟨i, rfl, hz, q⟩
  · cases (show v = Value.none from r1)
    exact PySem.wpAny_formatField_none ⟨.str "None", H1, I1.tok _, ⟨_, rfl⟩, q⟩
  · obtain ⟨t, rfl⟩ := r1
    exact PySem.wpAny_formatField_int hz ⟨.str (toString i), H1, I1.tok _, ⟨_, rfl⟩, q⟩
theorem k_fmtN {te : TE} {σ : L2.St} {H : Hp} {Q : VK} (h : te σ H fun x H1 => (x = .non ∧ Q (.str "None") H1) ∨ ∃ i : Int, x = .int i ∧ i.natAbs.log2 < 1920 ∧ Q (.str (toString i)) H1) : tFmtN te σ H Q := h
/-! ### a call that an error may leave -/
section
variable {K : PySem.W.Frag} {σ : L2.St} {H : Hp} {Q : VK}
theorem k_callS {sp : Sp} {E : L2.St → XK} {t : TA} (h : t σ H fun vs H1 => sp vs H1 Q (E σ)) : tCallS sp E t σ H Q := h
end
/-! ### the drawn machines -/
def sp_parts (K : PySem.W.Frag) : Sp := fun vs H Q _ => ∃ (a : Addr) (st : Nat) (sz : Int), vs = [.ref a, .int (st : Nat), .int sz] ∧ 1 ≤ st ∧ st ≤ 8 ∧ 0 ≤ sz ∧ 2 * sz + 1 ≤ 10 ^ 30 ∧ RowOk K H a ∧
  ∀ (d : Addr) (m : MD) (H' : Hp), m.Ok → m.n ≤ st → (∀ s ∈ m.ss, -(2 * sz + 1) ≤ s.g ∧ s.g ≤ 2 * sz + 1) → DAt K H' d m → RowOk K H' a → Keep a H H' → H d = none → Q (.ref d) H'
theorem abcd_cut {k : Nat} (h1 : 1 ≤ k) (h4 : k ≤ 4) : cutS "abcd" none (some ((k : Nat) : Int)) = ⟨(([97, 98, 99, 100] : List Nat).take k).toArray⟩ := by
  have z : k = 1 ∨ k = 2 ∨ k = 3 ∨ k = 4 := by omega
  rcases z with rfl | rfl | rfl | rfl <;> decide
theorem abcd_at {k j c : Nat} (h : (([97, 98, 99, 100] : List Nat).take k).toArray[j]? = some c) : c = 97 + j ∧ j < 4 := by
  rw [List.getElem?_toArray, List.getElem?_take] at h
  split at h
  · match j, h with
    | 0, h => simp at h; omega
    | 1, h => simp at h; omega
    | 2, h => simp at h; omega
    | 3, h => simp at h; omega
    | n + 4, h => simp at h
  · cases h
/-- the steps so far: of the stands below i, and of i by the first j letters -/
structure Sofar (K : PySem.W.Frag) (H : Hp) (l : Addr) (n : Nat) (sz : Int) (i j : Nat) (ss : List Stp) : Prop where
  at_ : ∃ vs, H l = some (.lst vs) ∧ StpsAt K H vs ss
  ok : ∀ s ∈ ss, s.Ok n
  up : ss.Pairwise Stp.lt
  bd : ∀ s ∈ ss, s.b < i ∨ (s.b = i ∧ s.c < 97 + j)
  gb : ∀ s ∈ ss, -(2 * sz + 1) ≤ s.g ∧ s.g ≤ 2 * sz + 1
  len : ss.length ≤ 4 * i + j
theorem Sofar.keep {K : PySem.W.Frag} {H H' : Hp} {l a : Addr} {n i j : Nat} {sz : Int} {ss : List Stp} {xs : List V} (h : Sofar K H l n sz i j ss) (k : Keep a H H') (ha : H a = some (.lst xs)) (ne : l ≠ a) : Sofar K H' l n sz i j ss :=
  let ⟨vs, e, q⟩ := h.at_
  ⟨⟨vs, k _ _ ne e, (k.tups ha).steps q⟩, h.ok, h.up, h.bd, h.gb, h.len⟩
theorem Sofar.more {K : PySem.W.Frag} {H : Hp} {l : Addr} {n i j j' : Nat} {sz : Int} {ss : List Stp} (h : Sofar K H l n sz i j ss) (e : j ≤ j') : Sofar K H l n sz i j' ss :=
  ⟨h.at_, h.ok, h.up, fun s hs => (h.bd s hs).imp id fun z => ⟨z.1, by omega⟩, h.gb, by have := h.len; omega⟩
theorem Sofar.line {K : PySem.W.Frag} {H : Hp} {l : Addr} {n i j : Nat} {sz : Int} {ss : List Stp} (h : Sofar K H l n sz i j ss) (e : j ≤ 4) : Sofar K H l n sz (i + 1) 0 ss :=
  ⟨h.at_, h.ok, h.up, fun s hs => .inl (by rcases h.bd s hs with z | z <;> omega), h.gb, by have := h.len; omega⟩
theorem Sofar.snoc {K : PySem.W.Frag} {H : Hp} {l p : Addr} {n i j e : Nat} {sz g : Int} {ss : List Stp} (h : Sofar K H l n sz i j ss) (hp : H p = none) (hi : i < n) (hj : j < 4) (he : e < n) (z1 : 2 * sz + 1 ≤ 10 ^ 30)
    (g1 : -(2 * sz + 1) ≤ g) (g2 : g ≤ 2 * sz + 1) : ∀ vs, H l = some (.lst vs) →
    Sofar K (upd (upd H p (.tup (stpV ⟨i, 97 + j, e, g⟩))) l (.lst (vs ++ [.ref p]))) l n sz i (j + 1) (ss ++ [⟨i, 97 + j, e, g⟩]) := fun vs ev => by
  obtain ⟨vs', e', q⟩ := h.at_
  rw [ev] at e'
  cases e'
  have np : l ≠ p := ne_of_none ev hp
  have t1 : Tups H (upd H p (.tup (stpV ⟨i, 97 + j, e, g⟩))) := Tups.new hp
  have el : (upd H p (.tup (stpV ⟨i, 97 + j, e, g⟩))) l = some (.lst vs) := by rw [upd_ne np]; exact ev
  have t2 := Tups.lst (o := .lst (vs ++ [.ref p])) el
  have mem : ∀ s, s ∈ ss ++ [(⟨i, 97 + j, e, g⟩ : Stp)] → s ∈ ss ∨ s = ⟨i, 97 + j, e, g⟩ := fun s hs => by simpa using hs
  refine ⟨⟨_, upd_same, (t2.steps ((t1.steps q).snoc (SqT.of upd_same)))⟩, fun s hs => ?_, ?_, fun s hs => ?_, fun s hs => ?_, ?_⟩
  · rcases mem s hs with hs | rfl
    · exact h.ok s hs
    · exact ⟨hi, by show 97 ≤ 97 + j; omega, by show 97 + j ≤ 100; omega, he, by show -(10 ^ 30) ≤ g; omega, by show g ≤ 10 ^ 30; omega⟩
  · refine List.pairwise_append.mpr ⟨h.up, List.pairwise_singleton _ _, fun s hs t ht => ?_⟩
    have ht' : t = ⟨i, 97 + j, e, g⟩ := by simpa using ht
    subst ht'
    rcases h.bd s hs with z | ⟨z, z'⟩
    · exact .inl z
    · exact .inr ⟨z, z'⟩
  · rcases mem s hs with hs | rfl
    · rcases h.bd s hs with z | ⟨z, z'⟩
      · exact .inl z
      · exact .inr ⟨z, by omega⟩
    · exact .inr ⟨rfl, by show 97 + j < 97 + (j + 1); omega⟩
  · rcases mem s hs with hs | rfl
    · exact h.gb s hs
    · exact ⟨g1, g2⟩
  · rw [List.length_append, List.length_singleton]
    have := h.len
    omega
section
variable {P : Program} {w : World} {K : PySem.W.Frag} {mg : Str → Option Value} {base : Heap}
theorem ok_law_parts (T : Txt K mg) : FnOk P w K mg base (L2.CX P w) 2 T.a_law_parts T.fd_law_parts ["_law_row", "_law_stands", "_law_size"] (sp_parts K) := by
  refine T.F_law_parts.okX sc_law_parts (fun vs H Q E h => ?_) (fun cdv A outer s H vs Q E hr h => ?_)
  · obtain ⟨a, st, sz, rfl, _⟩ := h
    rfl
  · obtain ⟨a, st, sz, rfl, st1, st8, sz0, sz1, R0, k⟩ := h
    refine ⟨_, (PSs.nox (pss_cons (ps_par (i := 3) (j := 4) (by rfl) sc_law_parts.nd rfl rfl (by decide) rfl rfl (pa_cons (pe_op op_add pe_int (pe_call (ok_law_taken T) (hr.mono (by decide)) (by rfl) T.m_law_taken T.k_law_taken T.b_law_taken .nil passL (pa_cons (pv 0) (pa_cons (pv 1) pa_nil)))) (pa_cons (pe_call (ok_law_taken T) (hr.mono (by decide)) (by rfl) T.m_law_taken T.k_law_taken T.b_law_taken .nil passL (pa_cons (pv 0) (pa_cons pe_int pa_nil))) pa_nil)) (by rfl))
  (pss_cons (ps_setLc (i := 5) (own := [("_law_stand", 13)]) (g := (gName 13)) (tt := tYes) rfl sc_law_parts.nd rfl rfl (sw_true rfl rfl rfl (by decide +kernel)) (pi_range1 (by rfl) T.z_range (pa_cons (pv 3) pa_nil)) (blkOk_by (own := [("_law_stand", 13)]) (N := ["_law_row", "_law_stands", "_law_size", "_law_many", "_law_kind", "_law_heights", "_law_steps", "_law_letters", "_law_begun", "_law_letter", "_law_end", "_law_gain_here", "_law_ends", "_law_stand"]) (sc := defScope s_law_parts) (by decide +kernel)) (fun _ _ _ _ _ => (pg_name (i := 13) sc_law_parts.nd rfl (Or.inl rfl))) (fun _ _ _ _ _ => pts_nil) (fun _ _ _ _ _ => (pe_op op_sub (pe_call (ok_law_taken T) (hr.mono (by decide)) (by rfl) T.m_law_taken T.k_law_taken T.b_law_taken .nil passL (pa_cons (pv 0) (pa_cons (pe_op op_add (pe_op op_mulW pe_int (pv 2)) pe_int) pa_nil))) (pv 2))))
  (pss_cons (ps_par (i := 6) (j := 7) (by rfl) sc_law_parts.nd rfl rfl (by decide) rfl rfl (pa_cons (pe_lst pa_nil) (pa_cons (pe_slice sl_str pe_str po_none (po_some (pe_op op_add pe_int (pe_call (ok_law_taken T) (hr.mono (by decide)) (by rfl) T.m_law_taken T.k_law_taken T.b_law_taken .nil passL (pa_cons (pv 0) (pa_cons pe_int pa_nil)))))) pa_nil)) (by rfl))
  (pss_cons (ps_for PassesOwn.never rfl (pi_range1 (by rfl) T.z_range (pa_cons (pv 3) pa_nil)) (pg_name (i := 8) sc_law_parts.nd rfl (Or.inl rfl))
  (pss_one (ps_for PassesOwn.never rfl (pi_str (pv 7)) (pg_name (i := 9) sc_law_parts.nd rfl (Or.inl rfl))
  (pss_one (ps_if (pt_cmpR op_gt (pe_call (ok_law_taken T) (hr.mono (by decide)) (by rfl) T.m_law_taken T.k_law_taken T.b_law_taken .nil passL (pa_cons (pv 0) (pa_cons pe_int pa_nil))) pe_int (nomark _))
  (pss_cons (ps_set (i := 10) sc_law_parts.nd rfl (Or.inl rfl) (pe_call (ok_law_taken T) (hr.mono (by decide)) (by rfl) T.m_law_taken T.k_law_taken T.b_law_taken .nil passL (pa_cons (pv 0) (pa_cons (pv 3) pa_nil))))
  (pss_cons (ps_set (i := 11) sc_law_parts.nd rfl (Or.inl rfl) (pe_op op_sub (pe_ix ix_list (pv 5) (pv 10) (fun _ _ => rfl)) (pe_ix ix_list (pv 5) (pv 8) (fun _ _ => rfl))))
  (C8.pss_cut (ps_if (PW.pt (pw_or (PW.pt (pw_and (pt_cmpR op_eq (pv 4) pe_int (nomark _)) (pw_and1 (pt_cmpR op_eq (pe_call (ok_law_taken T) (hr.mono (by decide)) (by rfl) T.m_law_taken T.k_law_taken T.b_law_taken .nil passL (pa_cons (pv 0) (pa_cons pe_int pa_nil))) pe_int (nomark _))))) (pw_or1 (pt_cmpR op_eq (pv 4) pe_int (nomark _)))))
  (pss_one (ps_set (i := 11) sc_law_parts.nd rfl (Or.inl rfl) (pe_op op_sub (pe_call (ok_law_taken T) (hr.mono (by decide)) (by rfl) T.m_law_taken T.k_law_taken T.b_law_taken .nil passL (pa_cons (pv 0) (pa_cons (pe_op op_add (pe_op op_mulW pe_int (pv 2)) pe_int) pa_nil))) (pv 2))))
  pss_nil)
  (C8.pss_cut (ps_if (PW.pt (pw_and (pt_cmpR op_eq (pv 4) pe_int (nomark _)) (pw_and1 (pt_cmpR op_eq (pe_call (ok_law_taken T) (hr.mono (by decide)) (by rfl) T.m_law_taken T.k_law_taken T.b_law_taken .nil passL (pa_cons (pv 0) (pa_cons pe_int pa_nil))) pe_int (nomark _)))))
  (pss_one (ps_set (i := 11) sc_law_parts.nd rfl (Or.inl rfl) (pe_op op_add (pv 11) pe_int)))
  pss_nil)
  (pss_one (ps_expr (pe_bm PySem.F.plainAttrs_list PySem.F.slot_list_append PySem.F.type_list_append mt_append (pv 6) (pa_cons (pe_tup (pa_cons (pv 8) (pa_cons (pv 9) (pa_cons (pv 10) (pa_cons (pv 11) pa_nil))))) pa_nil))))))))
  pss_nil)))))
  (pss_cons (ps_set (i := 12) sc_law_parts.nd rfl (Or.inl rfl) (pe_callTy call_tuple_of (by rfl) T.z_tuple PySem.Pv.boot_tuple (pa_cons (pe_lc (own := [("_law_stand", 13)]) (g := (gName 13)) rfl sc_law_parts.nd (pi_range1 (by rfl) T.z_range (pa_cons (pv 3) pa_nil)) (blkOk_by (own := [("_law_stand", 13)]) (N := ["_law_row", "_law_stands", "_law_size", "_law_many", "_law_kind", "_law_heights", "_law_steps", "_law_letters", "_law_begun", "_law_letter", "_law_end", "_law_gain_here", "_law_ends", "_law_stand"]) (sc := defScope s_law_parts) (by decide +kernel)) (fun _ _ _ _ _ => (pg_name (i := 13) sc_law_parts.nd rfl (Or.inl rfl))) (fun _ _ _ _ _ => (pts_one (pt_cmpR op_eq (pe_call (ok_law_taken T) (hr.mono (by decide)) (by rfl) T.m_law_taken T.k_law_taken T.b_law_taken .nil passL (pa_cons (pv 0) (pa_cons pe_int pa_nil))) pe_int (nomark _)))) (fun _ _ _ _ _ => (pv 13))) pa_nil)))
  (pss_one (ps_ret (pe_disp (pps_cons pe_str (pv 3) (pps_cons pe_str (pe_callTy call_tuple_of (by rfl) T.z_tuple PySem.Pv.boot_tuple (pa_cons (pv 6) pa_nil)) (pps_cons pe_str (pv 12) pps_nil))) (by rfl) (by rfl) (fun z => by cases z) (by decide)))))))))), ?_⟩
    walk_at "begin"
    walk_at "go"
    refine ⟨a, _, rfl, by omega, by omega, R0, fun x1 H1 x1a x1b R1 K1 => ?_⟩
    obtain ⟨y, rfl⟩ := Int.eq_ofNat_of_zero_le x1a
    walk_at "go"
    refine ⟨a, 4, rfl, by omega, by decide, R1, fun kind H2 kda kdb R2 K2 => ?_⟩
    walk_at "go"
    have en : (1 + (y : Int)) = ((y + 1 : Nat) : Int) := by omega
    rw [en]
    refine k_rg (by omega) (by omega) fun D hD => ?_
    have K02 := K1.trans K2
    have nD : a ≠ D := R2.ne hD
    have hD0 : H D = none := K02.free nD.symm hD
    have CM : CMulW 2 sz := wide_mul (a := 2) (b := 101) (by decide) (by omega) (by decide) (by decide) (by decide)
    have small : ∀ {hs : List Int} {i : Nat}, hs.length = i → i < 100 → (hs.map V.int).length < sizeLine := fun e q => by
      rw [List.length_map, e]
      exact Nat.lt_trans q (by decide)
    -- the heights
    refine lc_range (lo := 0) (n := (((y + 1 : Nat) : Int)).toNat) (fun i H' => Keep a H H' ∧ RowOk K H' a ∧ ∃ hs : List Int, H' D = some (.lst (hs.map V.int)) ∧ hs.length = i ∧ ∀ h ∈ hs, -sz ≤ h ∧ h ≤ sz)
      ⟨K02.trans (Keep.new hD), R2.same (Same.new hD), [], upd_same, rfl, fun _ h => absurd h (by simp)⟩ ?_ ?_
    · rintro i H3 hi ⟨K3, R3, hs, eD, hl, hb⟩
      walk_at "go"
      refine ⟨rfl, ?_⟩
      walk_at "go"
      refine iteT ?_
      walk_at "go"
      refine k_I CM ?_
      walk_at "go"
      refine ⟨a, _, rfl, by omega, by omega, R3, fun x H4 xa xb R4 K4 => ?_⟩
      walk_at "go"
      have eD4 := K4 _ _ nD.symm eD
      refine ⟨_, eD4, small hl (by omega), (K3.trans K4).mut hD0, R4.keep nD eD4 Keep.at_, hs ++ [x - sz], ?_, ?_, ?_⟩
      · rw [upd_same, List.map_append]; rfl
      · rw [List.length_append, hl]; rfl
      · intro h hh
        rcases List.mem_append.mp hh with hh | hh
        · exact hb h hh
        · have : h = x - sz := by simpa using hh
          omega
    · rintro H3 ⟨K3, R3, hs, eD, hl, hb⟩
      walk_at "go"
      refine ⟨Nat.zero_le _, fun l hl0 => ?_⟩
      have nl : a ≠ l := R3.ne hl0
      have hlH : H l = none := K3.free nl.symm hl0
      have nDl : D ≠ l := ne_of_none eD hl0
      walk_at "go"
      refine ⟨a, 4, rfl, by omega, by decide, R3.same (Same.new hl0), fun x2 H4 xa xb R4 K4 => ?_⟩
      obtain ⟨y2, rfl⟩ := Int.eq_ofNat_of_zero_le xa
      have en2 : (1 + (y2 : Int)) = ((y2 + 1 : Nat) : Int) := by omega
      walk_at "go"
      rw [en2]
      refine k_slS (by decide) ?_
      rw [abcd_cut (by omega) (by omega)]
      walk_at "go"
      refine k_rg (by omega) (by omega) ?_
      have K04 : Keep a H H4 := (K3.trans (Keep.new hl0)).trans K4
      have eD4 : H4 D = some (.lst (hs.map V.int)) := K4 _ _ nD.symm (Keep.new (a := a) hl0 _ _ nD.symm eD)
      have el4 : H4 l = some (.lst []) := K4 _ _ nl.symm upd_same
      clear K3 R3 eD K4
      -- the steps
      obtain ⟨LT, hLT⟩ : ∃ z : Str, z = ⟨(([97, 98, 99, 100] : List Nat).take (y2 + 1)).toArray⟩ := ⟨_, rfl⟩
      rw [← hLT]
      have nat : ∀ z : Nat, ((z : Int)).toNat = z := fun z => rfl
      refine for_range (lo := 0) (n := (((y + 1 : Nat) : Int)).toNat) (fun i σ H' => ∃ ss s8 s9 s10 s11, Keep a H H' ∧ RowOk K H' a ∧ H' D = some (.lst (hs.map V.int)) ∧ Sofar K H' l (y + 1) sz i 0 ss ∧
        σ = [some (.ref a), some (.int (st : Nat)), some (.int sz), some (.int ((y + 1 : Nat) : Int)), some (.int kind), some (.ref D), some (.ref l), some (.str LT), s8, s9, s10, s11, none, none])
        ⟨[], none, none, none, none, K04, R4, eD4, ⟨⟨[], el4, rfl, fun _ _ h => absurd h (by simp)⟩, fun _ h => absurd h (by simp), .nil, fun _ h => absurd h (by simp), fun _ h => absurd h (by simp), Nat.zero_le _⟩, rfl⟩ ?_ ?_
      · rintro i σ H5 hi ⟨ss, s8, s9, s10, s11, K5, R5, eD5, S5, rfl⟩
        walk_at "go"
        refine ⟨_, rfl, for_it walk_str (fun j σ H' => ∃ ss s9 s10 s11, Keep a H H' ∧ RowOk K H' a ∧ H' D = some (.lst (hs.map V.int)) ∧ Sofar K H' l (y + 1) sz i j ss ∧
          σ = [some (.ref a), some (.int (st : Nat)), some (.int sz), some (.int ((y + 1 : Nat) : Int)), some (.int kind), some (.ref D), some (.ref l), some (.str LT), some (.int (0 + (i : Nat))), s9, s10, s11, none, none])
          ⟨ss, s9, s10, s11, K5, R5, eD5, S5, rfl⟩ (fun _ _ _ _ _ => trivial) ?_ ?_⟩
        · rintro j x σ H6 H6' hj ⟨ss, s9, s10, s11, K6, R6, eD6, S6, rfl⟩ ⟨rfl, c, hc, rfl⟩
          have hc' : c = 97 + j ∧ j < 4 := by
            rw [hLT] at hc
            exact abcd_at hc
          obtain ⟨rfl, j4⟩ := hc'
          walk_at "go"
          refine ⟨a, 4, rfl, by omega, by decide, R6, fun x1 H7 _ _ R7 K7 => ?_⟩
          walk_at "go"
          have eD7 := K7 _ _ nD.symm eD6
          obtain ⟨lr, er6⟩ := R6.lst
          have S7 := S6.keep K7 er6 nl.symm
          refine k_ite (fun c1 => ?_) (fun c1 => ?_)
          · walk_at "go"
            refine ⟨a, _, rfl, by omega, by omega, R7, fun x2 H8 x2a x2b R8 K8 => ?_⟩
            obtain ⟨e, rfl⟩ := Int.eq_ofNat_of_zero_le x2a
            have eD8 := K8 _ _ nD.symm eD7
            obtain ⟨lr7, er7⟩ := R7.lst
            have S8 := S7.keep K8 er7 nl.symm
            walk_at "go"
            have le : e < hs.length := by rw [hl, nat]; omega
            have li : i < hs.length := by rw [hl, nat]; omega
            refine k_ixL (SqL.of eD8) (v := .int (hs[e]'le)) (at_of (j := e) rfl (by rw [List.getElem?_map, List.getElem?_eq_getElem le]; rfl)) ?_
            walk_at "go"
            refine k_ixL (SqL.of eD8) (v := .int (hs[i]'li)) (at_of (j := i) (by omega) (by rw [List.getElem?_map, List.getElem?_eq_getElem li]; rfl)) ?_
            have be := hb _ (List.getElem_mem le)
            have bi := hb _ (List.getElem_mem li)
            generalize hs[e]'le = he at be ⊢
            generalize hs[i]'li = hi' at bi ⊢
            walk_at "go"
            have K68 := (K6.trans K7).trans K8
            refine k_cut (fun σ' H' => ∃ g, -(2 * sz) ≤ g ∧ g ≤ 2 * sz ∧ Keep a H H' ∧ RowOk K H' a ∧ H' D = some (.lst (hs.map V.int)) ∧ Sofar K H' l (y + 1) sz i j ss ∧
              σ' = [some (.ref a), some (.int (st : Nat)), some (.int sz), some (.int ((y + 1 : Nat) : Int)), some (.int kind), some (.ref D), some (.ref l), some (.str LT), some (.int (0 + (i : Nat))), some (.str ⟨#[97 + j]⟩), some (.int (e : Nat)), some (.int g), none, none]) ?_ ?_
            · have old : ∀ H', Keep a H8 H' → RowOk K H' a → H' D = some (.lst (hs.map V.int)) ∧ Sofar K H' l (y + 1) sz i j ss := fun H' kk rr => by
                obtain ⟨lr8, er8⟩ := R8.lst
                exact ⟨kk _ _ nD.symm eD8, S8.keep kk er8 nl.symm⟩
              have draw : ∀ H9, Keep a H8 H9 → RowOk K H9 a → ∀ x H10, 0 ≤ x → x < 2 * sz + 1 → RowOk K H10 a → Keep a H9 H10 → -(2 * sz) ≤ x - sz ∧ x - sz ≤ 2 * sz ∧ Keep a H H10 ∧ RowOk K H10 a ∧ H10 D = some (.lst (hs.map V.int)) ∧ Sofar K H10 l (y + 1) sz i j ss := fun H9 k9 r9 x H10 x0 x1 r10 k10 => by
                have o := old H10 (k9.trans k10) r10
                exact ⟨by omega, by omega, (K68.trans k9).trans k10, r10, o.1, o.2⟩
              walk_at "go"
              refine k_ite (fun d1 => ?_) (fun d1 => ?_)
              · walk_at "go"
                refine ⟨a, 4, rfl, by omega, by decide, R8, fun x3 H9 _ _ R9 K9 => ?_⟩
                walk_at "go"
                refine k_ite (fun d2 => ?_) (fun d2 => ?_)
                · refine iteT ?_
                  walk_at "go"
                  refine k_I CM ?_
                  walk_at "go"
                  refine ⟨a, _, rfl, by omega, by omega, R9, fun x4 H10 x4a x4b R10 K10 => ?_⟩
                  walk_at "go"
                  obtain ⟨q1, q2, q3, q4, q5, q6⟩ := draw H9 K9 R9 x4 H10 x4a x4b R10 K10
                  exact ⟨_, q1, q2, q3, q4, q5, q6, rfl⟩
                · walk_at "go"
                  refine k_ite (fun d3 => ?_) (fun d3 => ?_)
                  · rw [d1] at d3; exact absurd d3 (by decide)
                  · walk_at "go"
                    exact ⟨_, by omega, by omega, K68.trans K9, R9, (old H9 K9 R9).1, (old H9 K9 R9).2, rfl⟩
              · refine iteF ?_
                walk_at "go"
                refine k_ite (fun d3 => ?_) (fun d3 => ?_)
                · walk_at "go"
                  refine k_I CM ?_
                  walk_at "go"
                  refine ⟨a, _, rfl, by omega, by omega, R8, fun x4 H10 x4a x4b R10 K10 => ?_⟩
                  walk_at "go"
                  obtain ⟨q1, q2, q3, q4, q5, q6⟩ := draw H8 (Keep.refl _ _) R8 x4 H10 x4a x4b R10 K10
                  exact ⟨_, q1, q2, q3, q4, q5, q6, rfl⟩
                · walk_at "go"
                  exact ⟨_, by omega, by omega, K68, R8, eD8, S8, rfl⟩
            · rintro σ' H9 ⟨g, g1, g2, K9, R9, eD9, S9, rfl⟩
              refine k_cut (fun σ' H' => ∃ g, -(2 * sz + 1) ≤ g ∧ g ≤ 2 * sz + 1 ∧ Keep a H H' ∧ RowOk K H' a ∧ H' D = some (.lst (hs.map V.int)) ∧ Sofar K H' l (y + 1) sz i j ss ∧
                σ' = [some (.ref a), some (.int (st : Nat)), some (.int sz), some (.int ((y + 1 : Nat) : Int)), some (.int kind), some (.ref D), some (.ref l), some (.str LT), some (.int (0 + (i : Nat))), some (.str ⟨#[97 + j]⟩), some (.int (e : Nat)), some (.int g), none, none]) ?_ ?_
              · walk_at "go"
                refine k_ite (fun d1 => ?_) (fun d1 => ?_)
                · walk_at "go"
                  refine ⟨a, 3, rfl, by omega, by decide, R9, fun x3 H10 _ _ R10 K10 => ?_⟩
                  obtain ⟨lr9, er9⟩ := R9.lst
                  have eD10 := K10 _ _ nD.symm eD9
                  have S10 := S9.keep K10 er9 nl.symm
                  walk_at "go"
                  refine k_ite (fun d2 => ?_) (fun d2 => ?_)
                  · walk_at "go"
                    exact ⟨_, by omega, by omega, K9.trans K10, R10, eD10, S10, rfl⟩
                  · walk_at "go"
                    exact ⟨_, by omega, by omega, K9.trans K10, R10, eD10, S10, rfl⟩
                · refine iteF ?_
                  walk_at "go"
                  exact ⟨_, by omega, by omega, K9, R9, eD9, S9, rfl⟩
              · rintro σ' H10 ⟨g, g1, g2, K10, R10, eD10, S10, rfl⟩
                walk_at "go"
                obtain ⟨vs10, el10, _⟩ := S10.at_
                refine ⟨.inl ⟨rfl, _, SqL.of el10⟩, ?_⟩
                walk_at "go"
                refine ⟨(by decide : 4 ≤ sizeLine), fun p hp => ?_⟩
                have z0 : (0 + (i : Nat) : Int) = ((i : Nat) : Int) := by omega
                rw [z0]
                walk_at "go"
                have npl : l ≠ p := ne_of_none el10 hp
                have npD : D ≠ p := ne_of_none eD10 hp
                have el11 : (upd H10 p (.tup [.int (i : Nat), .str ⟨#[97 + j]⟩, .int (e : Nat), .int g])) l = some (.lst vs10) := by rw [upd_ne npl]; exact el10
                have lv : vs10.length < sizeLine := by
                  obtain ⟨vs', e', q'⟩ := S10.at_
                  rw [el10] at e'
                  cases e'
                  have := S10.len
                  have : vs10.length < 100 := by rw [q'.1]; omega
                  exact Nat.lt_trans this (by decide)
                refine k_append el11 lv ?_
                walk_at "go"
                have S11 := S10.snoc hp (by omega) j4 (show e < y + 1 by omega) sz1 g1 g2 vs10 el10
                have R11 := R10.same (Same.new (o := .tup [.int (i : Nat), .str ⟨#[97 + j]⟩, .int (e : Nat), .int g]) hp)
                refine ⟨_, some (.str ⟨#[97 + j]⟩), some (.int (e : Nat)), some (.int g), (K10.trans (Keep.new hp)).mut hlH, R11.keep nl el11 Keep.at_, ?_, S11, ?_⟩
                · rw [upd_ne nDl, upd_ne npD]; exact eD10
                · rfl
          · walk_at "go"
            exact ⟨ss, _, _, _, K6.trans K7, R7, eD7, S7.more (Nat.le_succ _), rfl⟩
        · rintro σ H6 ⟨ss, s9, s10, s11, K6, R6, eD6, S6, rfl⟩
          refine ⟨ss, _, _, _, _, K6, R6, eD6, S6.line ?_, rfl⟩
          rw [hLT]
          simp
          omega
      · rintro σ H5 ⟨ss, s8, s9, s10, s11, K5, R5, eD5, S5, rfl⟩
        obtain ⟨vs, el5, q5⟩ := S5.at_
        walk_at "go"
        refine k_rg (by omega) (by omega) fun B hB => ?_
        have nB : a ≠ B := R5.ne hB
        have hB0 : H B = none := K5.free nB.symm hB
        have nlB : l ≠ B := ne_of_none el5 hB
        -- the ends
        refine lc_range (lo := 0) (n := (((y + 1 : Nat) : Int)).toNat) (fun i H' => Keep a H H' ∧ RowOk K H' a ∧ H' l = some (.lst vs) ∧ StpsAt K H' vs ss ∧ ∃ es : List Nat, H' B = some (.lst (nats es)) ∧ es.length ≤ i ∧ (∀ e ∈ es, e < i) ∧ es.Pairwise (· < ·))
          ⟨K5.trans (Keep.new hB), R5.same (Same.new hB), by rw [upd_ne nlB]; exact el5, (Tups.new hB).steps q5, [], upd_same, Nat.le_refl _, fun _ h => absurd h (by simp), .nil⟩ ?_ ?_
        · rintro i H6 hi ⟨K6, R6, el6, q6, es, eB, h1, h2, h3⟩
          obtain ⟨lr6, er6⟩ := R6.lst
          walk_at "go"
          refine ⟨rfl, ?_⟩
          walk_at "go"
          refine ⟨a, 2, rfl, by omega, by decide, R6, fun x H7 _ _ R7 K7 => ?_⟩
          have eB7 := K7 _ _ nB.symm eB
          have el7 := K7 _ _ nl.symm el6
          have q7 := (K7.tups er6).steps q6
          walk_at "go"
          refine k_ite (fun c => ?_) (fun c => ?_)
          · walk_at "go"
            have z0 : (0 + (i : Nat) : Int) = ((i : Nat) : Int) := by omega
            rw [z0]
            refine ⟨_, eB7, ?_, (K6.trans K7).mut hB0, R7.keep nB eB7 Keep.at_, by rw [upd_ne nlB]; exact el7, (Tups.lst eB7).steps q7, es ++ [i], ?_, ?_, ?_, ?_⟩
            · have : (nats es).length < 100 := by unfold nats; rw [List.length_map]; omega
              exact Nat.lt_trans this (by decide)
            · rw [upd_same]; unfold nats; rw [List.map_append]; rfl
            · rw [List.length_append]; simp; omega
            · intro e he
              rcases List.mem_append.mp he with he | he
              · have := h2 e he; omega
              · have : e = i := by simpa using he
                omega
            · refine List.pairwise_append.mpr ⟨h3, List.pairwise_singleton _ _, fun e he f hf => ?_⟩
              have : f = i := by simpa using hf
              have := h2 e he
              omega
          · exact ⟨K6.trans K7, R7, el7, q7, es, eB7, by omega, fun e he => by have := h2 e he; omega, h3⟩
        · rintro H6 ⟨K6, R6, el6, q6, es, eB, h1, h2, h3⟩
          walk_at "go"
          refine ⟨B, _, rfl, .inl ⟨SqL.of eB, fun u hu => ?_⟩⟩
          have nu : a ≠ u := R6.ne hu
          have K7 := K6.trans (Keep.new (o := .tup (nats es)) hu)
          have R7 := R6.same (Same.new (o := .tup (nats es)) hu)
          have el7 : (upd H6 u (.tup (nats es))) l = some (.lst vs) := by rw [upd_ne (ne_of_none el6 hu)]; exact el6
          have q7 := (Tups.new (o := .tup (nats es)) hu).steps q6
          walk_at "go"
          intro d hd
          have K8 := K7.trans (Keep.new (o := .dK []) hd)
          have R8 := R7.same (Same.new (o := .dK []) hd)
          have el8 : (upd (upd H6 u (.tup (nats es))) d (.dK [])) l = some (.lst vs) := by rw [upd_ne (ne_of_none el7 hd)]; exact el7
          have q8 := (Tups.new (o := .dK []) hd).steps q7
          have hd0 : H d = none := K7.free (R7.ne hd).symm hd
          walk_at "go"
          refine ⟨l, vs, rfl, .inl ⟨SqL.of el8, fun t ht => ?_⟩⟩
          walk_at "go"
          have ntd : d ≠ t := ne_of_none upd_same ht
          have e1 : (upd (upd (upd H6 u (.tup (nats es))) d (.dK [])) t (.tup vs)) d = some (.dK []) := by rw [upd_ne ntd, upd_same]
          refine ⟨e1, [(.inr "stands", .int ((y + 1 : Nat) : Int)), (.inr "steps", .ref t), (.inr "ends", .ref u)], rfl, (by decide : 3 ≤ 15), ?_⟩
          have em : mergeK [] [((.inr "stands" : Key), V.int ((y + 1 : Nat) : Int)), (.inr "steps", .ref t), (.inr "ends", .ref u)] = [(.inr "stands", .int ((y + 1 : Nat) : Int)), (.inr "steps", .ref t), (.inr "ends", .ref u)] := rfl
          rw [em]
          have t9 : Tups (upd (upd H6 u (.tup (nats es))) d (.dK [])) (upd (upd (upd H6 u (.tup (nats es))) d (.dK [])) t (.tup vs)) := Tups.new ht
          have nuD : u ≠ d := ne_of_none (upd_same (H := H6) (o := .tup (nats es))) hd
          have t10 : Tups (upd (upd (upd H6 u (.tup (nats es))) d (.dK [])) t (.tup vs)) (upd (upd (upd (upd H6 u (.tup (nats es))) d (.dK [])) t (.tup vs)) d (.dK [(.inr "stands", .int ((y + 1 : Nat) : Int)), (.inr "steps", .ref t), (.inr "ends", .ref u)])) :=
            ⟨fun b xs e => by rw [upd_ne (fun z => by rw [z, e1] at e; cases e)]; exact e, fun b o xs e => by rw [upd_ne (fun z => by rw [z, e1] at e; cases e)]; exact e⟩
          refine k d ⟨y + 1, ss, es⟩ _ ⟨by show 1 ≤ y + 1; omega, by show y + 1 ≤ 8; omega, S5.ok, S5.up, ?_, fun e he => ?_, h3, ?_⟩ (by show y + 1 ≤ st; omega) S5.gb ⟨t, u, upd_same, ⟨vs, t10.sq (SqT.of upd_same), (t10.steps (t9.steps q8))⟩, ?_⟩ ?_ ?_ hd0
          · have := S5.len
            show ss.length ≤ 32
            rw [nat] at this
            omega
          · have := h2 e he
            rw [nat] at this
            exact this
          · show es.length ≤ 8
            rw [nat] at h1
            omega
          · exact t10.sq (t9.sq ((Tups.new (o := .dK []) hd).sq (SqT.of upd_same)))
          · have R9 := R8.same (Same.new (o := .tup vs) ht)
            obtain ⟨sc, ns, i, z, r, e, q, rest⟩ := R9
            have nad : a ≠ d := R7.ne hd
            refine ⟨sc, ns, i, z, r, by rw [upd_ne nad]; exact e, ?_, rest⟩
            rcases q with ⟨o, q⟩ | q
            · exact .inl ⟨o, by rw [upd_ne (fun z => by rw [z, e1] at q; cases q)]; exact q⟩
            · exact .inr q
          · exact (K8.trans (Keep.new ht)).mut hd0
end
/-! ### name = {k: v for ..} -/
theorem sw_trueD {kx vx : Expr} {gs : List Comprehension} {scope : Scope} {pos py : Pos} {y : Str} {n : Nat} {env : Env} (hk : env.scope.kind = .function) (hy : env.scope.names.lookup y = some .local) (hl : (py.line == pos.line) = true)
    (ha : (scope.names.any fun (m, c) => m == y && (c == .local || c == .cell)) = false) : swapsWith (.DictComp kx vx gs scope pos) (some (.Name y py)) n env = pure true := by
  have k1 : env.kindOf y = some .local := hy
  have k2 : env.blockKind = .function := by
    unfold Env.blockKind
    rw [hk]
    rfl
  unfold swapsWith
  simp only [k1, k2, ha, Expr.pos, hl]
  rfl
section
variable {X : Cx}
theorem ps_setDc {i : Nat} {y : Str} {py : Pos} {kx vx tg it : Expr} {ifs : List Expr} {scope : Scope} {own : List (Str × Nat)} {pos sp : Pos} {wi : TI} {g : TG} {tt : TT} {tk tv : TE} (hc : X.calm = true) (hN : X.N.Nodup)
    (hy : X.N[i]? = some y) (hyl : X.env.scope.names.lookup y = some .local) (hsw : swapsWith (.DictComp kx vx [⟨tg, it, ifs, 0⟩] scope pos) (some (.Name y py)) sp.line X.env = pure true)
    (hi : PI X tg it wi) (ok : BlkOk X.N X.env.scope scope own)
    (hg : ∀ (s : Shared) (H : Hp) (C : Addr) (cl : List (Str × Addr)) (fp : List Addr), PG (X.blk s H scope (compEnvC scope cl C X.env) fp) tg g)
    (ht : ∀ (s : Shared) (H : Hp) (C : Addr) (cl : List (Str × Addr)) (fp : List Addr), PTs (X.blk s H scope (compEnvC scope cl C X.env) fp) ifs tt)
    (hk : ∀ (s : Shared) (H : Hp) (C : Addr) (cl : List (Str × Addr)) (fp : List Addr), PE (X.blk s H scope (compEnvC scope cl C X.env) fp) kx tk)
    (hv : ∀ (s : Shared) (H : Hp) (C : Addr) (cl : List (Str × Addr)) (fp : List Addr), PE (X.blk s H scope (compEnvC scope cl C X.env) fp) vx tv)
    (hs : ∀ x, foldedSetIterable it X.env x = pure x := by intro _; rfl) :
    PS X (.Assign [.Name y py] (.DictComp kx vx [⟨tg, it, ifs, 0⟩] scope pos) sp) (tAsg (tDc wi g tt tk tv (own.map (·.2))) (gName i)) := by
  constructor
  intro pins s σ H D I h
  rw [exec_Assign_Name_used _ _ _ _ hsw]
  refine wpAny_bind (wpAny_standAt (wpAny_bind ?_))
  show wpAny _ X.A (do let _ ← comprehension (.DictComp kx vx [⟨tg, it, ifs, 0⟩] scope pos) scope X.env (firstIterPos [⟨tg, it, ifs, 0⟩] pos) newDict false (eval it X.env) (some (assign (.Name y py) X.env))) _ _ s
  have h' : tDc wi g tt tk tv (own.map (·.2)) σ H (fun x H1 => gName i x σ H1 D.nx) := h
  refine wpAny_bind (thn (dc_core (Qf := fun _ s' => SP X pins D .next s') hc hN I hi ok hg ht hk hv hs h' ?_) fun _ s' hq => wpAny_pure (wpAny_pure hq))
  intro L C s' m H' I' q hn f
  show wpAny _ _ (assign (.Name y py) X.env (.ref L)) _ _ _
  refine wpAny_assign_Name (store_ok2 (v := V.ref L) I' hN hy (.inl hyl) rfl ?_ (.inr hyl))
  rintro s2 I2 ⟨a, sb, ha⟩
  obtain ⟨f0, f1, f2, f3, f4, f5⟩ := f
  have ne : C ≠ a := by
    rcases ha with z | z
    · rw [z]; exact f1
    · exact fun e => f4 y a z e.symm
  exact ⟨m, hn.sameBut sb ne, fun h3 sb3 => ⟨_, H', I2.turned (t' := s2.toks) (fun b o hb e => (sb3.2 b hb).trans e) f0 f1 f3 f4 f5, q⟩⟩
/-- over a list that stays -/
theorem dc_lst {K : PySem.W.Frag} {a : Addr} {xs : List V} {g : TG} {tt : TT} {tk tv : TE} {vs : List Nat} {σ : L2.St} {H1 : Hp} {D : Addr} {Qd : Hp → Prop} (Pv : Nat → Hp → Prop) (h0 : Pv 0 (upd H1 D (.dK [])))
    (hl : ∀ i H, i ≤ xs.length → Pv i H → SqL K H a xs)
    (hs : ∀ i x H, xs[i]? = some x → Pv i H → g x (wipe σ vs) H fun σ2 H2 => wipe σ2 vs = wipe σ vs ∧ tt σ2 H2 fun b H3 =>
      if b = true then tk σ2 H3 fun y H4 => tv σ2 H4 fun z H5 => ∃ kvs k, y = kV k ∧ H5 D = some (.dK kvs) ∧ kvs.length < sizeLine ∧ Pv (i + 1) (upd H5 D (.dK (putK kvs k z))) else Pv (i + 1) H3) (hd : ∀ H, Pv xs.length H → Qd H) :
    ∃ W : Nat → Nat → Hp → Prop, (∃ m, W 0 m (upd H1 D (.dK []))) ∧ ∀ i m H, W i m H → ((Itl K a).stop i H ∧ Qd H) ∨
      ((Itl K a).go i H ∧ ∃ Nx : Hp → Prop, (∀ H', Nx H' → ∃ m', m' < m ∧ W (i + 1) m' H') ∧ ∀ x H', (Itl K a).yld i H x H' → g x (wipe σ vs) H' fun σ2 H2 => wipe σ2 vs = wipe σ vs ∧ tt σ2 H2 fun b H3 =>
        if b = true then tk σ2 H3 fun y H4 => tv σ2 H4 fun z H5 => ∃ kvs k, y = kV k ∧ H5 D = some (.dK kvs) ∧ kvs.length < sizeLine ∧ Nx (upd H5 D (.dK (putK kvs k z))) else Nx H3) := by
  refine ⟨fun i m H => m + i = xs.length ∧ Pv i H, ⟨xs.length, by simp, h0⟩, fun i m H ⟨em, hP⟩ => ?_⟩
  have sq := hl i H (by omega) hP
  by_cases c : i < xs.length
  · refine .inr ⟨⟨xs, xs[i], sq, List.getElem?_eq_getElem c⟩, Pv (i + 1), fun H' z => ⟨m - 1, by omega, by omega, z⟩, ?_⟩
    rintro x H' ⟨rfl, hx⟩
    exact hs i x _ (hx xs sq) hP
  · have e : i = xs.length := by omega
    exact .inl ⟨⟨xs, sq, by omega⟩, hd H (e ▸ hP)⟩
end
/-! ### rows by their codes; what is best so far, by stand -/
abbrev Wd := List Nat
def sOf (w : Wd) : Str := ⟨w.toArray⟩
theorem sOf_snoc (w : Wd) (c : Nat) : sOf w ++ ⟨#[c]⟩ = sOf (w ++ [c]) := by
  show Str.mk (w.toArray ++ #[c]) = _
  rw [List.append_toArray]
  rfl
theorem sOf_len (w : Wd) : (sOf w).length = w.length := by
  show w.toArray.size = _
  simp
theorem sOf_cps (w : Wd) : (sOf w).cps.toList = w := rfl
theorem sOf_inj {v w : Wd} (h : sOf v = sOf w) : v = w := by
  have := congrArg (fun s => s.cps.toList) h
  exact this
abbrev RF := Nat → Option (Int × Wd)
def better (x : Int × Wd) : Option (Int × Wd) → Bool
  | none => true
  | some y => decide (y.1 < x.1) || (decide (x.1 = y.1) && decide (x.2 < y.2))
def RF.put (f : RF) (k : Nat) (x : Int × Wd) : RF := fun j => if j = k then some x else f j
def turnL (sg : Int) (f acc : RF) (s : Stp) : RF := match f s.b with
  | none => acc
  | some y => if better (y.1 + sg * s.g, y.2 ++ [s.c]) (acc s.e) = true then acc.put s.e (y.1 + sg * s.g, y.2 ++ [s.c]) else acc
def longer (sg : Int) (f : RF) (ss : List Stp) : RF := ss.foldl (turnL sg f) fun _ => none
/-! ### dicts from stands to tuples -/
def ent2 (x : Int × Wd) : List V := [.int x.1, .str (sOf x.2)]
def E2 (f : RF) : Nat → Option (List V) := fun n => (f n).map ent2
def KvOk (K : PySem.W.Frag) (H : Hp) (kvs : List (Key × V)) (e : Nat → Option (List V)) : Prop :=
  (∀ p ∈ kvs, ∃ n : Nat, p.1 = .inl (n : Int)) ∧ ∀ n : Nat, (e n = none → valV kvs (.inl (n : Int)) = none) ∧ ∀ l, e n = some l → ∃ p, valV kvs (.inl (n : Int)) = some (.ref p) ∧ SqT K H p l
section
variable {K : PySem.W.Frag} {H H' : Hp} {kvs : List (Key × V)} {e : Nat → Option (List V)}
theorem KvOk.tups (h : KvOk K H kvs e) (t : Tups H H') : KvOk K H' kvs e := ⟨h.1, fun n => ⟨(h.2 n).1, fun l el => let ⟨p, q, z⟩ := (h.2 n).2 l el; ⟨p, q, t.sq z⟩⟩⟩
theorem KvOk.nil : KvOk K H [] fun _ => none := ⟨fun _ h => absurd h (by simp), fun n => ⟨fun _ => rfl, fun l h => by cases h⟩⟩
theorem KvOk.put {n : Nat} {p : Addr} {l : List V} (h : KvOk K H kvs e) (hp : SqT K H p l) : KvOk K H (putK kvs (.inl (n : Int)) (.ref p)) fun j => if j = n then some l else e j := by
  refine ⟨fun q hq => ?_, fun j => ?_⟩
  · unfold putK at hq
    split at hq
    · obtain ⟨r, hr, rfl⟩ := List.mem_map.mp hq
      split
      · rename_i z; exact ⟨n, z⟩
      · exact h.1 r hr
    · rcases List.mem_append.mp hq with hq | hq
      · exact h.1 q hq
      · have : q = (.inl (n : Int), .ref p) := by simpa using hq
        exact ⟨n, by rw [this]⟩
  · rw [valV_put]
    by_cases c : j = n
    · have c' : (Sum.inl (j : Int) : Key) = .inl (n : Int) := by rw [c]
      simp only [if_pos c, if_pos c']
      refine ⟨fun z => (by cases z), fun l' el => ?_⟩
      cases el
      exact ⟨p, rfl, hp⟩
    · have c' : ¬ (Sum.inl (j : Int) : Key) = .inl (n : Int) := fun z => c (by injection z with z; omega)
      simp only [if_neg c, if_neg c']
      exact h.2 j
theorem KvOk.congr {e' : Nat → Option (List V)} (h : KvOk K H kvs e) (q : ∀ n, e n = e' n) : KvOk K H kvs e' := (funext q : e = e') ▸ h
end
theorem E2_put (f : RF) (k : Nat) (x : Int × Wd) (n : Nat) : (if n = k then some (ent2 x) else E2 f n) = E2 (f.put k x) n := by
  unfold E2 RF.put
  by_cases c : n = k
  · rw [if_pos c, if_pos c]; rfl
  · rw [if_neg c, if_neg c]
theorem Same.mut {p : Addr} {H H' : Hp} {o : HO} (x : Same H H') (hp : H p = none) : Same H (upd H' p o) := fun b u h => by rw [upd_ne (ne_of_none h hp)]; exact x b u h
theorem Tups.dk {p : Addr} {H : Hp} {kvs : List (Key × V)} {o : HO} (h : H p = some (.dK kvs)) : Tups H (upd H p o) :=
  ⟨fun b xs e => by rw [upd_ne (fun z => by rw [z, h] at e; cases e)]; exact e, fun b _ xs e => by rw [upd_ne (fun z => by rw [z, h] at e; cases e)]; exact e⟩
theorem Tups.dT {p : Addr} {H : Hp} {kvs : List (List Key × V)} {o : HO} (h : H p = some (.dT kvs)) : Tups H (upd H p o) :=
  ⟨fun b xs e => by rw [upd_ne (fun z => by rw [z, h] at e; cases e)]; exact e, fun b _ xs e => by rw [upd_ne (fun z => by rw [z, h] at e; cases e)]; exact e⟩
theorem take_fold {α β : Type} (f : β → α → β) (z : β) {l : List α} {i : Nat} {x : α} (h : l[i]? = some x) : (l.take (i + 1)).foldl f z = f ((l.take i).foldl f z) x := by
  rw [List.take_add_one, h, List.foldl_append]
  rfl
/-! ### tuples sliced and joined, the whole one among them -/
theorem k_slT {K : PySem.W.Frag} {H : Hp} {Q : VK} {a : Addr} {xs : List V} {lo hi : Option Int} (h : SqT K H a xs) (q : ∀ r H', Same H H' → SqT K H' r (cutV xs lo hi) → Q (.ref r) H') : rSlA K (.ref a) lo hi H Q := by
  refine ⟨a, xs, rfl, h, fun e => q a H (Same.refl _) ?_, fun _ p hp => q p _ (Same.new hp) (SqT.of upd_same)⟩
  have : cutV xs lo hi = xs := by
    unfold cutV
    rw [e.1, e.2, List.drop_zero, Nat.sub_zero, List.take_length]
  rw [this]
  exact h
theorem k_catT {K : PySem.W.Frag} {H : Hp} {Q : VK} {a b : Addr} {xs ys : List V} (ha : SqT K H a xs) (hb : SqT K H b ys) (l : xs.length + ys.length ≤ sizeLine) (q : ∀ r H', Same H H' → SqT K H' r (xs ++ ys) → Q (.ref r) H') : rCatA K (.ref a) (.ref b) H Q := by
  refine ⟨a, b, xs, ys, rfl, rfl, ha, hb, l, fun e => q b H (Same.refl _) (by rw [e]; exact hb), fun _ e => q a H (Same.refl _) (by rw [e, List.append_nil]; exact ha), fun _ _ p hp => q p _ (Same.new hp) (SqT.of upd_same)⟩
theorem cutV_drop (xs : List V) (k : Nat) : cutV xs (some ((k : Nat) : Int)) none = xs.drop k := by
  unfold cutV
  rw [HT.sIx_none, HT.sIx_nat]
  rcases Nat.le_total k xs.length with h | h
  · rw [Nat.min_eq_left h, List.take_of_length_le (by rw [List.length_drop]; exact Nat.le_refl _)]
  · rw [Nat.min_eq_right h, Nat.sub_self, List.take_zero, List.drop_eq_nil_of_le h]
theorem cutV_take (xs : List V) (k : Nat) : cutV xs none (some ((k : Nat) : Int)) = xs.take k := by
  unfold cutV
  rw [HT.sIx_none, HT.sIx_nat, List.drop_zero, Nat.sub_zero]
  rcases Nat.le_total k xs.length with h | h
  · rw [Nat.min_eq_left h]
  · rw [Nat.min_eq_right h, List.take_length, List.take_of_length_le h]
/-! ### words cut -/
theorem cutS_take (w : Wd) (k : Nat) : cutS (sOf w) none (some ((k : Nat) : Int)) = sOf (w.take k) := by
  unfold cutS
  rw [HT.sIx_none, HT.sIx_nat, sOf_len, Nat.sub_zero]
  show Str.mk (((w.drop 0).take (min k w.length)).toArray) = _
  rw [List.drop_zero]
  rcases Nat.le_total k w.length with h | h
  · rw [Nat.min_eq_left h]; rfl
  · rw [Nat.min_eq_right h, List.take_length, List.take_of_length_le h]; rfl
theorem cutS_drop (w : Wd) (k : Nat) : cutS (sOf w) (some ((k : Nat) : Int)) none = sOf (w.drop k) := by
  unfold cutS
  rw [HT.sIx_none, HT.sIx_nat, sOf_len]
  show Str.mk (((w.drop (min k w.length)).take (w.length - min k w.length)).toArray) = _
  rcases Nat.le_total k w.length with h | h
  · rw [Nat.min_eq_left h, List.take_of_length_le (by rw [List.length_drop]; exact Nat.le_refl _)]; rfl
  · rw [Nat.min_eq_right h, Nat.sub_self, List.take_zero, List.drop_eq_nil_of_le h]; rfl
theorem sOf_app (v w : Wd) : sOf v ++ sOf w = sOf (v ++ w) := by
  show Str.mk (v.toArray ++ w.toArray) = _
  rw [List.append_toArray]
  rfl
/-! ### methods that may raise; len of an own object -/
def tMethX (C : Addr) (m : Str) (sp : Sp) (E : L2.St → XK) (ta : TE) (t : TA) : TE := fun σ H Q => ta σ H fun x H1 => ∃ a dx fs, x = .ref a ∧ H1 a = some (.ins C dx fs) ∧ fs.lookup m = none ∧ t σ H1 fun vs H2 => sp (x :: vs) H2 Q (E σ)
theorem k_methX {C : Addr} {m : Str} {sp : Sp} {E : L2.St → XK} {ta : TE} {t : TA} {σ : L2.St} {H : Hp} {Q : VK} (h : ta σ H fun x H1 => ∃ a dx fs, x = .ref a ∧ H1 a = some (.ins C dx fs) ∧ fs.lookup m = none ∧ t σ H1 fun vs H2 => sp (x :: vs) H2 Q (E σ)) : tMethX C m sp E ta t σ H Q := h
theorem k_meth {C : Addr} {m : Str} {sp : Sp} {dvs : List V} {E : XK} {ta : TE} {t : TA} {σ : L2.St} {H : Hp} {Q : VK} (h : ta σ H fun x H1 => ∃ a dx fs, x = .ref a ∧ H1 a = some (.ins C dx fs) ∧ fs.lookup m = none ∧ t σ H1 fun vs H2 => sp (x :: (vs ++ dvs)) H2 Q E) : tMeth C m sp dvs E ta t σ H Q := h
section
open PySem.Spec PyProof.Rows
theorem pe_methX {X : Cx} {CX : CXT} {k : Nat} {C f : Addr} {fd : FuncData} {ps : List Str} {m : Str} {sp : Sp} {E : L2.St → XK} {o e : Expr} {es : List Expr} {ta : TE} {t : TA} {apos pos : Pos} {pl : Sem Bool} (he : PE X o ta) (c : Cls X.K C) (hm : Meth X.K C m f)
    (F : FnOk X.prog X.w X.K X.mg X.base CX k f fd ps sp) (hr : Room k X.A) (hb : Binds X.K fd ps []) (hx : ∀ σ, PassesAt CX X σ (E σ)) (ha : PA X (e :: es) t)
    (hst : starEach (e :: es) X.env = (false, eval e X.env) :: starEach es X.env := by rfl) (hpl : (backTo pos (starEach es X.env)).any (·.1) = false := by rfl)
    (ht : eval (.Call (.Attribute o m apos) (e :: es) [] pos) X.env = (do
      let ov ← eval o X.env
      standAt apos.atName
      let (f, first) ← holding [ov] (getMethod ov m pl)
      callWith pos f first (backTo pos (starEach (e :: es) X.env)) (backToKw pos (keywordEach [] X.env))) := by rfl) :
    PE X (.Call (.Attribute o m apos) (e :: es) [] pos) (tMethX C m sp E ta t) := by
  refine ⟨fun pins s σ H Q I h => ?_⟩
  refine PySem.W.methodCall_KW (pl := pl) (thn (he.run pins s σ H _ I h) fun u s1 ⟨x, H1, I1, rx, a, dx, fs, ex, ea, l, q⟩ => ?_) ht
  subst ex
  obtain rfl : u = Value.ref a := rx
  refine getmeth_ok I1 ea c hm l ?_
  refine PySem.W.callWith_K (first := [.ref a]) (h₀ := X.base) I.ok.mod.kin hm.kp (thn (ha.run pos pins s1 σ H1 _ I1 q) fun us s2 ⟨vs, H2, I2, r, q2⟩ => ⟨I2.kIn, ?_⟩) hst hpl
  exact run_fnS (us := .ref a :: us) (vs := .ref a :: vs) F hr hb (hx σ) I2 (.cons rfl r) q2
/-- len(o), o of an own class with a __len__ that raises nothing -/
def rLenO (C : Addr) (sp : Sp) : List V → Hp → VK → Prop := fun xs H Q => ∃ (a dx : Addr) (fs : List (Str × V)), xs = [.ref a] ∧ H a = some (.ins C dx fs) ∧ sp [.ref a] H (fun v H' => ∃ n : Int, v = .int n ∧ 0 ≤ n ∧ n < 2 ^ 62 ∧ Q (.int n) H') E0
theorem call_lenO {X : Cx} {C f : Addr} {fd : FuncData} {ps : List Str} {sp : Sp} {n : Nat} (F : FnOk X.prog X.w X.K X.mg X.base (L2.CX X.prog X.w) n f fd ps sp) (hr : Room (n + 1) X.A) (hm : Meth X.K C "__len__" f) (hb : Binds X.K fd ps []) :
    CallR X (.builtin "len") (rLenO C sp) := by
  intro pins s σ H xs us Q I r h
  obtain ⟨a, dx, fs, rfl, ha, hsp⟩ := h
  obtain ⟨u, rfl, r1⟩ := vals1 r
  obtain rfl : u = Value.ref a := r1
  obtain ⟨mA, J, _⟩ := ins_get I.hok ha
  obtain ⟨od, J, _⟩ := J.look
  obtain ⟨m, hF⟩ := I.fr
  refine PySem.W.len_K hF I.ok.mod.kin J hm.at_ hm.fn ?_
  have r2 : Vals [V.ref a] [Value.ref a] := .cons rfl .nil
  have hl := F.len _ _ _ _ hsp
  have e0 : Env0 X.prog X.w X.K X.mg X.base X.A.in1 X.stack s H := by
    have e := I.env0
    exact ⟨e.frames, e.mod, e.bs, e.bsz, e.funs, e.frf, e.hok, e.bare⟩
  refine wpAny_call (codeAny_mono (F.run X.A.in1 X.stack s H ⟨[.ref a], []⟩ [.ref a] [.ref a] _ E0 hr.in1 e0 (by
    have := hb s [.ref a] I.kIn (by simpa using hl)
    simpa using this) r2 hsp) fun r s' hq => ?_)
  cases r with
  | error e => exact passL pins σ H s e s' I hq
  | ok fl =>
    cases fl with
    | ret w =>
      obtain ⟨z, H', I', rz, ⟨n, ez, n0, n1, q⟩⟩ := I.after hq
      subst ez
      obtain ⟨t, rfl⟩ := (show ∃ t, w = Value.int n t from rz)
      exact ⟨⟨n0, by omega⟩, ⟨.int n, H', I'.tok _, ⟨_, rfl⟩, q⟩⟩
    | next => exact False.elim hq
    | brk => exact False.elim hq
    | cont => exact False.elim hq
end
/-! ### a method with no argument that may raise -/
section
open PySem.Spec PyProof.Rows
theorem pe_methX0 {X : Cx} {CX : CXT} {k : Nat} {C f : Addr} {fd : FuncData} {ps : List Str} {m : Str} {sp : Sp} {E : L2.St → XK} {o : Expr} {ta : TE} {apos pos : Pos} {pl : Sem Bool} (he : PE X o ta) (c : Cls X.K C) (hm : Meth X.K C m f)
    (F : FnOk X.prog X.w X.K X.mg X.base CX k f fd ps sp) (hr : Room k X.A) (hb : Binds X.K fd ps []) (hx : ∀ σ, PassesAt CX X σ (E σ))
    (ht : eval (.Call (.Attribute o m apos) [] [] pos) X.env = (do
      let ov ← eval o X.env
      standAt apos.atName
      let (f, first) ← holding [ov] (getMethod ov m pl)
      callWith pos f first (backTo pos (starEach [] X.env)) (backToKw pos (keywordEach [] X.env))) := by rfl) :
    PE X (.Call (.Attribute o m apos) [] [] pos) (tMethX C m sp E ta tNil) := by
  refine ⟨fun pins s σ H Q I h => ?_⟩
  refine PySem.W.methodCall_KW (pl := pl) (thn (he.run pins s σ H _ I h) fun u s1 ⟨x, H1, I1, rx, a, dx, fs, ex, ea, l, q⟩ => ?_) ht
  subst ex
  obtain rfl : u = Value.ref a := rx
  refine getmeth_ok I1 ea c hm l ?_
  exact PySem.W.callWith_K0 (first := [.ref a]) I1.kIn hm.kp (run_fnS (us := [.ref a]) (vs := [.ref a]) F hr hb (hx σ) I1 (.cons rfl .nil) q)
end
/-! ### texts of letters -/
def rAddS : V → V → Hp → VK → Prop := fun x y H Q => ∃ i j, x = .str i ∧ y = .str j ∧ i.length + j.length ≤ sizeLine ∧ Q (.str (i ++ j)) H
theorem in_addS {X : Cx} : InOp X .Add rAddS := fun pins s σ H x y u v Q I rx ry h => iop_add_str pins s σ H x y u v Q I rx ry h

theorem cutS_last {w : Wd} (h : w ≠ []) : cutS (sOf w) none (some (-1)) = sOf w.dropLast := by
  have : 0 < w.length := List.length_pos_iff.mpr h
  unfold cutS
  rw [HT.sIx_none, sOf_len, Nat.sub_zero]
  have e : HT.sIx w.length w.length (some (-1)) = w.length - 1 := by
    show (if (-1 : Int) < 0 then ((-1 : Int) + (w.length : Int)).toNat else min (-1 : Int).toNat w.length) = w.length - 1
    rw [if_pos (by decide)]
    omega
  rw [e, List.dropLast_eq_take]
  rfl
theorem cutS_last0 : cutS (sOf []) none (some (-1)) = sOf [] := by decide
theorem cutS_lastA (w : Wd) : cutS (sOf w) none (some (-1)) = sOf w.dropLast := by
  cases w with
  | nil => exact cutS_last0
  | cons c w => exact cutS_last (by simp)
theorem sOf_empty {w : Wd} : decide (V.str (sOf w) = V.str "") = decide (w = []) := by
  by_cases h : w = []
  · subst h; rfl
  · rw [decide_eq_false h, decide_eq_false]
    intro e
    injection e with e
    exact h (sOf_inj (w := []) e)
theorem sOf_inj' {z : Str} {w : Wd} (h : z.cps.toList = w) : z = sOf w := by
  subst h
  rfl
theorem joinL_lets : ∀ l : List Nat, TL.joinL [] (l.map fun c => [c]) = l
  | [] => rfl
  | [_] => rfl
  | a :: b :: l => by
    show [a] ++ ([] ++ TL.joinL [] ((b :: l).map fun c => [c])) = _
    rw [joinL_lets (b :: l)]
    rfl
theorem join_lets (l : List Nat) : Txt.join "" (l.map fun c => (⟨#[c]⟩ : Str)) = sOf l := by
  rw [TL.join_eq]
  have e : (Str.join "" (l.map fun c => (⟨#[c]⟩ : Str))).cps.toList = l := by
    have := TL.tl_join "" (l.map fun c => (⟨#[c]⟩ : Str))
    rw [List.map_map] at this
    exact this.trans (joinL_lets l)
  exact sOf_inj' e
theorem lets_sum : ∀ l : List Nat, ((l.map fun c => (⟨#[c]⟩ : Str)).map (·.length)).sum = l.length
  | [] => rfl
  | a :: l => by
    show 1 + ((l.map fun c => (⟨#[c]⟩ : Str)).map (·.length)).sum = l.length + 1
    rw [lets_sum l]
    omega
/-! ### InvalidText: two fields -/
def sp_einit2 (K : PySem.W.Frag) (C : Addr) : Sp := fun vs H Q _ => ∃ (a : Addr) (i j : Int), vs = [.ref a, .int i, .int j] ∧ 0 ≤ i ∧ i < 10 ^ 10 ∧ 0 ≤ j ∧ j < 10 ^ 10 ∧ H a = some (exo a C none) ∧
  ∀ dx, H dx = none → dx ≠ a → Q .non (upd (upd (upd H dx (exd dx [("line", .int i)])) a (exo a C (some dx))) dx (exd dx [("word", .int j), ("line", .int i)]))
theorem exc_same2 {H : Hp} {a d C : Addr} {fs : List (Str × V)} {o o2 : HO} (ha : H a = none) (hd : H d = none) : Same H (upd (del (upd (upd (upd (upd H a (exo a C none)) d o) a (exo a C (some d))) d o2) a) d (.xd fs)) := fun b ob e => by
  have n1 : b ≠ a := ne_of_none e ha
  have n2 : b ≠ d := ne_of_none e hd
  rw [upd_ne n2]
  unfold del
  rw [if_neg n1, upd_ne n2, upd_ne n1, upd_ne n2, upd_ne n1]
  exact e
theorem log_small {i : Int} (i0 : 0 ≤ i) (i1 : i < 10 ^ 10) : i.natAbs.log2 < 1920 := by
  have h1 : i.natAbs < 2 ^ 34 := by omega
  have h2 := Nat.log2_lt (n := i.natAbs) (k := 34)
  by_cases c : i.natAbs = 0
  · rw [c]; decide
  · exact Nat.lt_trans ((h2 c).mpr h1) (by decide)
section
variable {P : Program} {w : World} {K : PySem.W.Frag} {mg : Str → Option Value} {base : Heap}
theorem ok_InvalidText_init (T : Txt K mg) : FnOk P w K mg base (L2.CX P w) 1 T.a_InvalidText_init T.fd_InvalidText_init ["self", "line", "word"] (sp_einit2 K T.c_InvalidText) := by
  refine T.F_InvalidText_init.okX sc_InvalidText_init (fun vs H Q E h => ?_) (fun cdv A outer s H vs Q E hr h => ?_)
  · obtain ⟨a, i, j, rfl, _⟩ := h
    rfl
  · obtain ⟨a, i, j, rfl, i0, i1, j0, j1, ea, k⟩ := h
    refine ⟨_, (PSs.nox (pss_cons (ps_expr (pe_tveinit (by rfl) T.m_TallyError T.rd_TallyError T.fv_TallyError T.sg_TallyError (pa_cons (pv 0) (pa_cons (pe_joined (.cons pe_str (.cons (pe_fmtN (pv 1)) (.cons pe_str (.cons (pe_fmtN (pv 2)) .nil))))) pa_nil))))
  (pss_cons (ps_ost (pv 0) (pv 1))
  (pss_one (ps_ost (pv 0) (pv 2)))))), ?_⟩
    walk_at "begin"
    walk_at "go"
    refine k_vei ?_
    walk_at "go"
    have l0 : (Str.empty ++ (Str.ofString "line ")).length = 5 := by decide +kernel
    have ti := PyProof.Rows.toString_length_le (k := 10) i0 (by decide) i1
    have tj := PyProof.Rows.toString_length_le (k := 10) j0 (by decide) j1
    refine ⟨_, rfl, by rw [l0]; decide, ?_⟩
    show tFmtN _ _ _ _
    refine k_fmtN ?_
    walk_at "go"
    refine .inr ⟨i, rfl, log_small i0 i1, _, rfl, ?_, ?_⟩
    · rw [strLen_append, l0]
      exact Nat.le_trans (Nat.add_le_add_left ti 5) (by decide)
    simp only [tJs]
    walk_at "go"
    have l2 : (Str.ofString ", word ").length = 7 := by decide +kernel
    have li : (Str.ofString (toString i)).length ≤ 10 := ti
    have lj : (Str.ofString (toString j)).length ≤ 10 := tj
    refine ⟨_, rfl, ?_, ?_⟩
    · rw [strLen_append, strLen_append, l0, l2]
      exact Nat.le_trans (show 5 + (Str.ofString (toString i)).length + 7 ≤ 100 by omega) (by decide)
    refine k_fmtN ?_
    walk_at "go"
    refine .inr ⟨j, rfl, log_small j0 j1, _, rfl, ?_, ?_⟩
    · rw [strLen_append, strLen_append, strLen_append, l0, l2]
      exact Nat.le_trans (show 5 + (Str.ofString (toString i)).length + 7 + (Str.ofString (toString j)).length ≤ 100 by omega) (by decide)
    walk_at "go"
    refine ⟨a, T.c_InvalidText, _, rfl, by show 1 ≤ 1000; decide, T.o_InvalidText, ea, ?_⟩
    refine k_seq ?_
    refine k_ost ?_
    walk_at "go"
    refine ⟨a, T.c_InvalidText, rfl, T.o_InvalidText, T.no_InvalidText_line, .inl ⟨ea, fun dx hd ne => ?_⟩⟩
    dsimp only
    refine k_ost ?_
    walk_at "go"
    refine ⟨a, T.c_InvalidText, rfl, T.o_InvalidText, T.no_InvalidText_word, .inr ⟨dx, [("line", .int i)], upd_same, by rw [upd_ne ne]; exact upd_same, by show 1 ≤ 900; decide, ?_⟩⟩
    exact k dx hd ne
end
/-! ### numbers as words -/
def numW : Int → Wd
  | .ofNat n => TL.numL n
  | .negSucc n => 45 :: TL.numL (n + 1)
theorem num_text (i : Int) : Str.ofString (toString i) = sOf (numW i) := by
  cases i with
  | ofNat n => exact sOf_inj' (TL.tl_num n)
  | negSucc n =>
    refine sOf_inj' ?_
    rw [PyProof.Rows.signs_ofString]
    show ("-" ++ Nat.repr (n + 1)).toList.map Char.toNat = 45 :: TL.numL (n + 1)
    rw [String.toList_append, List.map_append, Nat.toList_repr]
    rfl
theorem numW_chars (i : Int) : ∀ c ∈ numW i, c = 45 ∨ (48 ≤ c ∧ c ≤ 57) := by
  cases i with
  | ofNat n => exact fun c hc => .inr (TL.numL_digits n c hc)
  | negSucc n =>
    intro c hc
    rcases List.mem_cons.mp hc with e | hc
    · exact .inl e
    · exact .inr (TL.numL_digits (n + 1) c hc)
theorem numW_ne (i : Int) : numW i ≠ [] := by
  cases i with
  | ofNat n => exact TL.numL_ne n
  | negSucc n => exact List.cons_ne_nil _ _
theorem numW_inj {i j : Int} (h : numW i = numW j) : i = j := by
  cases i with
  | ofNat n =>
    cases j with
    | ofNat m => exact congrArg Int.ofNat (TL.numL_inj h)
    | negSucc m =>
      have h1 : 45 ∈ TL.numL n := by
        rw [show TL.numL n = 45 :: TL.numL (m + 1) from h]
        exact List.mem_cons_self
      exact absurd (TL.numL_digits n 45 h1).1 (by decide)
  | negSucc n =>
    cases j with
    | ofNat m =>
      have h1 : 45 ∈ TL.numL m := by
        rw [← show 45 :: TL.numL (n + 1) = TL.numL m from h]
        exact List.mem_cons_self
      exact absurd (TL.numL_digits m 45 h1).1 (by decide)
    | negSucc m =>
      have h2 : 45 :: TL.numL (n + 1) = 45 :: TL.numL (m + 1) := h
      injection h2 with _ h2
      have := TL.numL_inj h2
      congr 1
      omega
/-- what is left without the sign -/
def digW (i : Int) : Wd := TL.numL i.natAbs
theorem pre_num (i : Int) : Txt.removeprefix (sOf (numW i)) "-" = sOf (digW i) := by
  rw [PySem.StrLaws.removeprefix_eq, PySem.StrLaws.subAt_eq]
  have l1 : (Str.ofString "-").length = 1 := by decide
  have c1 : (Str.ofString "-").cps.toList = [45] := by decide
  rw [l1, c1, sOf_len, show (sOf (numW i)).cps.toList = numW i from rfl, List.drop_zero]
  cases i with
  | ofNat n =>
    show (if (_ && ((TL.numL n).take 1 == [45])) = true then _ else sOf (TL.numL n)) = sOf (TL.numL n)
    rw [if_neg]
    intro h
    rw [Bool.and_eq_true] at h
    have h2 := eq_of_beq h.2
    have h3 : 45 ∈ (TL.numL n).take 1 := by rw [h2]; exact List.mem_singleton.mpr rfl
    exact absurd (TL.numL_digits n 45 (List.mem_of_mem_take h3)).1 (by decide)
  | negSucc n =>
    show (if (decide (0 + 1 ≤ (45 :: TL.numL (n + 1)).length) && ([45] == [45])) = true then (⟨(((TL.numL (n + 1))).take ((45 :: TL.numL (n + 1)).length - 1)).toArray⟩ : Str) else _) = sOf (TL.numL (n + 1))
    rw [if_pos (by rw [decide_eq_true (by rw [List.length_cons]; omega)]; rfl), List.length_cons, Nat.add_sub_cancel, List.take_length]
    rfl
theorem digits_ascii (n : Nat) : Txt.isascii (sOf (TL.numL n)) = true := by
  unfold Txt.isascii
  show (TL.numL n).toArray.all (· < 128) = true
  rw [List.all_toArray, List.all_eq_true]
  intro c hc
  have := TL.numL_digits n c hc
  exact decide_eq_true (by omega)
theorem digits_digit (n : Nat) : Txt.isdigit (sOf (TL.numL n)) = true := by
  unfold Txt.isdigit
  rw [Bool.and_eq_true]
  constructor
  · rw [sOf_len]
    exact decide_eq_true (List.length_pos_iff.mpr (TL.numL_ne n))
  show (TL.numL n).toArray.all Unicode.isDigit = true
  rw [List.all_toArray, List.all_eq_true]
  intro c hc
  have := TL.numL_digits n c hc
  rw [PyProof.Rows.cls_isdigit c (by omega)]
  have z : ∀ c, c < 58 → 48 ≤ c → PyProof.Rows.inR 48 57 ⟨#[c]⟩ = true := by decide
  exact z c (by omega) (by omega)
theorem num_int {i : Int} (h : (numW i).length ≤ 600) : PySem.intText? (sOf (numW i)) = some i := by
  cases i with
  | ofNat n =>
    have e := PySem.intText_digits (x := sOf (TL.numL n)) (TL.numL_digits n) (TL.numL_ne n) (by rw [sOf_len]; exact Nat.le_trans h (by decide))
    rw [show (sOf (TL.numL n)).cps.toList = TL.numL n from rfl, TL.numL_val] at e
    exact e
  | negSucc n =>
    have e := PySem.intText_neg (x := sOf (45 :: TL.numL (n + 1))) rfl (TL.numL_digits (n + 1)) (TL.numL_ne (n + 1)) (by rw [sOf_len]; exact Nat.le_trans h (by decide))
    rw [TL.numL_val] at e
    exact e
theorem digW_len {i : Int} (h : i.natAbs ≤ 10 ^ 30) : (digW i).length ≤ 31 := TL.numL_len (by decide) (Nat.lt_of_le_of_lt h (by decide))
theorem numW_len {i : Int} (h : i.natAbs ≤ 10 ^ 30) : (numW i).length ≤ 32 := by
  cases i with
  | ofNat n =>
    have : (TL.numL n).length ≤ 31 := digW_len (i := Int.ofNat n) h
    show (TL.numL n).length ≤ 32
    omega
  | negSucc n =>
    have : (TL.numL (n + 1)).length ≤ 31 := digW_len (i := Int.negSucc n) h
    show (TL.numL (n + 1)).length + 1 ≤ 32
    omega
theorem big_len : (numW (10 ^ 30)).length = 31 := by decide +kernel
theorem dig_one {i : Int} (h0 : 0 ≤ i) (h : i < 10) : (digW i).length = 1 := by
  unfold digW
  rw [TL.numL_lt (by omega)]
  rfl
theorem num_pos (i : Int) : 0 < (numW i).length := List.length_pos_iff.mpr (numW_ne i)
theorem num_log {i : Int} (h : i.natAbs ≤ 10 ^ 30) : i.natAbs.log2 < 1920 := by
  have h1 : i.natAbs < 2 ^ 110 := Nat.lt_of_le_of_lt h (by decide)
  have h2 := Nat.log2_lt (n := i.natAbs) (k := 110)
  by_cases c : i.natAbs = 0
  · rw [c]; decide
  · exact Nat.lt_trans ((h2 c).mpr h1) (by decide)
/-! ### words of a line -/
/-- a word: no space, no newline, not empty -/
def WordOk (w : Wd) : Prop := w ≠ [] ∧ 32 ∉ w ∧ 10 ∉ w
theorem num_word (i : Int) : WordOk (numW i) := ⟨numW_ne i, fun h => by rcases numW_chars i 32 h with h | h <;> omega, fun h => by rcases numW_chars i 10 h with h | h <;> omega⟩
def spW (n : Nat) : Wd := List.replicate n 32
/-- the words with some spaces behind each, a space between two -/
def wideL : List (Wd × Nat) → Wd
  | [] => []
  | [p] => p.1 ++ spW p.2
  | p :: q :: r => p.1 ++ spW p.2 ++ ([32] ++ wideL (q :: r))
/-- what a split leaves that is no empty text -/
def wordsL (l : Wd) : List Wd := (TL.spl [32] 0 [] l).filter fun w => !w.isEmpty
theorem words_sp (l : Wd) : wordsL (32 :: l) = wordsL l := by
  unfold wordsL
  have := TL.spl_part1 (s := 32) (S := []) (p := []) (rest := l) (acc := []) (by simp)
  rw [show (32 :: l) = [] ++ ([32] ++ l) by rfl, this]
  rfl
theorem words_sps (l : Wd) : ∀ n, wordsL (spW n ++ l) = wordsL l
  | 0 => rfl
  | n + 1 => by
    rw [show spW (n + 1) ++ l = 32 :: (spW n ++ l) from rfl, words_sp, words_sps l n]
theorem words_nil : wordsL [] = [] := rfl
theorem words_spaces (n : Nat) : wordsL (spW n) = [] := by
  have := words_sps [] n
  rw [List.append_nil] at this
  exact this
theorem words_one {w : Wd} (h : WordOk w) : wordsL w = [w] := by
  unfold wordsL
  rw [TL.spl_last1 h.2.1]
  show List.filter _ [w] = [w]
  rw [List.filter_cons, if_pos]
  · rfl
  · cases w with
    | nil => exact absurd rfl h.1
    | cons _ _ => rfl
theorem words_word {w : Wd} (h : WordOk w) (l : Wd) : wordsL (w ++ 32 :: l) = w :: wordsL l := by
  unfold wordsL
  have := TL.spl_part1 (s := 32) (S := []) (p := w) (rest := l) (acc := []) h.2.1
  rw [show (w ++ 32 :: l) = w ++ ([32] ++ l) by rfl, this]
  show List.filter _ (w :: _) = _
  rw [List.filter_cons, if_pos]
  cases w with
  | nil => exact absurd rfl h.1
  | cons _ _ => rfl
theorem words_wide1 {w : Wd} (h : WordOk w) (l : Wd) : ∀ n, wordsL (w ++ spW n ++ 32 :: l) = w :: wordsL l
  | 0 => by rw [show spW 0 = [] from rfl, List.append_nil, words_word h]
  | n + 1 => by
    rw [show w ++ spW (n + 1) ++ 32 :: l = w ++ 32 :: (spW n ++ 32 :: l) by rw [List.append_assoc]; rfl, words_word h, words_sps, words_sp]
theorem words_wide0 {w : Wd} (h : WordOk w) : ∀ n, wordsL (w ++ spW n) = [w]
  | 0 => by rw [show spW 0 = [] from rfl, List.append_nil, words_one h]
  | n + 1 => by rw [show w ++ spW (n + 1) = w ++ 32 :: spW n from rfl, words_word h, words_spaces]
theorem words_wide : ∀ {ps : List (Wd × Nat)}, (∀ p ∈ ps, WordOk p.1) → wordsL (wideL ps) = ps.map (·.1)
  | [], _ => rfl
  | [p], h => words_wide0 (h p List.mem_cons_self) p.2
  | p :: q :: r, h => by
    show wordsL (p.1 ++ spW p.2 ++ 32 :: wideL (q :: r)) = _
    rw [words_wide1 (h p List.mem_cons_self), words_wide fun x hx => h x (List.mem_cons_of_mem _ hx)]
    rfl
/-- the same line in joined words -/
theorem wide_join : ∀ ps : List (Wd × Nat), wideL ps = TL.joinL [32] (ps.map fun p => p.1 ++ spW p.2)
  | [] => rfl
  | [_] => rfl
  | p :: q :: r => by
    show p.1 ++ spW p.2 ++ ([32] ++ wideL (q :: r)) = (p.1 ++ spW p.2) ++ ([32] ++ TL.joinL [32] ((q :: r).map fun p => p.1 ++ spW p.2))
    rw [wide_join (q :: r)]
theorem split_sp (z : Wd) : Txt.split (sOf z) " " = (TL.spl [32] 0 [] z).map sOf := by
  refine TL.map_tl_inj ?_
  rw [TL.split_spl _ _ (by decide) (TL.kind_ok (by decide +kernel)), List.map_map]
  show TL.spl [32] 0 [] z = (TL.spl [32] 0 [] z).map id
  rw [List.map_id]
def wsV (ws : List Wd) : List V := ws.map fun w => V.str (sOf w)
/-! ### readers of lines that may refuse -/
def lrG (i : Int) (l : Addr) (k : Nat) : List (Str × V) := [("_place", .int i), ("_words", .ref l), ("_taken", .int (k : Nat))]
/-- the reader of line i with k of its words taken -/
def LrP (C : Addr) (H : Hp) (p l : Addr) (i : Nat) (ws : List Wd) (k : Nat) : Prop := ∃ dx, H p = some (.ins C dx (lrG (i : Nat) l k)) ∧ H l = some (.lst (wsV ws)) ∧ i < 10 ^ 9 ∧ k ≤ ws.length ∧ ws.length < 10 ^ 9
/-- what is told of a word refused -/
def InvE (B p : Addr) (H : Hp) (E : XK) (i k : Nat) : Prop := ∀ d H', Keep p H H' → H' d = some (.xd [("word", .int ((k + 1 : Nat))), ("line", .int (i : Nat))]) → E (.ref B) (some d) H'
def sp_failG (C B : Addr) : Sp := fun vs H _ E => ∃ (p l : Addr) (i : Nat) (ws : List Wd) (k : Nat), vs = [.ref p] ∧ LrP C H p l i ws k ∧ InvE B p H E i k
def sp_overG (C : Addr) : Sp := fun vs H Q _ => ∃ (p l : Addr) (i : Nat) (ws : List Wd) (k : Nat), vs = [.ref p] ∧ LrP C H p l i ws k ∧ Q (.bl (decide (k = ws.length))) H
def sp_takeG (K : PySem.W.Frag) (C B : Addr) : Sp := fun vs H Q E => ∃ (p l q : Addr) (i : Nat) (ws : List Wd) (k : Nat) (xs : List V), vs = [.ref p, .ref q] ∧ LrP C H p l i ws k ∧ (SqL K H q xs ∨ SqT K H q xs) ∧ xs.all flatV = true ∧
  (∀ w, ws[k]? = some w → inV (.str (sOf w)) xs = true → ∀ H', Keep p H H' → LrP C H' p l i ws (k + 1) → Q (.str (sOf w)) H') ∧
  ((∀ w, ws[k]? = some w → inV (.str (sOf w)) xs = false) → InvE B p H E i k)
theorem InvE.keep {B p : Addr} {H H' : Hp} {E : XK} {i k : Nat} (h : InvE B p H E i k) (z : Keep p H H') : InvE B p H' E i k := fun d H2 z2 e => h d H2 (z.trans z2) e
section
variable {P : Program} {w : World} {K : PySem.W.Frag} {mg : Str → Option Value} {base : Heap}
theorem ok_LineReader_is_over (T : Txt K mg) : FnOk P w K mg base (L2.CX P w) 1 T.a_LineReader_is_over T.fd_LineReader_is_over ["self"] (sp_overG T.c_LineReader) := by
  refine T.F_LineReader_is_over.okX sc_LineReader_is_over (fun vs H Q E h => ?_) (fun cdv A outer s H vs Q E hr h => ?_)
  · obtain ⟨p, l, i, ws, k, rfl, _⟩ := h
    rfl
  · obtain ⟨p, l, i, ws, j, rfl, ⟨dx, e1, e2, _⟩, k⟩ := h
    refine ⟨_, (PSs.nox (pss_one (ps_ret (pe_cmpR op_eq (pe_fld (pv 0) rfl) (pe_callB call_len_seq (by rfl) T.z_len PySem.boot_len (pa_cons (pe_fld (pv 0) rfl) pa_nil)) (nomark _))))), ?_⟩
    walk_at "begin"
    walk_at "go"
    refine ⟨p, T.c_LineReader, dx, _, .int (j : Nat), rfl, e1, T.cl_LineReader, T.n__taken, rfl, ?_⟩
    walk_at "go"
    refine ⟨p, T.c_LineReader, dx, _, .ref l, rfl, e1, T.cl_LineReader, T.n__words, rfl, ?_⟩
    walk_at "go"
    refine ⟨l, _, rfl, .inl (SqL.of e2), ?_⟩
    walk_at "go"
    have e : decide (V.int (j : Nat) = V.int ((wsV ws).length : Nat)) = decide (j = ws.length) := by
      unfold wsV
      rw [List.length_map]
      by_cases c : j = ws.length
      · rw [c, decide_eq_true rfl, decide_eq_true rfl]
      · rw [decide_eq_false c, decide_eq_false (fun z => c (by injection z with z; omega))]
    rw [e]
    exact k
theorem ok_LineReader_fail_bad (T : Txt K mg) : FnOk P w K mg base (L2.CX P w) 3 T.a_LineReader_fail T.fd_LineReader_fail ["self"] (sp_failG T.c_LineReader T.c_InvalidText) := by
  refine T.F_LineReader_fail.okX sc_LineReader_fail (fun vs H Q E h => ?_) (fun cdv A outer s H vs Q E hr h => ?_)
  · obtain ⟨p, l, i, ws, k, rfl, _⟩ := h
    rfl
  · obtain ⟨p, l, i, ws, j, rfl, ⟨dx, e1, e2, h9, hj, hw⟩, k⟩ := h
    refine ⟨_, (pss_one (ps_raise rfl (takes_of rfl rfl rfl rfl) (pmk_oex T.o_InvalidText T.ie_InvalidText T.ti_InvalidText (ok_InvalidText_init T) (hr.mono (by decide)) T.b_InvalidText_init .nil passL (by rfl) T.m_InvalidText (pa_cons (pe_fld (pv 0) rfl) (pa_cons (pe_op op_add (pe_fld (pv 0) rfl) pe_int) pa_nil))))), ?_⟩
    walk_at "begin"
    walk_at "go"
    refine k_mkO ?_
    walk_at "go"
    refine ⟨p, T.c_LineReader, dx, _, .int (i : Nat), rfl, e1, T.cl_LineReader, T.n__place, rfl, ?_⟩
    walk_at "go"
    refine ⟨p, T.c_LineReader, dx, _, .int (j : Nat), rfl, e1, T.cl_LineReader, T.n__taken, rfl, ?_⟩
    walk_at "go"
    refine ⟨(by decide : 2 ≤ 1000), fun a ha => ⟨a, (i : Nat), ((j + 1 : Nat)), by rw [Int.natCast_add]; rfl, by omega, by omega, by omega, by omega, upd_same, fun dy hd ne => ?_⟩⟩
    have hd' : H dy = none := by rw [upd_ne ne] at hd; exact hd
    exact ⟨rfl, dy, _, by rw [upd_ne ne.symm]; exact upd_same, upd_same, hd', k _ _ (Keep.of_same (exc_same2 ha hd')) upd_same⟩
end
/-! ### words taken or refused -/
def sp_takeNG (C B : Addr) : Sp := fun vs H Q E => ∃ (p l : Addr) (i : Nat) (ws : List Wd) (k : Nat) (lo hi : Int), vs = [.ref p, .int lo, .int hi] ∧ LrP C H p l i ws k ∧ (∀ w ∈ ws, w.length ≤ 500) ∧ hi.natAbs ≤ 10 ^ 30 ∧ (∀ i, lo ≤ i → i ≤ hi → (digW i).length ≤ (numW hi).length) ∧
  (∀ n, ws[k]? = some (numW n) → lo ≤ n → n ≤ hi → ∀ H', Keep p H H' → LrP C H' p l i ws (k + 1) → Q (.int n) H') ∧
  ((∀ n, ws[k]? = some (numW n) → ¬ (lo ≤ n ∧ n ≤ hi)) → InvE B p H E i k)
def sp_finG (C B : Addr) : Sp := fun vs H Q E => ∃ (p l : Addr) (i : Nat) (ws : List Wd) (k : Nat), vs = [.ref p] ∧ LrP C H p l i ws k ∧ (k = ws.length → Q .non H) ∧ (k ≠ ws.length → InvE B p H E i k)
section
variable {P : Program} {w : World} {K : PySem.W.Frag} {mg : Str → Option Value} {base : Heap}
theorem ok_LineReader_take_bad (T : Txt K mg) : FnOk P w K mg base (L2.CX P w) 5 T.a_LineReader_take T.fd_LineReader_take ["self", "words"] (sp_takeG K T.c_LineReader T.c_InvalidText) := by
  refine T.F_LineReader_take.okX sc_LineReader_take (fun vs H Q E h => ?_) (fun cdv A outer s H vs Q E hr h => ?_)
  · obtain ⟨p, l, q, i, ws, k, xs, rfl, _⟩ := h
    rfl
  · obtain ⟨p, l, q, i, ws, j, xs, rfl, hl, hq, fx, k1, k0⟩ := h
    obtain ⟨dx, e1, e2, h9, hj, hw⟩ := id hl
    refine ⟨_, (pss_cons (ps_if (PW.pt (pw_or (pt_truth (pe_meth0 (pv 0) T.cl_LineReader T.h_LineReader_is_over (ok_LineReader_is_over T) (hr.mono (by decide)) T.b_LineReader_is_over .nil passL) (fun _ => rfl)) (pw_or1 (pt_cmpR op_notIn_seq (pe_ix ix_list (pe_fld (pv 0) rfl) (pe_fld (pv 0) rfl) (fun _ _ => rfl)) (pv 1) (by rfl)))))
  (pss_one (ps_expr (pe_methX0 (pv 0) T.cl_LineReader T.h_LineReader_fail (ok_LineReader_fail_bad T) (hr.mono (by decide)) T.b_LineReader_fail (fun σ => passAt (takes_of rfl rfl rfl rfl) σ))))
  pss_nil)
  (pss_cons (ps_fldaug (pv 0) pe_int in_add)
  (pss_one (ps_ret (pe_ix ix_list (pe_fld (pv 0) rfl) (pe_op op_sub (pe_fld (pv 0) rfl) pe_int) (fun _ _ => rfl)))))), ?_⟩
    walk_at "begin"
    walk_at "go"
    refine k_meth ?_
    walk_at "go"
    refine ⟨p, dx, _, rfl, e1, rfl, ?_⟩
    walk_at "go"
    refine ⟨p, l, i, ws, j, rfl, hl, ?_⟩
    by_cases c : j = ws.length
    · rw [decide_eq_true c]
      refine ⟨true, rfl, ?_⟩
      refine iteT ?_
      refine iteT ?_
      refine k_drop ?_
      refine k_methX ?_
      walk_at "go"
      refine ⟨p, dx, _, rfl, e1, rfl, ?_⟩
      refine k_nil ?_
      exact ⟨p, l, i, ws, j, rfl, hl, k0 fun w e => by rw [c, List.getElem?_eq_none (Nat.le_refl _)] at e; cases e⟩
    · rw [decide_eq_false c]
      refine ⟨false, rfl, ?_⟩
      refine iteF ?_
      walk_at "go"
      have jl : j < ws.length := by omega
      have ej : ws[j]? = some (ws[j]'jl) := List.getElem?_eq_getElem jl
      have ev : (wsV ws)[j]? = some (.str (sOf (ws[j]'jl))) := by unfold wsV; rw [List.getElem?_map, ej]; rfl
      generalize ws[j]'jl = w0 at ej ev
      refine ⟨p, T.c_LineReader, dx, _, .ref l, rfl, e1, T.cl_LineReader, T.n__words, rfl, ?_⟩
      walk_at "go"
      refine ⟨p, T.c_LineReader, dx, _, .int (j : Nat), rfl, e1, T.cl_LineReader, T.n__taken, rfl, ?_⟩
      refine k_ixL (SqL.of e2) (atI_nat ev) ?_
      walk_at "go"
      refine k_in hq rfl fx ?_
      cases hin : inV (.str (sOf w0)) xs with
      | false =>
        walk_at "go"
        refine iteT ?_
        refine k_drop ?_
        refine k_methX ?_
        walk_at "go"
        refine ⟨p, dx, _, rfl, e1, rfl, ?_⟩
        refine k_nil ?_
        exact ⟨p, l, i, ws, j, rfl, hl, k0 fun w e => by rw [ej] at e; cases e; exact hin⟩
      | true =>
        walk_at "go"
        refine iteF ?_
        walk_at "go"
        refine ⟨_, rfl, p, T.c_LineReader, dx, _, .int (j : Nat), rfl, e1, T.cl_LineReader, T.n__taken, rfl, ?_⟩
        refine ⟨_, _, rfl, rfl, ?_⟩
        refine ⟨dx, _, e1, (by show 3 < 1000; decide), ?_⟩
        have nlp : l ≠ p := fun z => by rw [z, e1] at e2; cases e2
        have kA : Keep p H (upd H p (.ins T.c_LineReader dx (putF "_taken" (.int ((j : Nat) + 1)) (lrG (i : Nat) l j)))) := Keep.at_
        have eA : (upd H p (.ins T.c_LineReader dx (putF "_taken" (.int ((j : Nat) + 1)) (lrG (i : Nat) l j)))) p = some (.ins T.c_LineReader dx (lrG (i : Nat) l (j + 1))) := upd_same
        generalize upd H p (.ins T.c_LineReader dx (putF "_taken" (.int ((j : Nat) + 1)) (lrG (i : Nat) l j))) = HA at kA eA
        have eL := kA _ _ nlp e2
        walk_at "go"
        refine ⟨p, T.c_LineReader, dx, _, .ref l, rfl, eA, T.cl_LineReader, T.n__words, rfl, ?_⟩
        walk_at "go"
        refine ⟨p, T.c_LineReader, dx, _, .int ((j + 1 : Nat)), rfl, eA, T.cl_LineReader, T.n__taken, rfl, ?_⟩
        walk_at "go"
        rw [show (((j + 1 : Nat) : Int)) - 1 = (j : Nat) by omega]
        refine k_ixL (SqL.of eL) (atI_nat ev) ?_
        exact k1 w0 ej hin _ kA ⟨dx, eA, eL, h9, by omega, hw⟩
theorem ok_LineReader_finish_bad (T : Txt K mg) : FnOk P w K mg base (L2.CX P w) 5 T.a_LineReader_finish T.fd_LineReader_finish ["self"] (sp_finG T.c_LineReader T.c_InvalidText) := by
  refine T.F_LineReader_finish.okX sc_LineReader_finish (fun vs H Q E h => ?_) (fun cdv A outer s H vs Q E hr h => ?_)
  · obtain ⟨p, l, i, ws, k, rfl, _⟩ := h
    rfl
  · obtain ⟨p, l, i, ws, j, rfl, hl, k1, k0⟩ := h
    obtain ⟨dx, e1, e2, h9, hj, hw⟩ := id hl
    refine ⟨_, (pss_one (ps_if (pt_not (pt_truth (pe_meth0 (pv 0) T.cl_LineReader T.h_LineReader_is_over (ok_LineReader_is_over T) (hr.mono (by decide)) T.b_LineReader_is_over .nil passL) (fun _ => rfl)))
  (pss_one (ps_expr (pe_methX0 (pv 0) T.cl_LineReader T.h_LineReader_fail (ok_LineReader_fail_bad T) (hr.mono (by decide)) T.b_LineReader_fail (fun σ => passAt (takes_of rfl rfl rfl rfl) σ))))
  pss_nil)), ?_⟩
    walk_at "begin"
    walk_at "go"
    refine k_meth ?_
    walk_at "go"
    refine ⟨p, dx, _, rfl, e1, rfl, ?_⟩
    walk_at "go"
    refine ⟨p, l, i, ws, j, rfl, hl, ?_⟩
    by_cases c : j = ws.length
    · rw [decide_eq_true c]
      refine ⟨true, rfl, ?_⟩
      refine iteF ?_
      walk_at "go"
      exact k1 c
    · rw [decide_eq_false c]
      refine ⟨false, rfl, ?_⟩
      refine iteT ?_
      refine k_drop ?_
      refine k_methX ?_
      walk_at "go"
      refine ⟨p, dx, _, rfl, e1, rfl, ?_⟩
      refine k_nil ?_
      exact ⟨p, l, i, ws, j, rfl, hl, k0 c⟩
end
/-! ### a word that is a number, or none (for texts that may be refused) -/
def dW : Wd → Wd
  | 45 :: r => r
  | w => w
theorem dW_num (i : Int) : dW (numW i) = digW i := by
  cases i with
  | negSucc n => rfl
  | ofNat n =>
    show dW (TL.numL n) = TL.numL n
    cases e : TL.numL n with
    | nil => rfl
    | cons c r =>
      have : c ≠ 45 := fun z => by
        have := (TL.numL_digits n c (by rw [e]; exact List.mem_cons_self)).1
        omega
      unfold dW
      split
      · rename_i h
        injection h with h _
        exact absurd h this
      · rfl
theorem pre_any (w : Wd) : Txt.removeprefix (sOf w) "-" = sOf (dW w) := by
  rw [PySem.StrLaws.removeprefix_eq, PySem.StrLaws.subAt_eq]
  have l1 : (Str.ofString "-").length = 1 := by decide
  have c1 : (Str.ofString "-").cps.toList = [45] := by decide
  rw [l1, c1, sOf_len, show (sOf w).cps.toList = w from rfl, List.drop_zero]
  match w with
  | [] => rfl
  | c :: r =>
    show (if (decide (0 + 1 ≤ (c :: r).length) && ([c] == [45])) = true then (⟨(r.take ((c :: r).length - 1)).toArray⟩ : Str) else sOf (c :: r)) = _
    by_cases h : c = 45
    · subst h
      rw [if_pos (by rw [decide_eq_true (by rw [List.length_cons]; omega)]; rfl), List.length_cons, Nat.add_sub_cancel, List.take_length]
      rfl
    · rw [if_neg (by
        rw [Bool.and_eq_true]
        rintro ⟨_, h2⟩
        have := eq_of_beq h2
        injection this with this _
        exact h this)]
      unfold dW
      split
      · rename_i h2
        injection h2 with h2 _
        exact absurd h2 h
      · rfl
theorem digits_of {w : Wd} (h1 : Txt.isascii (sOf w) = true) (h2 : Txt.isdigit (sOf w) = true) : PySem.NumText.AllDigits w ∧ w ≠ [] := by
  unfold Txt.isascii at h1
  unfold Txt.isdigit at h2
  rw [Bool.and_eq_true] at h2
  obtain ⟨h3, h4⟩ := h2
  have h1' : w.toArray.all (· < 128) = true := h1
  have h4' : w.toArray.all Unicode.isDigit = true := h4
  rw [List.all_toArray, List.all_eq_true] at h1' h4'
  refine ⟨fun c hc => ?_, fun z => ?_⟩
  · have a := of_decide_eq_true (h1' c hc)
    have b := h4' c hc
    rw [PyProof.Rows.cls_isdigit c a] at b
    have z : ∀ c, c < 128 → PyProof.Rows.inR 48 57 ⟨#[c]⟩ = true → 48 ≤ c ∧ c ≤ 57 := by decide +kernel
    exact z c a b
  · subst z
    exact absurd h3 (by decide)
/-- the digits, a sign before or not: some number -/
theorem int_any {w : Wd} (h : PySem.NumText.AllDigits (dW w) ∧ dW w ≠ []) (hl : w.length ≤ 600) : ∃ i, PySem.intText? (sOf w) = some i := by
  match w, h with
  | [], h => exact absurd rfl h.2
  | c :: r, h =>
    by_cases hc : c = 45
    · subst hc
      exact ⟨_, PySem.intText_neg (x := sOf (45 :: r)) rfl h.1 h.2 (by rw [sOf_len]; exact Nat.le_trans hl (by decide))⟩
    · have e : dW (c :: r) = c :: r := by
        unfold dW
        split
        · rename_i h2
          injection h2 with h2 _
          exact absurd h2 hc
        · rfl
      rw [e] at h
      exact ⟨_, PySem.intText_digits (x := sOf (c :: r)) h.1 h.2 (by rw [sOf_len]; exact Nat.le_trans hl (by decide))⟩
theorem fold_lt : ∀ (l : List Nat) (acc : Nat), PySem.NumText.AllDigits l → l.foldl (fun acc c => acc * 10 + (c - 48)) acc < (acc + 1) * 10 ^ l.length
  | [], acc, _ => by show acc < (acc + 1) * 1; omega
  | c :: r, acc, h => by
    have hc := h.head
    have ih := fold_lt r (acc * 10 + (c - 48)) h.tail
    have h1 : (acc * 10 + (c - 48) + 1) * 10 ^ r.length ≤ ((acc + 1) * 10) * 10 ^ r.length := Nat.mul_le_mul_right _ (by omega)
    show r.foldl _ (acc * 10 + (c - 48)) < (acc + 1) * 10 ^ (r.length + 1)
    rw [Nat.pow_succ, Nat.mul_comm (10 ^ r.length) 10, ← Nat.mul_assoc]
    omega
theorem val_lt {l : List Nat} (h : PySem.NumText.AllDigits l) : PySem.NumText.digitsVal l < 10 ^ l.length := by
  have := fold_lt l 0 h
  unfold PySem.NumText.digitsVal
  omega
theorem int_any2 {w : Wd} (h : PySem.NumText.AllDigits (dW w) ∧ dW w ≠ []) (hl : w.length ≤ 600) (h32 : (dW w).length ≤ 32) : ∃ i : Int, PySem.intText? (sOf w) = some i ∧ i.natAbs < 10 ^ 32 := by
  have hv := val_lt h.1
  have hp : 10 ^ (dW w).length ≤ 10 ^ 32 := Nat.pow_le_pow_right (by decide) h32
  match w, h, hv, hp with
  | [], h, _, _ => exact absurd rfl h.2
  | c :: r, h, hv, hp =>
    by_cases hc : c = 45
    · subst hc
      have hv : PySem.NumText.digitsVal r < 10 ^ r.length := hv
      have hp : 10 ^ r.length ≤ 10 ^ 32 := hp
      exact ⟨_, PySem.intText_neg (x := sOf (45 :: r)) rfl h.1 h.2 (by rw [sOf_len]; exact Nat.le_trans hl (by decide)), by rw [Int.natAbs_neg, Int.natAbs_natCast]; omega⟩
    · have e : dW (c :: r) = c :: r := by
        unfold dW
        split
        · rename_i h2
          injection h2 with h2 _
          exact absurd h2 hc
        · rfl
      rw [e] at h hv hp
      exact ⟨_, PySem.intText_digits (x := sOf (c :: r)) h.1 h.2 (by rw [sOf_len]; exact Nat.le_trans hl (by decide)), by
        show (PySem.NumText.digitsVal (c :: r)) < _
        omega⟩
/-- any word: the number of the range that it says, or None -/
def sp_numG : Sp := fun vs H Q _ => ∃ (w : Wd) (lo hi : Int), vs = [.str (sOf w), .int lo, .int hi] ∧ w.length ≤ 500 ∧ hi.natAbs ≤ 10 ^ 30 ∧ (∀ i, lo ≤ i → i ≤ hi → (digW i).length ≤ (numW hi).length) ∧
  (∀ i, w = numW i → lo ≤ i → i ≤ hi → Q (.int i) H) ∧ ((∀ i, w = numW i → ¬ (lo ≤ i ∧ i ≤ hi)) → Q .non H)
section
variable {P : Program} {w : World} {K : PySem.W.Frag} {mg : Str → Option Value} {base : Heap}
theorem ok_numberG (T : Txt K mg) : FnOk P w K mg base (L2.CX P w) 1 T.a_number T.fd_number ["word", "least", "most"] sp_numG := by
  refine T.F_number.okX sc_number (fun vs H Q E h => ?_) (fun cdv A outer s H vs Q E hr h => ?_)
  · obtain ⟨w, lo, hi, rfl, _⟩ := h
    rfl
  · obtain ⟨w, lo, hi, rfl, lw, hs, hd, k1, k0⟩ := h
    refine ⟨_, (PSs.nox (pss_cons (ps_set (i := 3) sc_number.nd rfl (Or.inl rfl) (pe_m1 PySem.F.slot_str_removeprefix PySem.F.type_str_removeprefix mt_removeprefix (pv 0) pe_str))
  (pss_cons (ps_if (PW.pt (pw_or (pt_not (pt_truth (pe_m0 PySem.F.slot_str_isascii PySem.F.type_str_isascii mt_isascii (pv 3)) (fun _ => rfl))) (pw_or (pt_not (pt_truth (pe_m0 PySem.F.slot_str_isdigit PySem.F.type_str_isdigit mt_isdigit (pv 3)) (fun _ => rfl))) (pw_or1 (pt_cmpR op_gt (pe_callB call_len_str (by rfl) T.z_len PySem.boot_len (pa_cons (pv 3) pa_nil)) (pe_callB call_len_str (by rfl) T.z_len PySem.boot_len (pa_cons (pe_callTy call_str_int (by rfl) T.z_str (by decide +kernel) (pa_cons (pv 2) pa_nil)) pa_nil)) (nomark _))))))
  (pss_one (ps_ret pe_non))
  pss_nil)
  (pss_cons (ps_set (i := 4) sc_number.nd rfl (Or.inl rfl) (pe_callTy call_int_str (by rfl) T.z_int PySem.Pv.boot_int (pa_cons (pv 0) pa_nil)))
  (pss_one (ps_ret (pe_ifExp (PW.pt (pw_and (pt_cmpR op_eq (pe_callTy call_str_int (by rfl) T.z_str (by decide +kernel) (pa_cons (pv 4) pa_nil)) (pv 0) (nomark _)) (pw_and1 (pt_chain op_le op_le (pv 1) (pv 4) (pv 2))))) (pv 4) pe_non))))))), ?_⟩
    walk_at "begin"
    walk_at "go"
    refine ⟨_, rfl, ⟨_, rfl⟩, _, _, rfl, rfl, by rw [sOf_len]; exact Nat.le_trans lw (by decide), ?_⟩
    rw [pre_any]
    have ld : (dW w).length ≤ w.length := by
      match w with
      | [] => exact Nat.le_refl _
      | c :: r =>
        unfold dW
        split
        · rename_i h; injection h with _ h; rw [h]; exact Nat.le_succ _
        · exact Nat.le_refl _
    walk_at "go"
    refine ⟨_, rfl, ⟨_, rfl⟩, _, rfl, rfl, trivial, ?_⟩
    cases ha : Txt.isascii (sOf (dW w)) with
    | false =>
      refine ⟨false, rfl, ?_⟩
      refine iteT ?_
      refine iteT ?_
      refine k0 fun i e => ?_
      rw [e, dW_num, show Txt.isascii (sOf (digW i)) = true from digits_ascii _] at ha
      cases ha
    | true =>
      refine ⟨true, rfl, ?_⟩
      refine iteF ?_
      refine ⟨_, rfl, ⟨_, rfl⟩, _, rfl, rfl, trivial, ?_⟩
      cases hg : Txt.isdigit (sOf (dW w)) with
      | false =>
        refine ⟨false, rfl, ?_⟩
        refine iteT ?_
        refine iteT ?_
        refine k0 fun i e => ?_
        rw [e, dW_num, show Txt.isdigit (sOf (digW i)) = true from digits_digit _] at hg
        cases hg
      | true =>
        refine ⟨true, rfl, ?_⟩
        refine iteF ?_
        walk_at "go"
        refine ⟨_, rfl, by rw [sOf_len]; exact Nat.le_trans (Nat.le_trans ld lw) (by decide), ?_⟩
        walk_at "go"
        refine ⟨_, rfl, num_log hs, ?_⟩
        walk_at "go"
        refine ⟨_, rfl, by rw [num_text, sOf_len]; exact Nat.le_trans (numW_len hs) (by decide), ?_⟩
        rw [num_text, sOf_len, sOf_len]
        walk_at "go"
        refine k_ite (fun c => ?_) (fun c => ?_)
        · walk_at "go"
          refine k0 fun i e => ?_
          rintro ⟨h1, h2⟩
          have := hd i h1 h2
          rw [e, dW_num] at c
          omega
        · have l32 : (dW w).length ≤ 32 := by
            have := numW_len hs
            omega
          obtain ⟨n, en, hn⟩ := int_any2 (digits_of ha hg) (by omega) l32
          walk_at "go"
          refine ⟨_, n, rfl, en, by rw [sOf_len]; omega, ?_⟩
          walk_at "go"
          refine ⟨_, rfl, ?_, ?_⟩
          · have h1 : n.natAbs < 2 ^ 110 := Nat.lt_of_lt_of_le hn (by decide)
            have h2 := Nat.log2_lt (n := n.natAbs) (k := 110)
            by_cases c : n.natAbs = 0
            · rw [c]; decide
            · exact Nat.lt_trans ((h2 c).mpr h1) (by decide)
          rw [num_text]
          walk_at "go"
          by_cases hw : numW n = w
          · rw [decide_eq_true (by rw [hw])]
            refine iteT ?_
            refine k_chain ?_
            walk_at "go"
            refine k_ite (fun h1 => ?_) (fun h1 => ?_)
            · walk_at "go"
              refine k_ite (fun h2 => ?_) (fun h2 => ?_)
              · walk_at "go"
                exact k1 n hw.symm h1 h2
              · walk_at "go"
                exact k0 fun i e => fun z => h2 (by rw [← hw] at e; rw [numW_inj e]; exact z.2)
            · walk_at "go"
              exact k0 fun i e => fun z => h1 (by rw [← hw] at e; rw [numW_inj e]; exact z.1)
          · rw [decide_eq_false (fun z => hw (by injection z with z; exact sOf_inj z))]
            refine iteF ?_
            walk_at "go"
            refine k0 fun i e => ?_
            have : PySem.intText? (sOf w) = some i → False := fun z => by
              rw [en] at z
              exact hw (by rw [Option.some.inj z]; exact e.symm)
            exact fun _ => this (by
              rw [e]
              exact num_int (by rw [← e]; omega))
end
/-! ### numbers taken or refused -/
section
variable {P : Program} {w : World} {K : PySem.W.Frag} {mg : Str → Option Value} {base : Heap}
theorem ok_number (T : Txt K mg) : FnOk P w K mg base (L2.CX P w) 1 T.a_number T.fd_number ["word", "least", "most"] sp_numG := ok_numberG T
theorem ok_LineReader_take_number_bad (T : Txt K mg) : FnOk P w K mg base (L2.CX P w) 5 T.a_LineReader_take_number T.fd_LineReader_take_number ["self", "least", "most"] (sp_takeNG T.c_LineReader T.c_InvalidText) := by
  refine T.F_LineReader_take_number.okX sc_LineReader_take_number (fun vs H Q E h => ?_) (fun cdv A outer s H vs Q E hr h => ?_)
  · obtain ⟨p, l, i, ws, k, lo, hi, rfl, _⟩ := h
    rfl
  · obtain ⟨p, l, i, ws, j, lo, hi, rfl, hl, hws, hs, hd, k1, k0⟩ := h
    obtain ⟨dx, e1, e2, h9, hj, hw⟩ := id hl
    refine ⟨_, (pss_cons (ps_set (i := 3) sc_LineReader_take_number.nd rfl (Or.inl rfl) (pe_ifExp (pt_truth (pe_meth0 (pv 0) T.cl_LineReader T.h_LineReader_is_over (ok_LineReader_is_over T) (hr.mono (by decide)) T.b_LineReader_is_over .nil passL) (fun _ => rfl)) pe_non (pe_call (ok_number T) (hr.mono (by decide)) (by rfl) T.m_number T.k_number T.b_number .nil passL (pa_cons (pe_ix ix_list (pe_fld (pv 0) rfl) (pe_fld (pv 0) rfl) (fun _ _ => rfl)) (pa_cons (pv 1) (pa_cons (pv 2) pa_nil))))))
  (pss_cons (ps_if (pt_cmp (pc_isN (pv 3)))
  (pss_one (ps_expr (pe_methX0 (pv 0) T.cl_LineReader T.h_LineReader_fail (ok_LineReader_fail_bad T) (hr.mono (by decide)) T.b_LineReader_fail (fun σ => passAt (takes_of rfl rfl rfl rfl) σ))))
  pss_nil)
  (pss_cons (ps_fldaug (pv 0) pe_int in_add)
  (pss_one (ps_ret (pv 3)))))), ?_⟩
    walk_at "begin"
    walk_at "go"
    refine k_meth ?_
    walk_at "go"
    refine ⟨p, dx, _, rfl, e1, rfl, ?_⟩
    walk_at "go"
    refine ⟨p, l, i, ws, j, rfl, hl, ?_⟩
    by_cases c : j = ws.length
    · rw [decide_eq_true c]
      refine ⟨true, rfl, ?_⟩
      refine iteT ?_
      walk_at "go"
      refine k_yes (by rfl) ?_
      refine k_drop ?_
      refine k_methX ?_
      walk_at "go"
      refine ⟨p, dx, _, rfl, e1, rfl, ?_⟩
      refine k_nil ?_
      exact ⟨p, l, i, ws, j, rfl, hl, k0 fun n e => by rw [c, List.getElem?_eq_none (Nat.le_refl _)] at e; cases e⟩
    · rw [decide_eq_false c]
      refine ⟨false, rfl, ?_⟩
      refine iteF ?_
      walk_at "go"
      have jl : j < ws.length := by omega
      have ej : ws[j]? = some (ws[j]'jl) := List.getElem?_eq_getElem jl
      have ev : (wsV ws)[j]? = some (.str (sOf (ws[j]'jl))) := by unfold wsV; rw [List.getElem?_map, ej]; rfl
      have w5 := hws _ (List.getElem_mem jl)
      generalize ws[j]'jl = w0 at ej ev w5
      refine ⟨p, T.c_LineReader, dx, _, .ref l, rfl, e1, T.cl_LineReader, T.n__words, rfl, ?_⟩
      walk_at "go"
      refine ⟨p, T.c_LineReader, dx, _, .int (j : Nat), rfl, e1, T.cl_LineReader, T.n__taken, rfl, ?_⟩
      refine k_ixL (SqL.of e2) (atI_nat ev) ?_
      walk_at "go"
      refine ⟨w0, lo, hi, rfl, w5, hs, hd, fun n en h1 h2 => ?_, fun hno => ?_⟩
      · walk_at "go"
        refine k_no (by rfl) ?_
        walk_at "go"
        refine ⟨_, rfl, p, T.c_LineReader, dx, _, .int (j : Nat), rfl, e1, T.cl_LineReader, T.n__taken, rfl, ?_⟩
        refine ⟨_, _, rfl, rfl, ?_⟩
        refine ⟨dx, _, e1, (by show 3 < 1000; decide), ?_⟩
        have nlp : l ≠ p := fun z => by rw [z, e1] at e2; cases e2
        have kA : Keep p H (upd H p (.ins T.c_LineReader dx (putF "_taken" (.int ((j : Nat) + 1)) (lrG (i : Nat) l j)))) := Keep.at_
        have eA : (upd H p (.ins T.c_LineReader dx (putF "_taken" (.int ((j : Nat) + 1)) (lrG (i : Nat) l j)))) p = some (.ins T.c_LineReader dx (lrG (i : Nat) l (j + 1))) := upd_same
        generalize upd H p (.ins T.c_LineReader dx (putF "_taken" (.int ((j : Nat) + 1)) (lrG (i : Nat) l j))) = HA at kA eA
        have eL := kA _ _ nlp e2
        walk_at "go"
        exact k1 n (by rw [ej, en]) h1 h2 _ kA ⟨dx, eA, eL, h9, by omega, hw⟩
      · walk_at "go"
        refine k_yes (by rfl) ?_
        refine k_drop ?_
        refine k_methX ?_
        walk_at "go"
        refine ⟨p, dx, _, rfl, e1, rfl, ?_⟩
        refine k_nil ?_
        exact ⟨p, l, i, ws, j, rfl, hl, k0 fun n e => by rw [ej] at e; exact hno n (Option.some.inj e)⟩
end
/-! ### the words of a machine's lines -/
def stW : Wd := [115, 116, 97, 110, 100, 115]
def enW : Wd := [101, 110, 100, 115]
def spwW : Wd := [115, 116, 101, 112]
def wStands (m : MD) : List Wd := [stW, numW (m.n : Nat)]
def wEnds (m : MD) : List Wd := enW :: m.es.map fun e => numW ((e : Nat) : Int)
def wStep (s : Stp) : List Wd := [spwW, numW (s.b : Nat), [s.c], numW (s.e : Nat), numW s.g]
theorem stW_s : sOf stW = "stands" := by decide
theorem enW_s : sOf enW = "ends" := by decide
theorem spwW_s : sOf spwW = "step" := by decide
def wLines (m : MD) : List (List Wd) := wStands m :: wEnds m :: m.ss.map wStep
/-! ### the first line, read or refused -/
def sp_rstandsG (C B : Addr) : Sp := fun vs H Q E => ∃ (p l : Addr) (i : Nat) (ws : List Wd), vs = [.ref p] ∧ LrP C H p l i ws 0 ∧ (∀ w ∈ ws, w.length ≤ 500) ∧
  (∀ n : Nat, ws = [stW, numW (n : Nat)] → 1 ≤ n → n ≤ 8 → ∀ H', Keep p H H' → Q (.int (n : Nat)) H') ∧
  (ws[0]? ≠ some stW → InvE B p H E i 0) ∧
  (ws[0]? = some stW → (∀ n : Nat, ws[1]? = some (numW (n : Nat)) → ¬ (1 ≤ n ∧ n ≤ 8)) → InvE B p H E i 1) ∧
  (ws[0]? = some stW → (∃ n : Nat, ws[1]? = some (numW (n : Nat)) ∧ 1 ≤ n ∧ n ≤ 8) → ws.length ≠ 2 → InvE B p H E i 2)
theorem in_one {w v : Wd} : inV (.str (sOf w)) [V.str (sOf v)] = decide (w = v) := by
  unfold inV
  show ((sOf v == sOf w) || false) = decide (w = v)
  rw [Bool.or_false, Bool.eq_iff_iff, beq_iff_eq, decide_eq_true_iff]
  exact ⟨fun h => (sOf_inj h).symm, fun h => by rw [h]⟩
theorem small_dig {lo hi : Int} (h0 : 0 ≤ lo) (h3 : hi < 10) : ∀ i, lo ≤ i → i ≤ hi → (digW i).length ≤ (numW hi).length := fun i h1 h2 => by rw [dig_one (by omega) (by omega)]; exact num_pos _
section
variable {P : Program} {w : World} {K : PySem.W.Frag} {mg : Str → Option Value} {base : Heap}
theorem ok_read_stands_bad (T : Txt K mg) : FnOk P w K mg base (L2.CX P w) 7 T.a_read_stands T.fd_read_stands ["line"] (sp_rstandsG T.c_LineReader T.c_InvalidText) := by
  refine T.F_read_stands.okX sc_read_stands (fun vs H Q E h => ?_) (fun cdv A outer s H vs Q E hr h => ?_)
  · obtain ⟨p, l, i, ws, rfl, _⟩ := h
    rfl
  · obtain ⟨p, l, i, ws, rfl, hl, hws, kq, k0, k1, k2⟩ := h
    obtain ⟨dx, e1, e2, h9, hj, hw⟩ := id hl
    refine ⟨_, (pss_cons (ps_expr (pe_methX (pv 0) T.cl_LineReader T.h_LineReader_take (ok_LineReader_take_bad T) (hr.mono (by decide)) T.b_LineReader_take (fun σ => passAt (takes_of rfl rfl rfl rfl) σ) (pa_cons (pe_tup (pa_cons pe_str pa_nil)) pa_nil)))
  (pss_cons (ps_set (i := 1) sc_read_stands.nd rfl (Or.inl rfl) (pe_methX (pv 0) T.cl_LineReader T.h_LineReader_take_number (ok_LineReader_take_number_bad T) (hr.mono (by decide)) T.b_LineReader_take_number (fun σ => passAt (takes_of rfl rfl rfl rfl) σ) (pa_cons pe_int (pa_cons (pe_glob (by rfl) T.m_MOST_STANDS T.r_MOST_STANDS) pa_nil))))
  (pss_cons (ps_expr (pe_methX0 (pv 0) T.cl_LineReader T.h_LineReader_finish (ok_LineReader_finish_bad T) (hr.mono (by decide)) T.b_LineReader_finish (fun σ => passAt (takes_of rfl rfl rfl rfl) σ)))
  (pss_one (ps_ret (pv 1)))))), ?_⟩
    walk_at "begin"
    walk_at "go"
    refine k_methX ?_
    walk_at "go"
    refine ⟨p, dx, _, rfl, e1, rfl, ?_⟩
    walk_at "go"
    refine ⟨(by decide : 1 ≤ sizeLine), fun q hq => ?_⟩
    refine k_nil ?_
    have zq := Same.new (o := .tup [.str "stands"]) hq
    have eq := upd_same (H := H) (a := q) (o := .tup [.str "stands"])
    generalize upd H q (.tup [.str "stands"]) = H1 at zq eq
    refine ⟨p, l, q, i, ws, 0, [.str "stands"], rfl, ⟨dx, zq _ _ e1, zq _ _ e2, h9, hj, hw⟩, .inr (SqT.of eq), by rfl, fun w0 ew hin H2 z2 hl2 => ?_, fun hno => ?_⟩
    · rw [← stW_s, in_one] at hin
      have ew0 := of_decide_eq_true hin
      subst ew0
      have kk := (Keep.of_same zq).trans z2
      walk_at "go"
      refine k_methX ?_
      walk_at "go"
      obtain ⟨dx2, e12, e22, h92, hj2, hw2⟩ := id hl2
      refine ⟨p, dx2, _, rfl, e12, rfl, ?_⟩
      walk_at "go"
      refine ⟨p, l, i, ws, 1, 1, 8, rfl, hl2, hws, by decide, small_dig (by decide) (by decide), fun n en n1 n8 H3 z3 hl3 => ?_, fun hno => ?_⟩
      · walk_at "go"
        refine k_methX ?_
        walk_at "go"
        obtain ⟨dx3, e13, e23, h93, hj3, hw3⟩ := id hl3
        refine ⟨p, dx3, _, rfl, e13, rfl, ?_⟩
        refine k_nil ?_
        obtain ⟨n, rfl⟩ := Int.eq_ofNat_of_zero_le (show 0 ≤ n by omega)
        refine ⟨p, l, i, ws, 2, rfl, hl3, fun h2 => ?_, fun h2 => ?_⟩
        · walk_at "go"
          refine kq n ?_ (by omega) (by omega) _ (kk.trans z3)
          match ws, h2, ew, en with
          | [a, b], _, ew, en => cases ew; cases en; rfl
        · exact (k2 ew ⟨n, en, by omega, by omega⟩ (Ne.symm h2)).keep (kk.trans z3)
      · exact (k1 ew fun n en h => hno (n : Nat) en ⟨by omega, by omega⟩).keep kk
    · refine (k0 fun e => ?_).keep (Keep.of_same zq)
      have := hno _ e
      rw [← stW_s, in_one, decide_eq_true rfl] at this
      cases this
end
/-! ### which stands have a better row; which stands letters lead to -/
inductive Reach (ss : List Stp) (l : List Nat) : Nat → Prop
  | base {n : Nat} : n ∈ l → Reach ss l n
  | step {s : Stp} : s ∈ ss → Reach ss l s.b → Reach ss l s.e
def fkv (F : List Nat) : List (Key × V) := F.map fun (n : Nat) => ((.inl (n : Int) : Key), V.bl true)
theorem key_eq (a b : Nat) : ((Sum.inl (a : Int) : Key) = .inl (b : Int)) ↔ a = b := ⟨fun z => by injection z with z; omega, fun z => by rw [z]⟩
theorem valV_fkv (n : Nat) : ∀ F : List Nat, valV (fkv F) (.inl (n : Int)) = if n ∈ F then some (.bl true) else none
  | [] => rfl
  | a :: F => by
    have ih := valV_fkv n F
    by_cases c : a = n
    · rw [if_pos (by rw [c]; exact List.mem_cons_self)]
      exact valV_pos (p := ((.inl (a : Int) : Key), V.bl true)) ((key_eq a n).mpr c)
    · have e : valV (fkv (a :: F)) (.inl (n : Int)) = valV (fkv F) (.inl (n : Int)) := valV_neg (p := ((.inl (a : Int) : Key), V.bl true)) fun z => c ((key_eq a n).mp z)
      rw [e, ih]
      by_cases d : n ∈ F
      · rw [if_pos d, if_pos (List.mem_cons_of_mem _ d)]
      · rw [if_neg d, if_neg (fun z => by rcases List.mem_cons.mp z with z | z; exact c z.symm; exact d z)]
def addN (F : List Nat) (n : Nat) : List Nat := if n ∈ F then F else F ++ [n]
theorem addN_mem {F : List Nat} {n k : Nat} : k ∈ addN F n ↔ k ∈ F ∨ k = n := by
  unfold addN
  by_cases c : n ∈ F
  · rw [if_pos c]
    exact ⟨.inl, fun z => by rcases z with z | rfl <;> assumption⟩
  · rw [if_neg c, List.mem_append, List.mem_singleton]
theorem addN_nodup {F : List Nat} {n : Nat} (h : F.Nodup) : (addN F n).Nodup := by
  unfold addN
  by_cases c : n ∈ F
  · rw [if_pos c]; exact h
  · rw [if_neg c]
    exact List.nodup_append.mpr ⟨h, by simp, fun a ha b hb e => by rw [List.mem_singleton] at hb; rw [e, hb] at ha; exact c ha⟩
theorem putK_fkv (F : List Nat) (n : Nat) : putK (fkv F) (.inl (n : Int)) (.bl true) = fkv (addN F n) := by
  by_cases c : n ∈ F
  · unfold addN putK
    have h := valV_any (.inl (n : Int) : Key) (fkv F)
    rw [valV_fkv, if_pos c] at h
    rw [h, if_pos c, if_pos (show (some (V.bl true)).isSome = true from rfl)]
    unfold fkv
    rw [List.map_map]
    refine List.map_congr_left fun a _ => ?_
    show (if (Sum.inl (a : Int) : Key) = .inl (n : Int) then ((Sum.inl (a : Int) : Key), V.bl true) else ((Sum.inl (a : Int) : Key), V.bl true)) = _
    split <;> rfl
  · rw [putK_new _ (by rw [valV_fkv, if_neg c])]
    unfold addN fkv
    rw [if_neg c, List.map_append]
    rfl
theorem nats_snoc (l : List Nat) (n : Nat) : nats (l ++ [n]) = nats l ++ [.int (n : Nat)] := by unfold nats; rw [List.map_append]; rfl
theorem nats_at {l : List Nat} {i : Nat} {x : V} (h : (nats l)[i]? = some x) : ∃ n, l[i]? = some n ∧ x = .int (n : Nat) := by
  unfold nats at h
  rw [List.getElem?_map] at h
  cases e : l[i]? with
  | none => rw [e] at h; cases h
  | some n => rw [e] at h; exact ⟨n, rfl, (Option.some.inj h).symm⟩
theorem nodup_small {F : List Nat} {n : Nat} (h : F.Nodup) (b : ∀ k ∈ F, k < n) : F.length ≤ n := by
  induction n generalizing F with
  | zero =>
    cases F with
    | nil => exact Nat.le_refl _
    | cons a F => exact absurd (b a List.mem_cons_self) (Nat.not_lt_zero _)
  | succ n ih =>
    by_cases c : n ∈ F
    · have e1 := ih (F := F.erase n) (h.erase n) fun k hk => by
        have hk' := (List.Nodup.mem_erase_iff h).mp hk
        have := b k hk'.2
        have := hk'.1
        omega
      rw [List.length_erase_of_mem c] at e1
      omega
    · have := ih h fun k hk => by
        have := b k hk
        have : k ≠ n := fun z => c (z ▸ hk)
        omega
      omega
def sp_led (K : PySem.W.Frag) : Sp := fun vs H Q _ => ∃ (t p : Addr) (N : Nat) (ss : List Stp) (l : List Nat), vs = [.ref t, .ref p] ∧ StSq K H t ss ∧ SsOk N ss ∧ H p = some (.lst (nats l)) ∧ (∀ n ∈ l, n < N) ∧ l.length ≤ 300 ∧
  ∀ q (l' : List Nat) H', Same H H' → H q = none → H' q = some (.lst (nats l')) → (∀ n, n ∈ l' ↔ Reach ss l n) → l'.Pairwise (· < ·) → Q (.ref q) H'
theorem nodup_sub {α : Type} [DecidableEq α] : ∀ {l T : List α}, l.Nodup → (∀ x ∈ l, x ∈ T) → l.length ≤ T.length
  | [], _, _, _ => Nat.zero_le _
  | a :: l, T, h, s => by
    have q := List.nodup_cons.mp h
    have i := nodup_sub (T := T.erase a) q.2 fun x hx => (List.mem_erase_of_ne (fun e => q.1 (by rw [← e]; exact hx))).mpr (s x (List.mem_cons_of_mem _ hx))
    have m := s a List.mem_cons_self
    have := List.length_erase_of_mem m
    have := List.length_pos_of_mem m
    rw [List.length_cons]
    omega
theorem inV_nats (n : Nat) : ∀ l : List Nat, inV (.int (n : Nat)) (nats l) = decide (n ∈ l)
  | [] => rfl
  | a :: l => by
    have ih := inV_nats n l
    unfold inV nats at ih ⊢
    rw [List.map_cons, List.any_cons, ih]
    have e : eqV (.int (a : Nat)) (.int (n : Nat)) = decide (n = a) := by
      show ((((a : Nat) : Int)) == ((n : Nat) : Int)) = decide (n = a)
      rw [Bool.eq_iff_iff, beq_iff_eq, decide_eq_true_iff]
      omega
    rw [e]
    by_cases c : n = a
    · subst c
      simp
    · simp [c]
theorem flat_nats : ∀ l : List Nat, (nats l).all flatV = true
  | [] => rfl
  | a :: l => by
    show (flatV (.int (a : Nat)) && (nats l).all flatV) = true
    rw [flat_nats l]
    rfl
theorem dec_int (a b : Int) : decide (V.int a = V.int b) = decide (a = b) := decide_eq_decide.mpr ⟨fun h => by injection h, fun h => by rw [h]⟩
/-! ### the second line, read or refused -/
def leastOf (es : List Nat) : Nat := match es.getLast? with
  | none => 0
  | some e => e + 1
def endsW (es : List Nat) : List Wd := enW :: es.map fun e => numW ((e : Nat) : Int)
def sp_rendsG (C B : Addr) : Sp := fun vs H Q E => ∃ (p l : Addr) (i n : Nat) (ws : List Wd), vs = [.ref p, .int (n : Nat)] ∧ LrP C H p l i ws 0 ∧ (∀ w ∈ ws, w.length ≤ 500) ∧ n ≤ 8 ∧
  (∀ es : List Nat, ws = endsW es → es.Pairwise (· < ·) → (∀ e ∈ es, e < n) → ∀ t H', Keep p H H' → H t = none → H' t = some (.tup (nats es)) → Q (.ref t) H') ∧
  (ws[0]? ≠ some enW → InvE B p H E i 0) ∧
  (∀ es : List Nat, ws.take (es.length + 1) = endsW es → es.length + 1 < ws.length → es.Pairwise (· < ·) → (∀ e ∈ es, e < n) → (∀ e : Nat, ws[es.length + 1]? = some (numW (e : Nat)) → ¬ (leastOf es ≤ e ∧ e < n)) → InvE B p H E i (es.length + 1))
theorem least_snoc (es : List Nat) (e : Nat) : leastOf (es ++ [e]) = e + 1 := by
  unfold leastOf
  rw [List.getLast?_append]
  rfl
theorem asc_snoc {es : List Nat} {e : Nat} (h : es.Pairwise (· < ·)) (hl : leastOf es ≤ e) : (es ++ [e]).Pairwise (· < ·) := by
  refine List.pairwise_append.mpr ⟨h, .cons (fun _ h => nomatch h) .nil, fun a ha b hb => ?_⟩
  rw [List.mem_singleton.mp hb]
  unfold leastOf at hl
  cases hg : es.getLast? with
  | none =>
    have := List.getLast?_eq_none_iff.mp hg
    subst this
    cases ha
  | some x =>
    rw [hg] at hl
    have hl : x + 1 ≤ e := hl
    obtain ⟨ys, rfl⟩ := List.getLast?_eq_some_iff.mp hg
    rcases List.mem_append.mp ha with h1 | h1
    · have := (List.pairwise_append.mp h).2.2 a h1 x (List.mem_singleton.mpr rfl)
      omega
    · rw [List.mem_singleton.mp h1]
      omega
theorem asc_len {n : Nat} {es : List Nat} (h : es.Pairwise (· < ·)) (hb : ∀ e ∈ es, e < n) : es.length ≤ n := by
  have h2 : es.Nodup := h.imp fun h => Nat.ne_of_lt h
  have h3 : es ⊆ List.range n := fun e he => List.mem_range.mpr (hb e he)
  have := nodup_sub h2 h3
  rw [List.length_range] at this
  exact this
section
variable {P : Program} {w : World} {K : PySem.W.Frag} {mg : Str → Option Value} {base : Heap}
theorem ok_read_ends_bad (T : Txt K mg) : FnOk P w K mg base (L2.CX P w) 7 T.a_read_ends T.fd_read_ends ["line", "stands"] (sp_rendsG T.c_LineReader T.c_InvalidText) := by
  refine T.F_read_ends.okX sc_read_ends (fun vs H Q E h => ?_) (fun cdv A outer s H vs Q E hr h => ?_)
  · obtain ⟨p, l, i, n, ws, rfl, _⟩ := h
    rfl
  · obtain ⟨p, l, i, n, ws, rfl, hl, hws, n8, kq, k0, k1⟩ := h
    obtain ⟨dx, e1, e2, h9, hj, hw⟩ := id hl
    refine ⟨_, (pss_cons (ps_expr (pe_methX (pv 0) T.cl_LineReader T.h_LineReader_take (ok_LineReader_take_bad T) (hr.mono (by decide)) T.b_LineReader_take (fun σ => passAt (takes_of rfl rfl rfl rfl) σ) (pa_cons (pe_tup (pa_cons pe_str pa_nil)) pa_nil)))
  (pss_cons (ps_set (i := 2) sc_read_ends.nd rfl (Or.inl rfl) (pe_lst pa_nil))
  (pss_cons (ps_set (i := 3) sc_read_ends.nd rfl (Or.inl rfl) pe_int)
  (pss_cons (ps_while (passes_of rfl) (pt_not (pt_truth (pe_meth0 (pv 0) T.cl_LineReader T.h_LineReader_is_over (ok_LineReader_is_over T) (hr.mono (by decide)) T.b_LineReader_is_over .nil passL) (fun _ => rfl)))
  (pss_cons (ps_set (i := 4) sc_read_ends.nd rfl (Or.inl rfl) (pe_methX (pv 0) T.cl_LineReader T.h_LineReader_take_number (ok_LineReader_take_number_bad T) (hr.mono (by decide)) T.b_LineReader_take_number (fun σ => passAt (takes_of rfl rfl rfl rfl) σ) (pa_cons (pv 3) (pa_cons (pe_op op_sub (pv 1) pe_int) pa_nil))))
  (pss_cons (ps_expr (pe_bm PySem.F.plainAttrs_list PySem.F.slot_list_append PySem.F.type_list_append mt_append (pv 2) (pa_cons (pv 4) pa_nil)))
  (pss_one (ps_set (i := 3) sc_read_ends.nd rfl (Or.inl rfl) (pe_op op_add (pv 4) pe_int))))))
  (pss_one (ps_ret (pe_callTy call_tuple_of (by rfl) T.z_tuple PySem.Pv.boot_tuple (pa_cons (pv 2) pa_nil)))))))), ?_⟩
    walk_at "begin"
    walk_at "go"
    refine k_methX ?_
    walk_at "go"
    refine ⟨p, dx, _, rfl, e1, rfl, ?_⟩
    walk_at "go"
    refine ⟨(by decide : 1 ≤ sizeLine), fun q hq => ?_⟩
    refine k_nil ?_
    have zq := Same.new (o := .tup [.str "ends"]) hq
    have eq := upd_same (H := H) (a := q) (o := .tup [.str "ends"])
    generalize upd H q (.tup [.str "ends"]) = H1 at zq eq
    refine ⟨p, l, q, i, ws, 0, [.str "ends"], rfl, ⟨dx, zq _ _ e1, zq _ _ e2, h9, hj, hw⟩, .inr (SqT.of eq), by rfl, fun w0 ew hin H2 z2 hl2 => ?_, fun hno => ?_⟩
    · rw [← enW_s, in_one] at hin
      have ew0 := of_decide_eq_true hin
      subst ew0
      have kk := (Keep.of_same zq).trans z2
      walk_at "go"
      refine ⟨(by decide : 0 ≤ sizeLine), fun B hB => ?_⟩
      walk_at "go"
      obtain ⟨dx2, e12, e22, h92, hj2, hw2⟩ := id hl2
      have nBp : B ≠ p := (ne_of_none e12 hB).symm
      have nBl : l ≠ B := ne_of_none e22 hB
      have hB0 : H B = none := kk.free nBp hB
      have t1 : ws.take 1 = endsW [] := by
        match ws, ew with
        | a :: r, ew => cases ew; rfl
      refine k_whl (fun q σ H' => ∃ (es : List Nat) (a4 : Option V), q = 100 - es.length ∧ es.Pairwise (· < ·) ∧ (∀ e ∈ es, e < n) ∧ ws.take (es.length + 1) = endsW es ∧ Keep p H H' ∧ LrP T.c_LineReader H' p l i ws (es.length + 1) ∧ H' B = some (.lst (nats es)) ∧
        σ = [some (.ref p), some (.int (n : Nat)), some (.ref B), some (.int (leastOf es : Nat)), a4]) ⟨_, [], none, rfl, .nil, (fun e h => by cases h), t1, kk.mut hB0, ⟨dx2, by rw [upd_ne nBp.symm]; exact e12, by rw [upd_ne nBl]; exact e22, h92, hj2, hw2⟩, upd_same, rfl⟩ ?_ ?_
      · rintro q0 σ H3 ⟨es, a4, rfl, asc, hb, tk, k3, hl3, eB, rfl⟩
        obtain ⟨dx3, e13, e23, h93, hj3, hw3⟩ := id hl3
        have le := asc_len asc hb
        walk_at "go"
        refine k_meth ?_
        walk_at "go"
        refine ⟨p, dx3, _, rfl, e13, rfl, ?_⟩
        walk_at "go"
        refine ⟨p, l, i, ws, es.length + 1, rfl, hl3, ?_⟩
        by_cases c : es.length + 1 = ws.length
        · rw [decide_eq_true c]
          refine ⟨true, rfl, ?_⟩
          refine iteF ?_
          walk_at "go"
          refine ⟨B, _, rfl, .inl ⟨SqL.of eB, fun t ht => ?_⟩⟩
          rw [c, List.take_length] at tk
          have n1 : t ≠ p := (ne_of_none e13 ht).symm
          exact kq es tk asc hb t _ (k3.trans (Keep.new ht)) (k3.free n1 ht) upd_same
        · rw [decide_eq_false c]
          refine ⟨false, rfl, ?_⟩
          refine iteT ?_
          walk_at "go"
          refine k_methX ?_
          walk_at "go"
          refine ⟨p, dx3, _, rfl, e13, rfl, ?_⟩
          walk_at "go"
          have jl : es.length + 1 < ws.length := by omega
          refine ⟨p, l, i, ws, es.length + 1, _, _, rfl, hl3, hws, by omega, small_dig (by omega) (by omega), fun e en h1 h2 H4 k4 hl4 => ?_, fun hno => ?_⟩
          · obtain ⟨e, rfl⟩ := Int.eq_ofNat_of_zero_le (show 0 ≤ e by omega)
            have eB4 := k4 _ _ nBp eB
            walk_at "go"
            refine ⟨.inl ⟨rfl, _, SqL.of eB4⟩, ?_⟩
            walk_at "go"
            refine k_append eB4 (Nat.lt_of_le_of_lt (show _ ≤ 8 by unfold nats; rw [List.length_map]; omega) (by decide)) ?_
            walk_at "go"
            obtain ⟨dx4, e14, e24, h94, hj4, hw4⟩ := hl4
            have la : (es ++ [e]).length = es.length + 1 := by rw [List.length_append]; rfl
            refine ⟨100 - (es ++ [e]).length, by omega, es ++ [e], some (.int (e : Nat)), rfl, asc_snoc asc (by omega), ?_, ?_, (k3.trans k4).mut hB0, ⟨dx4, by rw [upd_ne nBp.symm, la]; exact e14, by rw [upd_ne nBl]; exact e24, h94, by rw [la]; exact hj4, hw4⟩, ?_, ?_⟩
            · intro x hx
              rcases List.mem_append.mp hx with hx | hx
              · exact hb x hx
              · rw [List.mem_singleton.mp hx]; omega
            · rw [la, List.take_add_one, tk, en]
              unfold endsW
              rw [List.map_append]
              rfl
            · rw [upd_same]
              unfold nats
              rw [List.map_append]
              rfl
            · rw [least_snoc]
              rfl
          · exact (k1 es tk jl asc hb fun e en h => hno (e : Nat) en ⟨by omega, by omega⟩).keep k3
      · rintro σ H R R' hR ⟨v, ev, a, dx, fs, rfl, ea, el, p, l, i, ws, k, evs, hl, j, tj, q⟩
        exact ⟨_, ev, a, dx, fs, rfl, ea, el, p, l, i, ws, k, evs, hl, j, tj, hR _ _ q⟩
    · refine (k0 fun e => ?_).keep (Keep.of_same zq)
      have := hno _ e
      rw [← enW_s, in_one, decide_eq_true rfl] at this
      cases this
end
/-! ### a line of a step, read or refused -/
/-- the letters that may follow -/
def lettersOk (b0 : Nat) (l0 : Wd) (b c : Nat) : Prop := 97 ≤ c ∧ c ≤ 100 ∧ (b0 < b ∨ l0 < [c])
def sp_rstepG (K : PySem.W.Frag) (C B : Addr) : Sp := fun vs H Q E => ∃ (p l a : Addr) (i n b0 : Nat) (l0 : Wd) (ws : List Wd), vs = [.ref p, .int (n : Nat), .ref a] ∧ LrP C H p l i ws 0 ∧ (∀ w ∈ ws, w.length ≤ 500) ∧ n ≤ 8 ∧ SqT K H a [.int (b0 : Nat), .str (sOf l0)] ∧
  (∀ s : Stp, ws = wStep s → s.Ok n → b0 ≤ s.b → lettersOk b0 l0 s.b s.c → ∀ q H', Keep p H H' → H q = none → H' q = some (.tup (stpV s)) → Q (.ref q) H') ∧
  (ws[0]? ≠ some spwW → InvE B p H E i 0) ∧
  (ws[0]? = some spwW → (∀ b : Nat, ws[1]? = some (numW (b : Nat)) → ¬ (b0 ≤ b ∧ b < n)) → InvE B p H E i 1) ∧
  (∀ b : Nat, ws[0]? = some spwW → ws[1]? = some (numW (b : Nat)) → b0 ≤ b → b < n → (∀ c, ws[2]? = some [c] → ¬ lettersOk b0 l0 b c) → InvE B p H E i 2) ∧
  (∀ b c : Nat, ws[0]? = some spwW → ws[1]? = some (numW (b : Nat)) → b0 ≤ b → b < n → ws[2]? = some [c] → lettersOk b0 l0 b c → (∀ e : Nat, ws[3]? = some (numW (e : Nat)) → ¬ e < n) → InvE B p H E i 3) ∧
  (∀ b c e : Nat, ws[0]? = some spwW → ws[1]? = some (numW (b : Nat)) → b0 ≤ b → b < n → ws[2]? = some [c] → lettersOk b0 l0 b c → ws[3]? = some (numW (e : Nat)) → e < n → (∀ g : Int, ws[4]? = some (numW g) → ¬ (-(10 ^ 30) ≤ g ∧ g ≤ 10 ^ 30)) → InvE B p H E i 4) ∧
  (∀ (b c e : Nat) (g : Int), ws[0]? = some spwW → ws[1]? = some (numW (b : Nat)) → b0 ≤ b → b < n → ws[2]? = some [c] → lettersOk b0 l0 b c → ws[3]? = some (numW (e : Nat)) → e < n → ws[4]? = some (numW g) → -(10 ^ 30) ≤ g → g ≤ 10 ^ 30 → ws.length ≠ 5 → InvE B p H E i 5)
/-- the letters of abcd that may follow, as values -/
def okLets (b0 : Nat) (l0 : Wd) (b : Nat) (i : Nat) : List Nat := (([97, 98, 99, 100] : List Nat).take i).filter fun c => decide (b0 < b) || decide (l0 < [c])
def ltV (l : List Nat) : List V := l.map fun c => V.str ⟨#[c]⟩
theorem inV_lt (w : Wd) (l : List Nat) : inV (.str (sOf w)) (ltV l) = true ↔ ∃ c ∈ l, w = [c] := by
  unfold inV ltV
  rw [List.any_eq_true]
  constructor
  · rintro ⟨v, hv, e⟩
    obtain ⟨c, hc, rfl⟩ := List.mem_map.mp hv
    refine ⟨c, hc, ?_⟩
    have e : ((⟨#[c]⟩ : Str) == sOf w) = true := e
    have e := eq_of_beq e
    exact (sOf_inj (v := [c]) (w := w) e).symm
  · rintro ⟨c, hc, rfl⟩
    exact ⟨_, List.mem_map.mpr ⟨c, hc, rfl⟩, by show ((⟨#[c]⟩ : Str) == (⟨#[c]⟩ : Str)) = true; exact beq_self_eq_true _⟩
theorem flat_lt (l : List Nat) : (ltV l).all flatV = true := by
  unfold ltV
  rw [List.all_eq_true]
  intro v hv
  obtain ⟨c, _, rfl⟩ := List.mem_map.mp hv
  rfl
theorem okLets_mem {b0 : Nat} {l0 : Wd} {b c : Nat} : c ∈ okLets b0 l0 b 4 ↔ lettersOk b0 l0 b c := by
  unfold okLets lettersOk
  rw [List.mem_filter, show (([97, 98, 99, 100] : List Nat).take 4) = [97, 98, 99, 100] from rfl, Bool.or_eq_true, decide_eq_true_iff, decide_eq_true_iff]
  constructor
  · rintro ⟨h1, h2⟩
    simp only [List.mem_cons, List.not_mem_nil, or_false] at h1
    exact ⟨by omega, by omega, h2⟩
  · rintro ⟨h1, h2, h3⟩
    refine ⟨?_, h3⟩
    simp only [List.mem_cons, List.not_mem_nil, or_false]
    omega
/-! ### a line of a step: the reading -/
section
variable {P : Program} {w : World} {K : PySem.W.Frag} {mg : Str → Option Value} {base : Heap}
theorem ok_read_step_bad (T : Txt K mg) : FnOk P w K mg base (L2.CX P w) 7 T.a_read_step T.fd_read_step ["line", "stands", "ahead"] (sp_rstepG K T.c_LineReader T.c_InvalidText) := by
  refine T.F_read_step.okX sc_read_step (fun vs H Q E h => ?_) (fun cdv A outer s H vs Q E hr h => ?_)
  · obtain ⟨p, l, a, i, n, b0, l0, ws, rfl, _⟩ := h
    rfl
  · obtain ⟨p, l, a, i, n, b0, l0, ws, rfl, hl, hws, n8, ha, kq, k0, k1, k2, k3, k4, k5⟩ := h
    obtain ⟨dx, e1, e2, h9, hj, hw⟩ := id hl
    refine ⟨_, (pss_cons (ps_asg (pv 2) (pg_tup rfl (pgs_cons (pg_name (i := 3) sc_read_step.nd rfl (Or.inr rfl)) (pgs_cons (pg_name (i := 4) sc_read_step.nd rfl (Or.inr rfl)) pgs_nil))))
  (pss_cons (ps_expr (pe_methX (pv 0) T.cl_LineReader T.h_LineReader_take (ok_LineReader_take_bad T) (hr.mono (by decide)) T.b_LineReader_take (fun σ => passAt (takes_of rfl rfl rfl rfl) σ) (pa_cons (pe_tup (pa_cons pe_str pa_nil)) pa_nil)))
  (pss_cons (ps_set (i := 5) sc_read_step.nd rfl (Or.inr rfl) (pe_methX (pv 0) T.cl_LineReader T.h_LineReader_take_number (ok_LineReader_take_number_bad T) (hr.mono (by decide)) T.b_LineReader_take_number (fun σ => passAt (takes_of rfl rfl rfl rfl) σ) (pa_cons (pv 3) (pa_cons (pe_op op_sub (pv 1) pe_int) pa_nil))))
  (pss_cons (ps_set (i := 6) sc_read_step.nd rfl (Or.inl rfl) (pe_methX (pv 0) T.cl_LineReader T.h_LineReader_take (ok_LineReader_take_bad T) (hr.mono (by decide)) T.b_LineReader_take (fun σ => passAt (takes_of rfl rfl rfl rfl) σ) (pa_cons (pe_lc (own := [("later", 9)]) (g := (gName 9)) rfl sc_read_step.nd (pi_tup (pe_glob (by rfl) T.m_LETTERS T.r_LETTERS)) (blkOk_by (own := [("later", 9)]) (N := ["line", "stands", "ahead", "least", "last", "begun", "letter", "end", "gain", "later"]) (sc := defScope s_read_step) (by decide +kernel)) (fun _ _ _ _ _ => (pg_name (i := 9) sc_read_step.nd rfl (Or.inl rfl))) (fun _ _ _ _ _ => (pts_one (PW.pt (pw_or (pt_cmpR op_gt (pv 5) (pv 3) (nomark _)) (pw_or1 (pt_cmpR op_gt_str (pv 9) (pv 4) (nomark _))))))) (fun _ _ _ _ _ => (pv 9))) pa_nil)))
  (pss_cons (ps_set (i := 7) sc_read_step.nd rfl (Or.inl rfl) (pe_methX (pv 0) T.cl_LineReader T.h_LineReader_take_number (ok_LineReader_take_number_bad T) (hr.mono (by decide)) T.b_LineReader_take_number (fun σ => passAt (takes_of rfl rfl rfl rfl) σ) (pa_cons pe_int (pa_cons (pe_op op_sub (pv 1) pe_int) pa_nil))))
  (pss_cons (ps_set (i := 8) sc_read_step.nd rfl (Or.inl rfl) (pe_methX (pv 0) T.cl_LineReader T.h_LineReader_take_number (ok_LineReader_take_number_bad T) (hr.mono (by decide)) T.b_LineReader_take_number (fun σ => passAt (takes_of rfl rfl rfl rfl) σ) (pa_cons (pe_un un_neg (pe_glob (by rfl) T.m_MOST_GAIN T.r_MOST_GAIN)) (pa_cons (pe_glob (by rfl) T.m_MOST_GAIN T.r_MOST_GAIN) pa_nil))))
  (pss_cons (ps_expr (pe_methX0 (pv 0) T.cl_LineReader T.h_LineReader_finish (ok_LineReader_finish_bad T) (hr.mono (by decide)) T.b_LineReader_finish (fun σ => passAt (takes_of rfl rfl rfl rfl) σ)))
  (pss_one (ps_ret (pe_tup (pa_cons (pv 5) (pa_cons (pv 6) (pa_cons (pv 7) (pa_cons (pv 8) pa_nil)))))))))))))), ?_⟩
    walk_at "begin"
    walk_at "go"
    refine k_gt ha rfl ?_
    walk_at "go"
    refine k_methX ?_
    walk_at "go"
    refine ⟨p, dx, _, rfl, e1, rfl, ?_⟩
    walk_at "go"
    refine ⟨(by decide : 1 ≤ sizeLine), fun q hq => ?_⟩
    refine k_nil ?_
    have zq := Same.new (o := .tup [.str "step"]) hq
    have eq := upd_same (H := H) (a := q) (o := .tup [.str "step"])
    generalize upd H q (.tup [.str "step"]) = H1 at zq eq
    refine ⟨p, l, q, i, ws, 0, [.str "step"], rfl, ⟨dx, zq _ _ e1, zq _ _ e2, h9, hj, hw⟩, .inr (SqT.of eq), by rfl, fun w0 ew0 hin H2 z2 hl2 => ?_, fun hno => ?_⟩
    · rw [← spwW_s, in_one] at hin
      have hw0 := of_decide_eq_true hin
      subst hw0
      have kk2 := (Keep.of_same zq).trans z2
      walk_at "go"
      refine k_methX ?_
      walk_at "go"
      obtain ⟨dx2, e12, e22, h92, hj2, hw2⟩ := id hl2
      refine ⟨p, dx2, _, rfl, e12, rfl, ?_⟩
      walk_at "go"
      refine ⟨p, l, i, ws, 1, _, _, rfl, hl2, hws, by omega, small_dig (by omega) (by omega), fun b eb b1 b2 H3 z3 hl3 => ?_, fun hno => (k1 ew0 fun b e h => hno (b : Nat) e ⟨by omega, by omega⟩).keep kk2⟩
      obtain ⟨b, rfl⟩ := Int.eq_ofNat_of_zero_le (show 0 ≤ b by omega)
      have kk3 := kk2.trans z3
      walk_at "go"
      refine k_methX ?_
      walk_at "go"
      obtain ⟨dx3, e13, e23, h93, hj3, hw3⟩ := id hl3
      refine ⟨p, dx3, _, rfl, e13, rfl, ?_⟩
      walk_at "go"
      refine ⟨T.a_LETTERS, rfl, ⟨_, T.s_LETTERS _⟩, fun D hD => ?_⟩
      refine lc_tup (xs := [V.str "a", V.str "b", V.str "c", V.str "d"]) (fun j H' => Same H3 H' ∧ H' D = some (.lst (ltV (okLets b0 l0 b j)))) ⟨Same.new hD, upd_same⟩ (fun _ _ _ _ => T.s_LETTERS _) ?_ ?_
      · rintro j y H4 hy ⟨z4, e4⟩
        have hy' : j < 4 ∧ y = .str ⟨#[97 + j]⟩ ∧ ([97, 98, 99, 100] : List Nat)[j]? = some (97 + j) := by
          match j, hy with
          | 0, hy => exact ⟨by decide, (Option.some.inj hy).symm, rfl⟩
          | 1, hy => exact ⟨by decide, (Option.some.inj hy).symm, rfl⟩
          | 2, hy => exact ⟨by decide, (Option.some.inj hy).symm, rfl⟩
          | 3, hy => exact ⟨by decide, (Option.some.inj hy).symm, rfl⟩
          | j + 4, hy => cases hy
        obtain ⟨j4, rfl, ej⟩ := hy'
        have tk : okLets b0 l0 b (j + 1) = okLets b0 l0 b j ++ (if (decide (b0 < b) || decide (l0 < [97 + j])) = true then [97 + j] else []) := by
          unfold okLets
          rw [List.take_add_one, ej, List.filter_append]
          congr 1
          show List.filter _ [97 + j] = _
          rw [List.filter_cons]
          rfl
        have lo : (okLets b0 l0 b j).length ≤ 4 := Nat.le_trans (List.length_filter_le _ _) (by rw [List.length_take]; exact Nat.min_le_right _ _)
        rw [tk]
        have hadd : (decide (b0 < b) || decide (l0 < [97 + j])) = true → ∃ acc, H4 D = some (.lst acc) ∧ acc.length < sizeLine ∧ Same H3 (upd H4 D (.lst (acc ++ [.str ⟨#[97 + j]⟩]))) ∧ (upd H4 D (.lst (acc ++ [.str ⟨#[97 + j]⟩]))) D = some (.lst (ltV (okLets b0 l0 b j ++ (if (decide (b0 < b) || decide (l0 < [97 + j])) = true then [97 + j] else [])))) := fun h => by
          refine ⟨_, e4, Nat.lt_of_le_of_lt (show _ ≤ 4 by unfold ltV; rw [List.length_map]; exact lo) (by decide), Same.mut z4 hD, ?_⟩
          rw [upd_same, if_pos h]
          unfold ltV
          rw [List.map_append]
          rfl
        walk_at "go"
        refine ⟨rfl, ?_⟩
        walk_at "go"
        refine k_ite (fun c => ?_) (fun c => ?_)
        · refine iteT ?_
          walk_at "go"
          exact hadd (by rw [decide_eq_true (show b0 < b by omega)]; rfl)
        · walk_at "go"
          refine ⟨_, _, rfl, rfl, ?_⟩
          walk_at "go"
          refine k_ite (fun c2 => ?_) (fun c2 => ?_)
          · walk_at "go"
            exact hadd (by rw [Bool.or_eq_true]; exact .inr (decide_eq_true c2))
          · refine ⟨z4, ?_⟩
            rw [if_neg (by
              rw [Bool.or_eq_true]
              rintro (h | h)
              · exact c (by have := of_decide_eq_true h; omega)
              · exact c2 (of_decide_eq_true h)), List.append_nil]
            exact e4
      · rintro H4 ⟨z4, e4⟩
        have kk4 := kk3.trans (Keep.of_same z4)
        refine k_nil ?_
        refine ⟨p, l, D, i, ws, 2, ltV (okLets b0 l0 b 4), rfl, ⟨dx3, z4 _ _ e13, z4 _ _ e23, h93, hj3, hw3⟩, .inl (SqL.of e4), flat_lt _, fun w2 ew2 hin2 H5 z5 hl5 => ?_, fun hno => ?_⟩
        · obtain ⟨c, hc, rfl⟩ := (inV_lt _ _).mp hin2
          have lc := okLets_mem.mp hc
          have kk5 := kk4.trans z5
          walk_at "go"
          refine k_methX ?_
          walk_at "go"
          obtain ⟨dx5, e15, e25, h95, hj5, hw5⟩ := id hl5
          refine ⟨p, dx5, _, rfl, e15, rfl, ?_⟩
          walk_at "go"
          refine ⟨p, l, i, ws, 3, _, _, rfl, hl5, hws, by omega, small_dig (by decide) (by omega), fun e ee e01 e02 H6 z6 hl6 => ?_, fun hno => (k3 b c ew0 eb (by omega) (by omega) ew2 lc fun e he h => hno (e : Nat) he ⟨by omega, by omega⟩).keep kk5⟩
          obtain ⟨e, rfl⟩ := Int.eq_ofNat_of_zero_le e01
          have kk6 := kk5.trans z6
          walk_at "go"
          refine k_methX ?_
          walk_at "go"
          obtain ⟨dx6, e16, e26, h96, hj6, hw6⟩ := id hl6
          refine ⟨p, dx6, _, rfl, e16, rfl, ?_⟩
          walk_at "go"
          refine ⟨p, l, i, ws, 4, _, _, rfl, hl6, hws, by decide, fun g g1 g2 => by rw [show ((1000000000000000000000000000000 : Int)) = 10 ^ 30 by decide, big_len]; exact digW_len (by omega), fun g eg g1 g2 H7 z7 hl7 => ?_, fun hno => (k4 b c e ew0 eb (by omega) (by omega) ew2 lc ee (by omega) fun g hg h => hno g hg ⟨by omega, by omega⟩).keep kk6⟩
          have kk7 := kk6.trans z7
          walk_at "go"
          refine k_methX ?_
          walk_at "go"
          obtain ⟨dx7, e17, e27, h97, hj7, hw7⟩ := id hl7
          refine ⟨p, dx7, _, rfl, e17, rfl, ?_⟩
          refine k_nil ?_
          refine ⟨p, l, i, ws, 5, rfl, hl7, fun h5 => ?_, fun h5 => (k5 b c e g ew0 eb (by omega) (by omega) ew2 lc ee (by omega) eg (by omega) (by omega) (Ne.symm h5)).keep kk7⟩
          walk_at "go"
          refine ⟨(by decide : 4 ≤ sizeLine), fun t ht => ?_⟩
          have nt : t ≠ p := (ne_of_none e17 ht).symm
          refine kq ⟨b, c, e, g⟩ ?_ ⟨show b < n by omega, lc.1, lc.2.1, show e < n by omega, by show -(10 ^ 30) ≤ g; omega, by show g ≤ 10 ^ 30; omega⟩ (show b0 ≤ b by omega) lc t _ (kk7.trans (Keep.new ht)) (kk7.free nt ht) upd_same
          match ws, h5, ew0, eb, ew2, ee, eg with
          | [a0, a1, a2, a3, a4], _, ew0, eb, ew2, ee, eg => cases ew0; cases eb; cases ew2; cases ee; cases eg; rfl
        · refine (k2 b ew0 eb (by omega) (by omega) fun c ec h => ?_).keep kk4
          have := hno [c] ec
          rw [(inV_lt _ _).mpr ⟨c, okLets_mem.mpr h, rfl⟩] at this
          cases this
    · refine (k0 fun e => ?_).keep (Keep.of_same zq)
      have := hno _ e
      rw [← spwW_s, in_one, decide_eq_true rfl] at this
      cases this
end
/-! ### a reader made, its line known -/
theorem spl_len : ∀ (z acc : Wd), (TL.spl [32] 0 acc z).length ≤ z.length + 1
  | [], acc => by rw [TL.spl_nil]; exact Nat.le_refl _
  | c :: z, acc => by
    cases h : TL.pre [32] (c :: z) with
    | true =>
      rw [TL.spl_hit h]
      show (TL.spl [32] 0 [] z).length + 1 ≤ _
      have := spl_len z []
      rw [List.length_cons]
      omega
    | false =>
      rw [TL.spl_miss h]
      have := spl_len z (acc ++ [c])
      rw [List.length_cons]
      omega
def sp_lrG (C : Addr) : Sp := fun vs H Q _ => ∃ (p dx : Addr) (i : Nat) (z : Wd), vs = [.ref p, .int (i : Nat), .str (sOf z)] ∧ i < 10 ^ 9 ∧ z.length ≤ 10000 ∧ H p = some (.ins C dx []) ∧ ∀ l H', Keep p H H' → H l = none → LrP C H' p l i (wordsL z) 0 → Q .non H'
section
variable {P : Program} {w : World} {K : PySem.W.Frag} {mg : Str → Option Value} {base : Heap}
theorem ok_LineReader_init (T : Txt K mg) : FnOk P w K mg base (L2.CX P w) 1 T.a_LineReader_init T.fd_LineReader_init ["self", "place", "words"] (sp_lrG T.c_LineReader) := by
  refine T.F_LineReader_init.okX sc_LineReader_init (fun vs H Q E h => ?_) (fun cdv A outer s H vs Q E hr h => ?_)
  · obtain ⟨p, dx, i, z, rfl, _⟩ := h
    rfl
  · obtain ⟨p, dx, i, z, rfl, i9, lz, hp, k⟩ := h
    refine ⟨_, (PSs.nox (pss_cons (ps_fld (pv 0) (pv 1) rfl)
  (pss_cons (ps_fld (pv 0) (pe_lc (own := [("word", 3)]) (g := (gName 3)) rfl sc_LineReader_init.nd (pi_list (pe_split (pv 2) pe_str)) (blkOk_by (own := [("word", 3)]) (N := ["self", "place", "words", "word"]) (sc := defScope s_LineReader_init) (by decide +kernel)) (fun _ _ _ _ _ => (pg_name (i := 3) sc_LineReader_init.nd rfl (Or.inl rfl))) (fun _ _ _ _ _ => (pts_one (pt_cmpR op_ne (pv 3) pe_str (nomark _)))) (fun _ _ _ _ _ => (pv 3))) rfl)
  (pss_one (ps_fld (pv 0) pe_int rfl))))), ?_⟩
    walk_at "begin"
    walk_at "go"
    refine ⟨_, rfl, _, rfl, p, _, dx, _, rfl, hp, T.cl_LineReader, T.n__place, (by decide : 0 < 1000), ?_⟩
    walk_at "go"
    refine k_lc ?_
    walk_at "go"
    have k1 : Keep p H (upd H p (.ins T.c_LineReader dx (putF "_place" (.int (i : Nat)) []))) := Keep.at_
    have p1 : (upd H p (.ins T.c_LineReader dx (putF "_place" (.int (i : Nat)) []))) p = some (.ins T.c_LineReader dx (putF "_place" (.int (i : Nat)) [])) := upd_same
    generalize upd H p (.ins T.c_LineReader dx (putF "_place" (.int (i : Nat)) [])) = H1 at k1 p1
    refine ⟨_, rfl, ⟨_, rfl⟩, sOf z, " ", rfl, rfl, rfl, by rw [sOf_len]; exact Nat.le_trans (show z.length + 2 ≤ 10002 by omega) (by decide), fun q hq => ?_⟩
    have e0 : (Txt.split (sOf z) " ").map V.str = wsV (TL.spl [32] 0 [] z) := by rw [split_sp, List.map_map]; rfl
    rw [e0]
    obtain ⟨ps, hps⟩ : ∃ ps, ps = TL.spl [32] 0 [] z := ⟨_, rfl⟩
    have lps : ps.length ≤ 10001 := by
      rw [hps]
      exact Nat.le_trans (spl_len z []) (by omega)
    have hw : wordsL z = ps.filter fun w => !w.isEmpty := by rw [hps]; rfl
    rw [← hps]
    rw [hw] at k
    clear hps hw e0
    have zq := Same.new (o := .lst (wsV ps)) hq
    have eq := upd_same (H := H1) (a := q) (o := .lst (wsV ps))
    generalize upd H1 q (.lst (wsV ps)) = H2 at zq eq
    refine ⟨q, rfl, ⟨_, SqL.of eq⟩, fun B hB => ?_⟩
    refine lc_list (xs := wsV ps) (fun i H' => Same H2 H' ∧ H' B = some (.lst (wsV ((ps.take i).filter fun w => !w.isEmpty)))) ⟨Same.new hB, upd_same⟩ (fun i H' _ ⟨z, _⟩ => SqL.of (z _ _ eq)) ?_ ?_
    · rintro i y H3 hy ⟨z3, e3⟩
      have il : i < ps.length := by
        have := (List.getElem?_eq_some_iff.mp hy).1
        unfold wsV at this
        rwa [List.length_map] at this
      have ei : ps[i]? = some (ps[i]'il) := List.getElem?_eq_getElem il
      obtain rfl : y = V.str (sOf (ps[i]'il)) := by
        unfold wsV at hy
        rw [List.getElem?_map, ei] at hy
        exact (Option.some.inj hy).symm
      have tk : ((ps.take (i + 1)).filter fun w => !w.isEmpty) = ((ps.take i).filter fun w => !w.isEmpty) ++ (if !(ps[i]'il).isEmpty then [ps[i]'il] else []) := by
        rw [List.take_add_one, ei, List.filter_append]
        congr 1
        show List.filter _ [ps[i]'il] = _
        rw [List.filter_cons]
        rfl
      rw [tk]
      have ll : ((ps.take i).filter fun w => !w.isEmpty).length ≤ 10001 := Nat.le_trans (List.length_filter_le _ _) (by rw [List.length_take]; omega)
      generalize ps[i]'il = w0
      walk_at "go"
      refine ⟨rfl, ?_⟩
      walk_at "go"
      rw [sOf_empty]
      cases w0 with
      | nil =>
        refine iteF ?_
        exact ⟨z3, by rw [if_neg (by decide), List.append_nil]; exact e3⟩
      | cons c w0 =>
        refine iteT ?_
        walk_at "go"
        refine ⟨_, e3, Nat.lt_of_le_of_lt (show _ ≤ 10001 by unfold wsV; rw [List.length_map]; exact ll) (by decide), Same.mut z3 hB, ?_⟩
        rw [upd_same]
        unfold wsV
        rw [List.map_append]
        rfl
    · rintro H3 ⟨z3, e3⟩
      have ell : (wsV ps).length = ps.length := by unfold wsV; rw [List.length_map]
      rw [ell, List.take_length] at e3
      have p3 := z3 _ _ (zq _ _ p1)
      have nBp : B ≠ p := fun z => by rw [z, zq _ _ p1] at hB; cases hB
      refine ⟨_, rfl, p, _, dx, _, rfl, p3, T.cl_LineReader, T.n__words, few 1 (by decide) (length_putF _ _ _), ?_⟩
      walk_at "go"
      refine ⟨_, rfl, p, _, dx, _, rfl, upd_same, T.cl_LineReader, T.n__taken, few 2 (by decide) (Nat.le_trans (length_putF _ _ _) (Nat.succ_le_succ (length_putF _ _ _))), ?_⟩
      have hB1 : H1 B = none := free_of zq hB
      refine k B _ ((k1.trans (Keep.of_same (zq.trans z3))).trans (Keep.at_.trans Keep.at_)) (k1.free nBp hB1) ⟨dx, upd_same, by rw [upd_ne nBp, upd_ne nBp]; exact e3, i9, Nat.zero_le _, Nat.lt_of_le_of_lt (Nat.le_trans (List.length_filter_le _ _) lps) (by decide)⟩
end
/-! ### what of a text cannot stand first -/
/-- the small number that a word says -/
def decW (w : Wd) : Nat := ((List.range 9).find? fun e : Nat => decide (numW (e : Nat) = w)).getD 0
theorem decW_num {e : Nat} (h : e < 9) : decW (numW (e : Nat)) = e := by
  have z : ∀ e, e < 9 → decW (numW (e : Nat)) = e := by decide +kernel
  exact z e h
def nextB (ws : List Wd) : Nat := decW (ws.getD 1 [])
def nextL (ws : List Wd) : Wd := ws.getD 2 []
open Classical in
/-- the first word of a step's line that cannot stand, 0: all can -/
noncomputable def stepF (n b0 : Nat) (l0 : Wd) (ws : List Wd) : Nat :=
  if ws[0]? ≠ some spwW then 1
  else if ¬ ∃ b : Nat, ws[1]? = some (numW (b : Nat)) ∧ b0 ≤ b ∧ b < n then 2
  else if ¬ ∃ b c : Nat, ws[1]? = some (numW (b : Nat)) ∧ ws[2]? = some [c] ∧ lettersOk b0 l0 b c then 3
  else if ¬ ∃ e : Nat, ws[3]? = some (numW (e : Nat)) ∧ e < n then 4
  else if ¬ ∃ g : Int, ws[4]? = some (numW g) ∧ -(10 ^ 30) ≤ g ∧ g ≤ 10 ^ 30 then 5
  else if ws.length ≠ 5 then 6 else 0
noncomputable def stepsF (n : Nat) : Nat → Nat → Wd → List (List Wd) → Option (Nat × Nat)
  | _, _, _, [] => none
  | i, b0, l0, ws :: r => if stepF n b0 l0 ws = 0 then stepsF n (i + 1) (nextB ws) (nextL ws) r else some (i, stepF n b0 l0 ws)
open Classical in
noncomputable def endsF (n : Nat) : Nat → Nat → List Wd → Option Nat
  | _, _, [] => none
  | lo, k, w :: r => if ∃ e : Nat, w = numW (e : Nat) ∧ lo ≤ e ∧ e < n then endsF n (decW w + 1) (k + 1) r else some k
open Classical in
/-- the first line and word that cannot stand -/
noncomputable def textF (wss : List (List Wd)) : Option (Nat × Nat) :=
  if (wss.getD 0 [])[0]? ≠ some stW then some (1, 1)
  else if ¬ ∃ n : Nat, (wss.getD 0 [])[1]? = some (numW (n : Nat)) ∧ 1 ≤ n ∧ n ≤ 8 then some (1, 2)
  else if (wss.getD 0 []).length ≠ 2 then some (1, 3)
  else if (wss.getD 1 [])[0]? ≠ some enW then some (2, 1)
  else match endsF (nextB (wss.getD 0 [])) 0 2 ((wss.getD 1 []).drop 1) with
    | some k => some (2, k)
    | none => stepsF (nextB (wss.getD 0 [])) 3 0 [] (wss.drop 2)
theorem textF_11 {wss : List (List Wd)} (h : (wss.getD 0 [])[0]? ≠ some stW) : textF wss = some (1, 1) := if_pos h
theorem textF_12 {wss : List (List Wd)} (h0 : (wss.getD 0 [])[0]? = some stW) (h : ∀ n : Nat, (wss.getD 0 [])[1]? = some (numW (n : Nat)) → ¬ (1 ≤ n ∧ n ≤ 8)) : textF wss = some (1, 2) := by
  unfold textF
  rw [if_neg (fun z => z h0), if_pos (fun ⟨n, a, b⟩ => h n a b)]
theorem textF_13 {wss : List (List Wd)} (h0 : (wss.getD 0 [])[0]? = some stW) {n : Nat} (h1 : (wss.getD 0 [])[1]? = some (numW (n : Nat))) (n1 : 1 ≤ n) (n8 : n ≤ 8) (h : (wss.getD 0 []).length ≠ 2) : textF wss = some (1, 3) := by
  unfold textF
  rw [if_neg (fun z => z h0), if_neg (fun z => z ⟨n, h1, n1, n8⟩), if_pos h]
theorem nextB_num {n : Nat} (n8 : n ≤ 8) {ws : List Wd} (h : ws[1]? = some (numW (n : Nat))) : nextB ws = n := by
  unfold nextB
  rw [List.getD_eq_getElem?_getD, h]
  exact decW_num (by omega)
/-- the first line is right -/
structure Fst (wss : List (List Wd)) (n : Nat) : Prop where
  h : wss.getD 0 [] = [stW, numW (n : Nat)]
  n1 : 1 ≤ n
  n8 : n ≤ 8
theorem textF_21 {wss : List (List Wd)} {n : Nat} (f : Fst wss n) (h : (wss.getD 1 [])[0]? ≠ some enW) : textF wss = some (2, 1) := by
  unfold textF
  rw [f.h, if_neg (fun z => z rfl), if_neg (fun z => z ⟨n, rfl, f.n1, f.n8⟩), if_neg (fun z => z rfl), if_pos h]
theorem textF_2k {wss : List (List Wd)} {n k : Nat} (f : Fst wss n) (h : (wss.getD 1 [])[0]? = some enW) (he : endsF n 0 2 ((wss.getD 1 []).drop 1) = some k) : textF wss = some (2, k) := by
  unfold textF
  rw [f.h, if_neg (fun z => z rfl), if_neg (fun z => z ⟨n, rfl, f.n1, f.n8⟩), if_neg (fun z => z rfl), if_neg (fun z => z h), nextB_num f.n8 (show ([stW, numW (n : Nat)] : List Wd)[1]? = some (numW (n : Nat)) from rfl), he]
theorem textF_3 {wss : List (List Wd)} {n : Nat} (f : Fst wss n) (h : (wss.getD 1 [])[0]? = some enW) (he : endsF n 0 2 ((wss.getD 1 []).drop 1) = none) : textF wss = stepsF n 3 0 [] (wss.drop 2) := by
  unfold textF
  rw [f.h, if_neg (fun z => z rfl), if_neg (fun z => z ⟨n, rfl, f.n1, f.n8⟩), if_neg (fun z => z rfl), if_neg (fun z => z h), nextB_num f.n8 (show ([stW, numW (n : Nat)] : List Wd)[1]? = some (numW (n : Nat)) from rfl), he]
theorem textF_one {w0 : List Wd} : textF [w0, []] = textF [w0] := rfl
/-! the ends -/
theorem endsF_take {n : Nat} (n8 : n ≤ 8) (rest : List Wd) : ∀ (es : List Nat) (lo k : Nat), es.Pairwise (· < ·) → (∀ e ∈ es, e < n) → (∀ e ∈ es, lo ≤ e) →
    endsF n lo k ((es.map fun e => numW ((e : Nat) : Int)) ++ rest) = endsF n ((es.getLast?.map (· + 1)).getD lo) (k + es.length) rest
  | [], lo, k, _, _, _ => rfl
  | e :: es, lo, k, h1, h2, h3 => by
    have p := List.pairwise_cons.mp h1
    have e1 := h2 e List.mem_cons_self
    have e2 := h3 e List.mem_cons_self
    have ih := endsF_take n8 rest es (e + 1) (k + 1) p.2 (fun x hx => h2 x (List.mem_cons_of_mem _ hx)) (fun x hx => p.1 x hx)
    show endsF n lo k (numW ((e : Nat) : Int) :: ((es.map fun e => numW ((e : Nat) : Int)) ++ rest)) = _
    have step : endsF n lo k (numW ((e : Nat) : Int) :: ((es.map fun e => numW ((e : Nat) : Int)) ++ rest)) = endsF n (decW (numW ((e : Nat) : Int)) + 1) (k + 1) ((es.map fun e => numW ((e : Nat) : Int)) ++ rest) := if_pos ⟨e, rfl, e2, e1⟩
    rw [step, decW_num (by omega), ih, List.length_cons, Nat.add_right_comm k 1, Nat.add_assoc k]
    congr 1
    cases es with
    | nil => rfl
    | cons a r => rw [List.getLast?_cons_cons]; exact (by
        cases h : (a :: r).getLast? with
        | none => exact absurd (List.getLast?_eq_none_iff.mp h) (List.cons_ne_nil _ _)
        | some x => rfl)
theorem last_least (es : List Nat) : (es.getLast?.map (· + 1)).getD 0 = leastOf es := by
  unfold leastOf
  cases es.getLast? <;> rfl
theorem endsF_bad {n : Nat} (n8 : n ≤ 8) {ws : List Wd} {es : List Nat} (tk : ws.take (es.length + 1) = endsW es) (lt : es.length + 1 < ws.length) (asc : es.Pairwise (· < ·)) (hb : ∀ e ∈ es, e < n)
    (hno : ∀ e : Nat, ws[es.length + 1]? = some (numW (e : Nat)) → ¬ (leastOf es ≤ e ∧ e < n)) : endsF n 0 2 (ws.drop 1) = some (es.length + 2) := by
  have e1 : ws.drop 1 = (es.map fun e => numW ((e : Nat) : Int)) ++ ws.drop (es.length + 1) := by
    have : ws = endsW es ++ ws.drop (es.length + 1) := by rw [← tk, List.take_append_drop]
    conv => lhs; rw [this]
    rfl
  rw [e1, endsF_take n8 _ _ _ _ asc hb (fun _ _ => Nat.zero_le _), last_least, List.drop_eq_getElem_cons lt]
  have ew : ws[es.length + 1]? = some (ws[es.length + 1]'lt) := List.getElem?_eq_getElem lt
  rw [Nat.add_comm 2]
  exact if_neg fun ⟨e, a, b, c⟩ => hno e (by rw [ew, a]) ⟨b, c⟩
theorem endsF_good {n : Nat} (n8 : n ≤ 8) {ws : List Wd} {es : List Nat} (h : ws = endsW es) (asc : es.Pairwise (· < ·)) (hb : ∀ e ∈ es, e < n) : endsF n 0 2 (ws.drop 1) = none := by
  subst h
  have := endsF_take n8 [] es 0 2 asc hb (fun _ _ => Nat.zero_le _)
  rw [List.append_nil] at this
  exact this
/-! a step's line -/
section
variable {n b0 : Nat} {l0 : Wd} {ws : List Wd}
theorem stepF_1 (h : ws[0]? ≠ some spwW) : stepF n b0 l0 ws = 1 := if_pos h
theorem stepF_2 (h0 : ws[0]? = some spwW) (h : ∀ b : Nat, ws[1]? = some (numW (b : Nat)) → ¬ (b0 ≤ b ∧ b < n)) : stepF n b0 l0 ws = 2 := by
  unfold stepF
  rw [if_neg (fun z => z h0), if_pos (fun ⟨b, a, c⟩ => h b a c)]
section
variable {b : Nat} (h0 : ws[0]? = some spwW) (h1 : ws[1]? = some (numW (b : Nat))) (b1 : b0 ≤ b) (b2 : b < n)
include h0 h1 b1 b2
theorem stepF_3 (h : ∀ c, ws[2]? = some [c] → ¬ lettersOk b0 l0 b c) : stepF n b0 l0 ws = 3 := by
  unfold stepF
  rw [if_neg (fun z => z h0), if_neg (fun z => z ⟨b, h1, b1, b2⟩), if_pos]
  rintro ⟨b', c, a1, a2, a3⟩
  rw [h1] at a1
  have : b = b' := Int.ofNat_inj.mp (numW_inj (Option.some.inj a1))
  subst this
  exact h c a2 a3
variable {c : Nat} (h2 : ws[2]? = some [c]) (hc : lettersOk b0 l0 b c)
include h2 hc
theorem stepF_4 (h : ∀ e : Nat, ws[3]? = some (numW (e : Nat)) → ¬ e < n) : stepF n b0 l0 ws = 4 := by
  unfold stepF
  rw [if_neg (fun z => z h0), if_neg (fun z => z ⟨b, h1, b1, b2⟩), if_neg (fun z => z ⟨b, c, h1, h2, hc⟩), if_pos (fun ⟨e, a, d⟩ => h e a d)]
variable {e : Nat} (h3 : ws[3]? = some (numW (e : Nat))) (he : e < n)
include h3 he
theorem stepF_5 (h : ∀ g : Int, ws[4]? = some (numW g) → ¬ (-(10 ^ 30) ≤ g ∧ g ≤ 10 ^ 30)) : stepF n b0 l0 ws = 5 := by
  unfold stepF
  rw [if_neg (fun z => z h0), if_neg (fun z => z ⟨b, h1, b1, b2⟩), if_neg (fun z => z ⟨b, c, h1, h2, hc⟩), if_neg (fun z => z ⟨e, h3, he⟩), if_pos (fun ⟨g, a, d⟩ => h g a d)]
variable {g : Int} (h4 : ws[4]? = some (numW g)) (g1 : -(10 ^ 30) ≤ g) (g2 : g ≤ 10 ^ 30)
include h4 g1 g2
theorem stepF_6 (h : ws.length ≠ 5) : stepF n b0 l0 ws = 6 := by
  unfold stepF
  rw [if_neg (fun z => z h0), if_neg (fun z => z ⟨b, h1, b1, b2⟩), if_neg (fun z => z ⟨b, c, h1, h2, hc⟩), if_neg (fun z => z ⟨e, h3, he⟩), if_neg (fun z => z ⟨g, h4, g1, g2⟩), if_pos h]
theorem stepF_0 (h : ws.length = 5) : stepF n b0 l0 ws = 0 := by
  unfold stepF
  rw [if_neg (fun z => z h0), if_neg (fun z => z ⟨b, h1, b1, b2⟩), if_neg (fun z => z ⟨b, c, h1, h2, hc⟩), if_neg (fun z => z ⟨e, h3, he⟩), if_neg (fun z => z ⟨g, h4, g1, g2⟩), if_neg (fun z => z h)]
end
end
theorem stepF_good {n b0 : Nat} {l0 : Wd} {s : Stp} (o : s.Ok n) (hb : b0 ≤ s.b) (hl : lettersOk b0 l0 s.b s.c) : stepF n b0 l0 (wStep s) = 0 :=
  stepF_0 (ws := wStep s) rfl rfl hb o.b rfl hl rfl o.e rfl o.g o.g' rfl
theorem stepsF_bad {n i b0 : Nat} {l0 : Wd} {ws : List Wd} {r : List (List Wd)} {k : Nat} (h : stepF n b0 l0 ws = k + 1) : stepsF n i b0 l0 (ws :: r) = some (i, k + 1) := by
  show (if _ then _ else _) = _
  rw [if_neg (by omega), h]
theorem stepsF_go {n i b0 : Nat} {l0 : Wd} {ws : List Wd} {r : List (List Wd)} (h : stepF n b0 l0 ws = 0) : stepsF n i b0 l0 (ws :: r) = stepsF n (i + 1) (nextB ws) (nextL ws) r := if_pos h
theorem next_step {n : Nat} (n8 : n ≤ 8) {s : Stp} (o : s.Ok n) : nextB (wStep s) = s.b ∧ nextL (wStep s) = [s.c] := ⟨nextB_num (by have := o.b; omega) rfl, rfl⟩
/-! the steps that were read are a machine's -/
/-- the stand and the letter behind steps that were read -/
def ahS (done : List Stp) : Nat × Wd := match done.getLast? with
  | none => (0, [])
  | some s => (s.b, [s.c])
theorem ahS_snoc (d : List Stp) (s : Stp) : ahS (d ++ [s]) = (s.b, [s.c]) := by
  unfold ahS
  rw [List.getLast?_append]
  rfl
structure DoneOk (n : Nat) (done : List Stp) : Prop where
  ok : ∀ s ∈ done, s.Ok n
  up : done.Pairwise Stp.lt
theorem lt_code {n : Nat} {s t : Stp} (os : s.Ok n) (ot : t.Ok n) (h : s.lt t) : s.b * 4 + (s.c - 97) < t.b * 4 + (t.c - 97) := by
  have := os.c; have := os.c'; have := ot.c; have := ot.c'
  rcases h with h | ⟨h1, h2⟩ <;> omega
theorem DoneOk.len {n : Nat} {done : List Stp} (h : DoneOk n done) (n8 : n ≤ 8) : done.length ≤ 32 := by
  have h2 : (done.map fun s => s.b * 4 + (s.c - 97)).Nodup := by
    refine List.pairwise_map.mpr ?_
    have : ∀ d : List Stp, (∀ s ∈ d, s.Ok n) → d.Pairwise Stp.lt → d.Pairwise fun s t => s.b * 4 + (s.c - 97) ≠ t.b * 4 + (t.c - 97) := by
      intro d ho hp
      induction hp with
      | nil => exact .nil
      | @cons a l ha _ ih => exact .cons (fun t ht => Nat.ne_of_lt (lt_code (ho a List.mem_cons_self) (ho t (List.mem_cons_of_mem _ ht)) (ha t ht))) (ih fun s hs => ho s (List.mem_cons_of_mem _ hs))
    exact this done h.ok h.up
  have h3 : (done.map fun s => s.b * 4 + (s.c - 97)) ⊆ List.range 32 := fun x hx => by
    obtain ⟨s, hs, rfl⟩ := List.mem_map.mp hx
    have o := h.ok s hs
    have := o.b; have := o.c; have := o.c'
    exact List.mem_range.mpr (by omega)
  have := nodup_sub h2 h3
  rw [List.length_range, List.length_map] at this
  exact this
theorem DoneOk.snoc {n : Nat} {done : List Stp} (h : DoneOk n done) {s : Stp} (o : s.Ok n) (hb : (ahS done).1 ≤ s.b) (hl : lettersOk (ahS done).1 (ahS done).2 s.b s.c) : DoneOk n (done ++ [s]) := by
  refine ⟨fun x hx => ?_, List.pairwise_append.mpr ⟨h.up, .cons (fun _ h => nomatch h) .nil, fun a ha b hb2 => ?_⟩⟩
  · rcases List.mem_append.mp hx with hx | hx
    · exact h.ok x hx
    · rw [List.mem_singleton.mp hx]; exact o
  · rw [List.mem_singleton.mp hb2]
    unfold ahS at hb hl
    cases hg : done.getLast? with
    | none =>
      have := List.getLast?_eq_none_iff.mp hg
      subst this
      cases ha
    | some x =>
      rw [hg] at hb hl
      have hb : x.b ≤ s.b := hb
      have hl2 : x.b < s.b ∨ ([x.c] : Wd) < [s.c] := hl.2.2
      have hx : x.lt s := by
        rcases hl2 with h1 | h1
        · exact .inl h1
        · by_cases c : x.b < s.b
          · exact .inl c
          · refine .inr ⟨by omega, ?_⟩
            rcases List.cons_lt_cons_iff.mp h1 with h | ⟨_, h⟩
            · exact h
            · cases h
      obtain ⟨ys, rfl⟩ := List.getLast?_eq_some_iff.mp hg
      rcases List.mem_append.mp ha with h1 | h1
      · have := (List.pairwise_append.mp h.up).2.2 a h1 x (List.mem_singleton.mpr rfl)
        have t1 := (h.ok a (List.mem_append_left _ h1))
        unfold Stp.lt at *
        omega
      · rw [List.mem_singleton.mp h1]
        exact hx
/-! ### a whole text read, or refused -/
/-- readers from the j-th on, none of their words taken -/
structure LnP (C : Addr) (H0 H : Hp) (B : Addr) (j : Nat) (us : List V) (wss : List (List Wd)) : Prop where
  len : us.length = wss.length
  nd : us.Nodup
  at_ : ∀ i ws, j ≤ i → wss[i]? = some ws → ∃ p l, us[i]? = some (V.ref p) ∧ LrP C H p l (i + 1) ws 0 ∧ l ≠ B ∧ H0 p = none
theorem Keep.tupsO {a : Addr} {H H' : Hp} {C dx : Addr} {fs : List (Str × V)} (k : Keep a H H') (ha : H a = some (.ins C dx fs)) : Tups H H' := ⟨fun b _ e => k _ _ (fun z => by rw [z, ha] at e; cases e) e, fun b _ _ e => k _ _ (fun z => by rw [z, ha] at e; cases e) e⟩
theorem LrP.same {C : Addr} {H H' : Hp} {p l : Addr} {i : Nat} {ws : List Wd} {k : Nat} (h : LrP C H p l i ws k) (z : Same H H') : LrP C H' p l i ws k := let ⟨dx, e1, e2, r⟩ := h; ⟨dx, z _ _ e1, z _ _ e2, r⟩
theorem LnP.same {C : Addr} {H0 H H' : Hp} {B : Addr} {j : Nat} {us : List V} {wss : List (List Wd)} (h : LnP C H0 H B j us wss) (z : Same H H') : LnP C H0 H' B j us wss :=
  ⟨h.len, h.nd, fun i ws hi e => let ⟨p, l, a, b, c, d⟩ := h.at_ i ws hi e; ⟨p, l, a, b.same z, c, d⟩⟩
theorem LnP.reB {C : Addr} {H0 H : Hp} {B S : Addr} {j : Nat} {us : List V} {wss : List (List Wd)} (h : LnP C H0 H B j us wss) (hS : H S = none) : LnP C H0 H S j us wss :=
  ⟨h.len, h.nd, fun i ws hi e => let ⟨p, l, a, ⟨dx, b1, b2, r⟩, _, d⟩ := h.at_ i ws hi e; ⟨p, l, a, ⟨dx, b1, b2, r⟩, ne_of_none b2 hS, d⟩⟩
theorem LnP.mut {C : Addr} {H0 H : Hp} {S : Addr} {xs ys : List V} {j : Nat} {us : List V} {wss : List (List Wd)} (h : LnP C H0 H S j us wss) (eS : H S = some (.lst xs)) : LnP C H0 (upd H S (.lst ys)) S j us wss :=
  ⟨h.len, h.nd, fun i ws hi e => by
    obtain ⟨p, l, a, ⟨dx, b1, b2, r⟩, n, d⟩ := h.at_ i ws hi e
    have n1 : p ≠ S := fun z => by rw [z, eS] at b1; cases b1
    exact ⟨p, l, a, ⟨dx, by rw [upd_ne n1]; exact b1, by rw [upd_ne n]; exact b2, r⟩, n, d⟩⟩
theorem LnP.next {C : Addr} {H0 H H' : Hp} {B p : Addr} {j : Nat} {us : List V} {wss : List (List Wd)} (h : LnP C H0 H B j us wss) (ej : us[j]? = some (V.ref p)) {dx : Addr} {fs : List (Str × V)} (ep : H p = some (.ins C dx fs)) (k : Keep p H H') : LnP C H0 H' B (j + 1) us wss :=
  ⟨h.len, h.nd, fun i ws hi e => by
    obtain ⟨p', l, a, ⟨dx', b1, b2, r⟩, n, d⟩ := h.at_ i ws (by omega) e
    have n1 : p' ≠ p := fun z => by
      rw [z] at a
      have h1 := (List.getElem?_eq_some_iff.mp a)
      have h2 := (List.getElem?_eq_some_iff.mp ej)
      obtain ⟨l1, h1⟩ := h1
      obtain ⟨l2, h2⟩ := h2
      exact List.pairwise_iff_getElem.mp h.nd j i l2 l1 (by omega) (h2.trans h1.symm)
    have n2 : l ≠ p := fun z => by rw [z, ep] at b2; cases b2
    exact ⟨p', l, a, ⟨dx', k _ _ n1 b1, k _ _ n2 b2, r⟩, n, d⟩⟩
theorem LnP.snoc {C : Addr} {H0 H H' : Hp} {B p l : Addr} {us : List V} {wss : List (List Wd)} {ws : List Wd} {xs ys : List V} {j : Nat} (h : LnP C H0 H B 0 us wss) (hp : H p = none) (hl : H l = none) (eB : H B = some (.lst xs)) (h0 : H0 p = none) (k : Same H H') (ej : wss.length + 1 = j) (hr : LrP C H' p l j ws 0) : LnP C H0 (upd H' B (.lst ys)) B 0 (us ++ [.ref p]) (wss ++ [ws]) := by
  refine LnP.mut (xs := xs) ⟨by rw [List.length_append, List.length_append, h.len]; rfl, ?_, fun i ws' hi e => ?_⟩ (k _ _ eB)
  · refine List.nodup_append.mpr ⟨h.nd, List.Pairwise.cons (fun _ h => nomatch h) .nil, fun a ha b hb => ?_⟩
    rw [List.mem_singleton.mp hb]
    rintro rfl
    obtain ⟨i, hi, ei⟩ := List.getElem_of_mem ha
    obtain ⟨p', l', a', ⟨dx, b1, _⟩, _⟩ := h.at_ i _ (Nat.zero_le _) (List.getElem?_eq_getElem (by rw [← h.len]; exact hi))
    rw [List.getElem?_eq_getElem hi, ei] at a'
    cases a'
    rw [hp] at b1
    cases b1
  · by_cases c : i < wss.length
    · rw [List.getElem?_append_left c] at e
      obtain ⟨p', l', a, b, n, d⟩ := h.at_ i ws' hi e
      exact ⟨p', l', by rw [List.getElem?_append_left (by rw [h.len]; exact c)]; exact a, b.same k, n, d⟩
    · rw [List.getElem?_append_right (by omega)] at e
      have z : i - wss.length = 0 := by
        have := (List.getElem?_eq_some_iff.mp e).1
        simp at this
        omega
      rw [z] at e
      cases e
      have ei : i + 1 = j := by omega
      exact ⟨p, l, by rw [List.getElem?_append_right (by rw [h.len]; omega), h.len, z]; rfl, by rw [ei]; exact hr, (ne_of_none eB hl).symm, h0⟩
theorem Keep.sameN {p : Addr} {H0 H H' : Hp} (z : Same H0 H) (hp : H0 p = none) (k : Keep p H H') : Same H0 H' := fun b o e => k b o (ne_of_none e hp) (z b o e)
/-- what is told of a text refused -/
def InvS (B : Addr) (H : Hp) (E : XK) (i k : Nat) : Prop := ∀ d H', Same H H' → H' d = some (.xd [("word", .int ((k + 1 : Nat))), ("line", .int (i : Nat))]) → E (.ref B) (some d) H'
theorem InvS.to {B p : Addr} {H H2 : Hp} {E : XK} {i k : Nat} (h : InvS B H E i k) (z : Same H H2) (hp : H p = none) : InvE B p H2 E i k := fun d H' k2 e => h d H' (Keep.sameN z hp k2) e
/-- lines of a text -/
structure LinesOf (wss : List (List Wd)) (zs : List Wd) : Prop where
  ws : zs.map wordsL = wss
  ne : zs ≠ []
  nl : ∀ z ∈ zs, 10 ∉ z
  sh : ∀ z ∈ zs, z.length ≤ 10000
  le : zs.length ≤ 100
  wl : ∀ ws ∈ wss, ∀ w ∈ ws, w.length ≤ 500
theorem split_lines {wss : List (List Wd)} {zs : List Wd} (h : LinesOf wss zs) : Txt.split (sOf (TL.joinL [10] zs)) "\n" = zs.map sOf := by
  refine TL.map_tl_inj ?_
  rw [TL.split_spl _ _ (by decide) (TL.kind_ok (by decide +kernel)), List.map_map]
  show TL.spl [10] 0 [] (TL.joinL [10] zs) = zs.map id
  rw [List.map_id]
  exact TL.spl_join h.ne h.nl
def sp_readG (K : PySem.W.Frag) (B : Addr) : Sp := fun vs H Q E => ∃ (wss : List (List Wd)) (zs : List Wd), vs = [.str (sOf (TL.joinL [10] zs))] ∧ LinesOf wss zs ∧ (TL.joinL [10] zs).length ≤ 1000000 ∧
  (textF wss = none → ∀ x H', Same H H' → Q (.ref x) H') ∧ (∀ i k, textF wss = some (i, k + 1) → InvS B H E i k)
theorem make_fin {K : PySem.W.Frag} {C : Addr} {H : Hp} {x dx t u : Addr} {m : MD} {Q : Hp → Prop} {E : XK} (hx : H x = none) (hdx : H dx = none) (ne : dx ≠ x) (hp : PartsAt K H t u m) (o : m.Ok) (k : ∀ H', Same H H' → MAt K C H' x m → Q H') :
    sp_init K C [.ref x, .int (m.n : Nat), .ref t, .ref u] (upd (upd H dx (.own x)) x (.ins C dx [])) (fun v H2 => v = .non ∧ Q H2) E := by
  have z3 : Same H (upd (upd H dx (.own x)) x (.ins C dx [])) := (Same.new hdx).trans (Same.new (by rw [upd_ne ne.symm]; exact hx))
  refine ⟨x, dx, t, u, m, rfl, upd_same, (same_tups z3).parts hp, o, fun H4 k4 e4 => ⟨rfl, ?_⟩⟩
  have z4 : Same H H4 := fun b ob e => k4 b ob (ne_of_none e hx) (z3 _ _ e)
  exact k H4 z4 ⟨dx, t, u, e4, (same_tups z4).parts hp⟩
theorem getD_some {α : Type} {l : List α} {i : Nat} {a d : α} (h : l[i]? = some a) : l.getD i d = a := by rw [List.getD_eq_getElem?_getD, h]; rfl
theorem take_first {es : List Nat} {ws : List Wd} (tk : ws.take (es.length + 1) = endsW es) : ws[0]? = some enW := by
  have h := congrArg (·[0]?) tk
  simp only [List.getElem?_take] at h
  rw [if_pos (Nat.succ_pos _)] at h
  exact h
section
variable {P : Program} {w : World} {K : PySem.W.Frag} {mg : Str → Option Value} {base : Heap}
theorem ok_read_bad (T : Txt K mg) : FnOk P w K mg base (L2.CX P w) 8 T.a_read T.fd_read ["text"] (sp_readG K T.c_InvalidText) := by
  refine T.F_read.okX sc_read (fun vs H Q E h => ?_) (fun cdv A outer s H vs Q E hr h => ?_)
  · obtain ⟨wss, zs, rfl, _⟩ := h
    rfl
  · obtain ⟨wss, zs, rfl, tx, zl, kN, kE⟩ := h
    have lz : zs.length = wss.length := by rw [← tx.ws, List.length_map]
    have l100 := tx.le
    have lne : 1 ≤ zs.length := List.length_pos_iff.mpr tx.ne
    refine ⟨_, (pss_cons (ps_setLc (i := 1) (own := [("index", 8), ("words", 9)]) (g := (gTup K 2 (gCons (gName 8) (gCons (gName 9) gNil)))) (tt := tYes) rfl sc_read.nd rfl rfl (sw_true rfl rfl rfl (by decide +kernel)) (pi_enum (by rfl) T.z_enumerate (pa_cons (pe_split (pv 0) pe_str) pa_nil)) (blkOk_by (own := [("index", 8), ("words", 9)]) (N := ["text", "lines", "stands", "ends", "steps", "ahead", "line", "step", "index", "words"]) (sc := defScope s_read) (by decide +kernel)) (fun _ _ _ _ _ => (pg_tup rfl (pgs_cons (pg_name (i := 8) sc_read.nd rfl (Or.inl rfl)) (pgs_cons (pg_name (i := 9) sc_read.nd rfl (Or.inl rfl)) pgs_nil)))) (fun _ _ _ _ _ => pts_nil) (fun _ _ _ _ _ => (pe_make T.mk_LineReader (ok_LineReader_init T) (hr.mono (by decide)) (by rfl) T.m_LineReader T.b_LineReader_init .nil passL (pa_cons (pe_op op_add (pv 8) pe_int) (pa_cons (pv 9) pa_nil)))))
  (C8.pss_cut (ps_if (pt_cmpR op_eq (pe_callB call_len_seq (by rfl) T.z_len PySem.boot_len (pa_cons (pv 1) pa_nil)) pe_int (nomark _))
  (pss_one (ps_expr (pe_bm PySem.F.plainAttrs_list PySem.F.slot_list_append PySem.F.type_list_append mt_append (pv 1) (pa_cons (pe_make T.mk_LineReader (ok_LineReader_init T) (hr.mono (by decide)) (by rfl) T.m_LineReader T.b_LineReader_init .nil passL (pa_cons pe_int (pa_cons pe_str pa_nil))) pa_nil))))
  pss_nil)
  (pss_cons (ps_set (i := 2) sc_read.nd rfl (Or.inl rfl) (pe_callS (ok_read_stands_bad T) (hr.mono (by decide)) (by rfl) T.m_read_stands T.k_read_stands T.b_read_stands (fun σ => passAt (takes_of rfl rfl rfl rfl) σ) (pa_cons (pe_ix ix_list (pv 1) pe_int (fun _ _ => rfl)) pa_nil)))
  (pss_cons (ps_set (i := 3) sc_read.nd rfl (Or.inl rfl) (pe_callS (ok_read_ends_bad T) (hr.mono (by decide)) (by rfl) T.m_read_ends T.k_read_ends T.b_read_ends (fun σ => passAt (takes_of rfl rfl rfl rfl) σ) (pa_cons (pe_ix ix_list (pv 1) pe_int (fun _ _ => rfl)) (pa_cons (pv 2) pa_nil))))
  (pss_cons (ps_set (i := 4) sc_read.nd rfl (Or.inl rfl) (pe_lst pa_nil))
  (pss_cons (ps_set (i := 5) sc_read.nd rfl (Or.inl rfl) (pe_tup (pa_cons pe_int (pa_cons pe_str pa_nil))))
  (pss_cons (ps_for (passes_of rfl) rfl (pi_list (pe_slice sl_list (pv 1) (po_some pe_int) po_none)) (pg_name (i := 6) sc_read.nd rfl (Or.inl rfl))
  (pss_cons (ps_set (i := 7) sc_read.nd rfl (Or.inl rfl) (pe_callS (ok_read_step_bad T) (hr.mono (by decide)) (by rfl) T.m_read_step T.k_read_step T.b_read_step (fun σ => passAt (takes_of rfl rfl rfl rfl) σ) (pa_cons (pv 6) (pa_cons (pv 2) (pa_cons (pv 5) pa_nil)))))
  (pss_cons (ps_expr (pe_bm PySem.F.plainAttrs_list PySem.F.slot_list_append PySem.F.type_list_append mt_append (pv 4) (pa_cons (pv 7) pa_nil)))
  (pss_one (ps_set (i := 5) sc_read.nd rfl (Or.inl rfl) (pe_slice sl_tupA (pv 7) po_none (po_some pe_int)))))))
  (pss_one (ps_ret (pe_make T.mk_Machine (ok_Machine_init T) (hr.mono (by decide)) (by rfl) T.m_Machine T.b_Machine_init .nil passL (pa_cons (pv 2) (pa_cons (pe_callTy call_tuple_of (by rfl) T.z_tuple PySem.Pv.boot_tuple (pa_cons (pv 4) pa_nil)) (pa_cons (pv 3) pa_nil))))))))))))), ?_⟩
    walk_at "begin"
    walk_at "go"
    refine ⟨_, rfl, ⟨_, rfl⟩, _, "\n", rfl, rfl, rfl, by rw [sOf_len]; exact Nat.le_trans (Nat.add_le_add_right zl 2) (by decide), fun q hq => ?_⟩
    have e0 : (Txt.split (sOf (TL.joinL [10] zs)) "\n").map V.str = wsV zs := by rw [split_lines tx, List.map_map]; rfl
    rw [e0]
    have zq := Same.new (o := .lst (wsV zs)) hq
    have eq := upd_same (H := H) (a := q) (o := .lst (wsV zs))
    generalize upd H q (.lst (wsV zs)) = H2 at zq eq
    refine k_nil ?_
    refine ⟨q, wsV zs, rfl, SqL.of eq, fun B hB => ?_⟩
    have lw : (wsV zs).length = zs.length := by unfold wsV; rw [List.length_map]
    have hB0 : H B = none := free_of zq hB
    refine lc_it walk_enum (fun i H' => Same H2 H' ∧ ∃ us, H' B = some (.lst us) ∧ LnP T.c_LineReader H H' B 0 us (wss.take i)) ⟨Same.new hB, [], upd_same, rfl, .nil, fun i ws _ e => by simp at e⟩ (fun i H' _ ⟨z, _⟩ => SqL.of (z _ _ eq)) ?_ ?_
    · rintro i y H3 H3' hi ⟨z3, us, e3, h3⟩ ⟨pt, a, b, rfl, hpt, rfl, ea, eb⟩
      rw [lw] at hi
      cases ea
      have ez : zs[i]? = some (zs[i]'hi) := List.getElem?_eq_getElem hi
      obtain rfl : b = .str (sOf (zs[i]'hi)) := by
        have eb' : (wsV zs)[i]? = some b := eb
        unfold wsV at eb'
        rw [List.getElem?_map, ez] at eb'
        exact (Option.some.inj eb').symm
      have ew : wss[i]? = some (wordsL (zs[i]'hi)) := by rw [← tx.ws, List.getElem?_map, ez]; rfl
      have tk : wss.take (i + 1) = wss.take i ++ [wordsL (zs[i]'hi)] := by rw [List.take_add_one, ew]; rfl
      have lt : (wss.take i).length + 1 = i + 1 := by rw [List.length_take]; omega
      rw [tk]
      have sh := tx.sh _ (List.getElem_mem hi)
      generalize zs[i]'hi = z0 at sh
      refine k_gt (SqT.of upd_same) rfl ?_
      walk_at "go"
      refine ⟨rfl, ?_⟩
      walk_at "go"
      refine iteT ?_
      walk_at "go"
      intro p dx hp hdx ne
      have zt := Same.new (o := .tup [.int (i : Nat), .str (sOf z0)]) hpt
      generalize upd H3 pt (.tup [.int (i : Nat), .str (sOf z0)]) = H5 at zt hp hdx
      have zn : Same H5 (upd (upd H5 dx (.own p)) p (.ins T.c_LineReader dx [])) := (Same.new hdx).trans (Same.new (by rw [upd_ne ne.symm]; exact hp))
      refine ⟨p, dx, i + 1, z0, rfl, by omega, sh, upd_same, fun l H4 k4 hl hr0 => ⟨rfl, ?_⟩⟩
      have z4 : Same H5 H4 := fun b ob e => k4 b ob (ne_of_none e hp) (zn _ _ e)
      have e5 := zt _ _ e3
      have hl5 : H5 l = none := free_of zn hl
      have hp0 : H p = none := free_of (zq.trans (z3.trans zt)) hp
      refine ⟨us, z4 _ _ e5, Nat.lt_of_le_of_lt (show us.length ≤ 100 by rw [h3.len, List.length_take]; omega) (by decide), Same.mut (z3.trans (zt.trans z4)) hB, _, upd_same, (h3.same zt).snoc hp hl5 e5 hp0 z4 lt hr0⟩
    rintro H3 ⟨z3, us, e3, h3⟩
    rw [lw, lz, List.take_length] at h3
    have zH : Same H H3 := zq.trans z3
    clear zq eq hq z3 hB
    walk_at "go"
    refine k_cut (fun σ' H' => ∃ us wss2, Same H H' ∧ H' B = some (.lst us) ∧ LnP T.c_LineReader H H' B 0 us wss2 ∧ textF wss2 = textF wss ∧ 2 ≤ wss2.length ∧ wss2.length ≤ 101 ∧ (∀ ws ∈ wss2, ∀ w ∈ ws, w.length ≤ 500) ∧ σ' = [some (.str (sOf (TL.joinL [10] zs))), some (.ref B), none, none, none, none, none, none, none, none]) ?_ ?_
    · walk_at "go"
      refine ⟨B, us, rfl, .inl (SqL.of e3), ?_⟩
      walk_at "go"
      by_cases c : us.length = 1
      · rw [decide_eq_true (show V.int (us.length : Nat) = V.int 1 by rw [c]; rfl)]
        refine iteT ?_
        walk_at "go"
        refine ⟨.inl ⟨rfl, _, SqL.of e3⟩, ?_⟩
        walk_at "go"
        intro p2 dx2 hp2 hdx2 ne2
        have zn : Same H3 (upd (upd H3 dx2 (.own p2)) p2 (.ins T.c_LineReader dx2 [])) := (Same.new hdx2).trans (Same.new (by rw [upd_ne ne2.symm]; exact hp2))
        refine ⟨p2, dx2, 2, [], rfl, by decide, Nat.zero_le _, upd_same, fun l2 H4 k4 hl2 hr2 => ⟨rfl, ?_⟩⟩
        have z4 : Same H3 H4 := fun b ob e => k4 b ob (ne_of_none e hp2) (zn _ _ e)
        refine k_nil ?_
        refine k_append (z4 _ _ e3) (by rw [c]; decide) ?_
        have w1 : wss.length = 1 := by rw [← h3.len, c]
        refine ⟨us ++ [.ref p2], wss ++ [[]], Same.mut (zH.trans z4) hB0, upd_same, h3.snoc hp2 (free_of zn hl2) e3 (free_of zH hp2) z4 (by rw [w1]) hr2, ?_, ?_, ?_, ?_, rfl⟩
        · match wss, w1 with
          | [w0], _ => exact textF_one
        · rw [List.length_append, w1]; exact Nat.le_refl _
        · rw [List.length_append, w1]; decide
        · intro ws hws v hv
          rcases List.mem_append.mp hws with h | h
          · exact tx.wl ws h v hv
          · rw [List.mem_singleton.mp h] at hv; cases hv
      · rw [decide_eq_false (show ¬ V.int (us.length : Nat) = V.int 1 from fun z => by injection z with z; omega)]
        refine iteF ?_
        have := h3.len
        exact ⟨us, wss, zH, e3, h3, rfl, by omega, by omega, tx.wl, rfl⟩
    · clear e3 h3 zH
      rintro σ' H3 ⟨us, wss2, zH, e3, h3, et, l2, l101, wl, rfl⟩
      rw [← et] at kN kE
      clear et
      have lu := h3.len
      walk_at "go"
      have ew0 : wss2[0]? = some (wss2[0]'(by omega)) := List.getElem?_eq_getElem _
      have hw0 := wl _ (List.getElem_mem (show 0 < wss2.length by omega))
      generalize wss2[0]'(by omega) = w0 at ew0 hw0
      have g0 : wss2.getD 0 [] = w0 := getD_some ew0
      obtain ⟨p0, l0, ep0, hr0, _, hp0⟩ := h3.at_ 0 _ (Nat.le_refl _) ew0
      refine k_callS ?_
      walk_at "go"
      refine k_ixL (SqL.of e3) (atI_nat ep0) ?_
      walk_at "go"
      obtain ⟨dx0, ea0, _⟩ := id hr0
      refine ⟨p0, l0, 1, w0, rfl, hr0, hw0, fun n en n1 n8 H4 k4 => ?_, fun h => (kE 1 0 (textF_11 (by rw [g0]; exact h))).to zH hp0, fun h h2 => (kE 1 1 (textF_12 (by rw [g0]; exact h) (by rw [g0]; exact h2))).to zH hp0, fun h ⟨n, h1, h2, h3⟩ h4 => (kE 1 2 (textF_13 (by rw [g0]; exact h) (by rw [g0]; exact h1) h2 h3 (by rw [g0]; exact h4))).to zH hp0⟩
      have f : Fst wss2 n := ⟨by rw [g0, en], n1, n8⟩
      have z4 := Keep.sameN zH hp0 k4
      have h4 := h3.next ep0 ea0 k4
      have e4 := k4 _ _ (fun z => by rw [z, ea0] at e3; cases e3) e3
      clear h3 e3 zH k4 ea0 hr0 hp0 ep0 ew0 hw0 g0 en
      walk_at "go"
      have ew1 : wss2[1]? = some (wss2[1]'(by omega)) := List.getElem?_eq_getElem _
      have hw1 := wl _ (List.getElem_mem (show 1 < wss2.length by omega))
      generalize wss2[1]'(by omega) = w1 at ew1 hw1
      have g1 : wss2.getD 1 [] = w1 := getD_some ew1
      obtain ⟨p1, l1, ep1, hr1, _, hp1⟩ := h4.at_ 1 _ (Nat.le_refl _) ew1
      refine k_callS ?_
      walk_at "go"
      refine k_ixL (SqL.of e4) (atI_nat ep1) ?_
      walk_at "go"
      obtain ⟨dx1, ea1, _⟩ := id hr1
      refine ⟨p1, l1, 2, n, w1, rfl, hr1, hw1, n8, fun es ees asc hbe t H5 k5 nt et => ?_, fun h => (kE 2 0 (textF_21 f (by rw [g1]; exact h))).to z4 hp1, fun es tk lt asc hbe hno => (kE 2 (es.length + 1) (textF_2k f (by rw [g1]; exact take_first tk) (by rw [g1]; exact endsF_bad n8 tk lt asc hbe hno))).to z4 hp1⟩
      have tF : textF wss2 = stepsF n 3 0 [] (wss2.drop 2) := textF_3 f (by rw [g1, ees]; rfl) (by rw [g1]; exact endsF_good n8 ees asc hbe)
      have z5 := Keep.sameN z4 hp1 k5
      have h5 := h4.next ep1 ea1 k5
      have e5 := k5 _ _ (fun z => by rw [z, ea1] at e4; cases e4) e4
      clear h4 e4 z4 k5 ea1 hr1 hp1 ep1 ew1 hw1 g1 ees
      walk_at "go"
      refine ⟨(by decide : 0 ≤ sizeLine), fun S hS => ?_⟩
      have nSB : B ≠ S := ne_of_none e5 hS
      have h6 := (h5.reB hS).same (Same.new (o := .lst []) hS)
      have z6 := z5.trans (Same.new (o := .lst []) hS)
      have et6 := (Same.new (o := .lst []) hS) _ _ et
      have e6 := (Same.new (o := .lst []) hS) _ _ e5
      have eS : (upd H5 S (.lst [])) S = some (.lst []) := upd_same
      have hS0 : H S = none := free_of z5 hS
      generalize upd H5 S (.lst []) = H6 at h6 z6 et6 e6 eS
      clear h5 e5 z5 et hS
      walk_at "go"
      refine ⟨(by decide : 2 ≤ sizeLine), fun a ha => ?_⟩
      have za := Same.new (o := .tup [.int 0, .str ""]) ha
      have ea : (upd H6 a (.tup [.int 0, .str ""])) a = some (.tup [.int 0, .str ""]) := upd_same
      generalize upd H6 a (.tup [.int 0, .str ""]) = H7 at za ea
      replace h6 := h6.same za
      replace z6 := z6.trans za
      replace et6 := za _ _ et6
      replace e6 := za _ _ e6
      replace eS := za _ _ eS
      clear za ha
      walk_at "go"
      refine ⟨B, us, rfl, SqL.of e6, fun L hL => ?_⟩
      rw [show cutV us (some 2) none = us.drop 2 from cutV_drop us 2]
      have zL := Same.new (o := .lst (us.drop 2)) hL
      have eL : (upd H7 L (.lst (us.drop 2))) L = some (.lst (us.drop 2)) := upd_same
      have nLS : L ≠ S := (ne_of_none eS hL).symm
      generalize upd H7 L (.lst (us.drop 2)) = H8 at zL eL
      replace h6 := h6.same zL
      replace z6 := z6.trans zL
      replace et6 := zL _ _ et6
      replace eS := zL _ _ eS
      replace ea := zL _ _ ea
      clear zL hL e6
      have ld : (us.drop 2).length = wss2.length - 2 := by rw [List.length_drop, lu]
      refine ⟨L, rfl, ⟨_, SqL.of eL⟩, for_list (xs := us.drop 2) (fun i σ H' => Same H H' ∧ H' L = some (.lst (us.drop 2)) ∧ LnP T.c_LineReader H H' S (i + 2) us wss2 ∧ SqT K H' t (nats es) ∧ ∃ (vs : List V) (a : Addr) (done : List Stp) (a6 a7 : Option V), H' S = some (.lst vs) ∧ StpsAt K H' vs done ∧ DoneOk n done ∧ SqT K H' a [.int ((ahS done).1 : Nat), .str (sOf (ahS done).2)] ∧ textF wss2 = stepsF n (i + 3) (ahS done).1 (ahS done).2 (wss2.drop (i + 2)) ∧
        σ = [some (.str (sOf (TL.joinL [10] zs))), some (.ref B), some (.int (n : Nat)), some (.ref t), some (.ref S), some (.ref a), a6, a7, none, none]) ⟨z6, eL, h6, SqT.of et6, [], a, [], none, none, eS, ⟨rfl, fun i s e => (by cases e)⟩, ⟨(fun s h => by cases h), .nil⟩, SqT.of ea, tF, rfl⟩ (fun i σ H' _ ⟨_, e, _⟩ => SqL.of e) ?_ ?_⟩
      · clear h6 z6 et6 eS ea eL
        rintro i x σ H9 hx ⟨z9, e9, h9, ht9, vs, a, done, a6, a7, eS, hvs, hdo, ha, hF, rfl⟩
        have il : i + 2 < wss2.length := by have := (List.getElem?_eq_some_iff.mp hx).1; omega
        have ew : wss2[i + 2]? = some (wss2[i + 2]'il) := List.getElem?_eq_getElem il
        have hwi := wl _ (List.getElem_mem il)
        have dc : wss2.drop (i + 2) = wss2[i + 2]'il :: wss2.drop (i + 3) := List.drop_eq_getElem_cons il
        generalize wss2[i + 2]'il = ws at ew hwi dc
        rw [dc] at hF
        obtain ⟨p, l, ep, hr, nlS, hp0⟩ := h9.at_ (i + 2) _ (Nat.le_refl _) ew
        rw [List.getElem?_drop, Nat.add_comm, ep] at hx
        cases hx
        have l32 := hdo.len n8
        have lv : vs.length ≤ 32 := by rw [hvs.1]; exact l32
        obtain ⟨dxp, eap, _⟩ := id hr
        have bad : ∀ k, stepF n (ahS done).1 (ahS done).2 ws = k + 1 → InvE T.c_InvalidText p H9 _ (i + 3) k := fun k h => (kE (i + 3) k (by rw [hF]; exact stepsF_bad h)).to z9 hp0
        walk_at "go"
        refine k_callS ?_
        walk_at "go"
        refine ⟨p, l, a, i + 3, n, (ahS done).1, (ahS done).2, ws, rfl, hr, hwi, n8, ha, fun s es os hb hl q H10 k10 nq eq => ?_, fun h => bad 0 (stepF_1 h), fun h0 h => bad 1 (stepF_2 h0 h), fun b h0 h1 b1 b2 h => bad 2 (stepF_3 h0 h1 b1 b2 h), fun b c h0 h1 b1 b2 h2 hc h => bad 3 (stepF_4 h0 h1 b1 b2 h2 hc h), fun b c e h0 h1 b1 b2 h2 hc h3 he h => bad 4 (stepF_5 h0 h1 b1 b2 h2 hc h3 he h), fun b c e g h0 h1 b1 b2 h2 hc h3 he h4 g1 g2 h => bad 5 (stepF_6 h0 h1 b1 b2 h2 hc h3 he h4 g1 g2 h)⟩
        subst es
        rw [stepsF_go (stepF_good os hb hl), (next_step n8 os).1, (next_step n8 os).2] at hF
        have t10 := k10.tupsO eap
        have eS10 := k10 _ _ (fun z => by rw [z, eap] at eS; cases eS) eS
        have eL10 := k10 _ _ (fun z => by rw [z, eap] at e9; cases e9) e9
        have h10 := h9.next ep eap k10
        have z10 := Keep.sameN z9 hp0 k10
        walk_at "go"
        refine ⟨.inl ⟨rfl, _, SqL.of eS10⟩, ?_⟩
        walk_at "go"
        refine k_append eS10 (Nat.lt_of_le_of_lt lv (by decide)) ?_
        have tS := Tups.lst (o := .lst (vs ++ [.ref q])) eS10
        have h11 := h10.mut (ys := vs ++ [.ref q]) eS10
        have z11 : Same H (upd H10 S (.lst (vs ++ [.ref q]))) := Same.mut z10 hS0
        have eL11 : (upd H10 S (.lst (vs ++ [.ref q]))) L = some (.lst (us.drop 2)) := by rw [upd_ne nLS]; exact eL10
        have eS11 : (upd H10 S (.lst (vs ++ [.ref q]))) S = some (.lst (vs ++ [.ref q])) := upd_same
        have hq11 := tS.sq (SqT.of (K := K) eq)
        have hv11 : StpsAt K (upd H10 S (.lst (vs ++ [.ref q]))) (vs ++ [.ref q]) (done ++ [s]) := tS.steps ((t10.steps hvs).snoc (s := s) (SqT.of eq))
        have ht11 := tS.sq (t10.sq ht9)
        generalize upd H10 S (.lst (vs ++ [.ref q])) = H11 at h11 z11 eL11 eS11 hq11 hv11 ht11
        walk_at "go"
        refine k_slA2 hq11 fun a2 na2 => ?_
        have z12 := Same.new (o := .tup [.int (s.b : Nat), .str ⟨#[s.c]⟩]) na2
        refine ⟨z11.trans z12, z12 _ _ eL11, h11.same z12, (same_tups z12).sq ht11, _, a2, done ++ [s], _, _, z12 _ _ eS11, (same_tups z12).steps hv11, hdo.snoc os hb hl, ?_, ?_, rfl⟩
        · rw [ahS_snoc]
          exact SqT.of upd_same
        · rw [ahS_snoc]
          exact hF
      · clear h6 z6 et6 eS ea eL
        rintro σ H9 ⟨z9, e9, h9, ht9, vs, a, done, a6, a7, eS, hvs, hdo, ha, hF, rfl⟩
        rw [ld, show wss2.length - 2 + 2 = wss2.length by omega, List.drop_length] at hF
        have o : (⟨n, done, es⟩ : MD).Ok := ⟨f.n1, n8, hdo.ok, hdo.up, hdo.len n8, hbe, asc, Nat.le_trans (asc_len asc hbe) n8⟩
        walk_at "go"
        refine ⟨S, vs, rfl, .inl ⟨SqL.of eS, fun t2 ht2 => ?_⟩⟩
        walk_at "go"
        intro y dy hy hdy ney
        have z2 := Same.new (o := .tup vs) ht2
        have e2 : (upd H9 t2 (.tup vs)) t2 = some (.tup vs) := upd_same
        generalize upd H9 t2 (.tup vs) = H10 at z2 e2 hy hdy
        refine make_fin (m := ⟨n, done, es⟩) hy hdy ney ⟨⟨vs, SqT.of e2, (same_tups z2).steps hvs⟩, (same_tups z2).sq ht9⟩ o fun H11 z11 hm => ?_
        exact kN hF y H11 ((z9.trans z2).trans z11)
end
/-! ### the law asks how a text is refused -/
/-- a verdict as it stands -/
def VerV (H : Hp) (v : V) : Option (Nat × Nat) → Prop
  | none => v = .non
  | some (i, k) => ∃ q, v = .ref q ∧ H q = some (.lst [.int (i : Nat), .int (k : Nat)])
theorem VerV.same {H H' : Hp} {v : V} {o : Option (Nat × Nat)} (h : VerV H v o) (z : Same H H') : VerV H' v o := by
  match o, h with
  | none, h => exact h
  | some (i, k), ⟨q, a, b⟩ => exact ⟨q, a, z _ _ b⟩
def sp_refu : Sp := fun vs H Q _ => ∃ (wss : List (List Wd)) (zs : List Wd), vs = [.str (sOf (TL.joinL [10] zs))] ∧ LinesOf wss zs ∧ (TL.joinL [10] zs).length ≤ 1000000 ∧ ∀ v H', Same H H' → VerV H' v (textF wss) → Q v H'
section
variable {P : Program} {w : World} {K : PySem.W.Frag} {mg : Str → Option Value} {base : Heap}
theorem ok_law_refused (T : Txt K mg) : FnOk P w K mg base (L2.CX P w) 9 T.a_law_refused T.fd_law_refused ["_law_text_here"] sp_refu := by
  refine T.F_law_refused.okX sc_law_refused (fun vs H Q E h => ?_) (fun cdv A outer s H vs Q E hr h => ?_)
  · obtain ⟨wss, zs, rfl, _⟩ := h
    rfl
  · obtain ⟨wss, zs, rfl, tx, zl, k⟩ := h
    refine ⟨_, (PSs.nox (pss_cons (ps_set (i := 1) sc_law_refused.nd rfl (Or.inl rfl) pe_non)
  (pss_cons (ps_try_manyA rfl rfl takes0 (fun W pn xe tk _ => (pss_one (ps_expr (pe_callS (ok_read_bad T) (hr.mono (by decide)) (by rfl) T.m_read T.k_read T.b_read (fun σ => passAt tk σ) (pa_cons (pv 0) pa_nil))))) (.consA (i := 2) sc_law_refused.nd rfl rfl ⟨rfl, by decide, .inl T.m_InvalidText⟩ (fun a oe cls d pn hz hf => (pss_one (ps_set (i := 1) sc_law_refused.nd rfl (Or.inl rfl) (pe_lst (pa_cons (pe_xf T.xf_InvalidText T.no_InvalidText_line hz hf (pv 2)) (pa_cons (pe_xf T.xf_InvalidText T.no_InvalidText_word hz hf (pv 2)) pa_nil)))))) .nil))
  (pss_one (ps_ret (pv 1)))))), ?_⟩
    walk_at "begin"
    walk_at "go"
    refine k_callS ?_
    walk_at "go"
    refine ⟨wss, zs, rfl, tx, zl, fun h x H6 z6 => ?_, fun i j h d H6 z6 ed => ⟨true, T.e_InvalidText, fun _ b hb => ?_, fun q => nomatch q⟩⟩
    · walk_at "go"
      exact k _ _ z6 (by rw [h]; rfl)
    · dsimp only
      walk_at "go"
      refine k_xf ?_
      walk_at "go"
      refine ⟨rfl, rfl, d, _, _, rfl, ed, rfl, ?_⟩
      refine k_xf ?_
      walk_at "go"
      refine ⟨rfl, rfl, d, _, _, rfl, ed, rfl, ?_⟩
      walk_at "go"
      refine ⟨(by decide : 2 ≤ sizeLine), fun q hq => ?_⟩
      walk_at "go"
      exact k _ _ (z6.trans (Same.new hq)) (by rw [h]; exact ⟨q, rfl, upd_same⟩)
end
/-! ### the law's own gains -/
theorem digits_snoc (l : List Nat) (d : Nat) : PySem.NumText.digitsVal (l ++ [d]) = PySem.NumText.digitsVal l * 10 + (d - 48) := by
  unfold PySem.NumText.digitsVal
  rw [List.foldl_append]
  rfl
theorem numL_zero {n : Nat} : ∀ {r : List Nat}, TL.numL n = 48 :: r → n = 0 := by
  induction n using Nat.strongRecOn with
  | _ n ih =>
    intro r h
    by_cases c : n < 10
    · rw [TL.numL_lt c] at h
      injection h with h _
      omega
    · rw [TL.numL_step (by omega)] at h
      cases e : TL.numL (n / 10) with
      | nil => exact absurd e (TL.numL_ne _)
      | cons a r2 =>
        rw [e] at h
        injection h with h _
        have := ih (n / 10) (by omega) (r := r2) (by rw [e, h])
        omega
/-- digits with no nought ahead are the signs of their number -/
theorem numL_canon : ∀ (k : Nat) (f : List Nat), f.length = k → PySem.NumText.AllDigits f → f ≠ [] → (f = [48] ∨ f[0]? ≠ some 48) → TL.numL (PySem.NumText.digitsVal f) = f := by
  intro k
  induction k with
  | zero => exact fun f hl _ hne => absurd (List.eq_nil_of_length_eq_zero hl) hne
  | succ k ih =>
    intro f hl hd hne hc
    obtain ⟨r, d, rfl⟩ : ∃ r d, f = r ++ [d] := ⟨f.dropLast, f.getLast hne, (List.dropLast_concat_getLast hne).symm⟩
    have dd := hd d (List.mem_append_right _ (List.mem_singleton.mpr rfl))
    have hr : PySem.NumText.AllDigits r := fun c hc => hd c (List.mem_append_left _ hc)
    rw [List.length_append, List.length_singleton] at hl
    cases r with
    | nil =>
      show TL.numL (0 * 10 + (d - 48)) = [d]
      rw [TL.numL_lt (by omega)]
      congr 1
      omega
    | cons a r =>
      have ha : a ≠ 48 := by
        rcases hc with h | h
        · cases r with
          | nil => cases h
          | cons b r => cases h
        · exact fun z => h (by rw [z]; rfl)
      have e := ih (a :: r) (by omega) hr (List.cons_ne_nil _ _) (.inr fun z => ha (Option.some.inj z))
      rw [digits_snoc]
      generalize PySem.NumText.digitsVal (a :: r) = v at e
      have v1 : 1 ≤ v := by
        cases v with
        | zero =>
          have : TL.numL 0 = [48] := by rw [TL.numL_lt (by decide)]
          rw [this] at e
          injection e with e _
          exact absurd e.symm ha
        | succ v => omega
      rw [TL.numL_step (by omega), show (v * 10 + (d - 48)) / 10 = v by omega, show (v * 10 + (d - 48)) % 10 = d - 48 by omega, e]
      congr 2
      omega
def GainW (w : Wd) : Prop := ∃ g : Int, w = numW g ∧ -(10 ^ 30) ≤ g ∧ g ≤ 10 ^ 30
theorem gain_facts {w : Wd} (h : GainW w) : PySem.NumText.AllDigits (dW w) ∧ dW w ≠ [] ∧ (dW w).length ≤ 31 ∧ (w = [48] ∨ (dW w)[0]? ≠ some 48) ∧ PySem.NumText.digitsVal (dW w) ≤ 10 ^ 30 := by
  obtain ⟨g, rfl, h1, h2⟩ := h
  rw [dW_num]
  refine ⟨TL.numL_digits _, TL.numL_ne _, digW_len (by omega), ?_, ?_⟩
  · by_cases c : (digW g)[0]? = some 48
    · refine .inl ?_
      cases e : digW g with
      | nil => rw [e] at c; cases c
      | cons a r =>
        rw [e] at c
        have : a = 48 := Option.some.inj c
        subst this
        have g0 := numL_zero (n := g.natAbs) e
        have : g = 0 := by omega
        subst this
        show TL.numL 0 = [48]
        rw [TL.numL_lt (by decide)]
    · exact .inr c
  · show PySem.NumText.digitsVal (TL.numL g.natAbs) ≤ _
    rw [TL.numL_val]
    omega
theorem gain_of {w : Wd} (hd : PySem.NumText.AllDigits (dW w)) (hne : dW w ≠ []) (hc : w = [48] ∨ (dW w)[0]? ≠ some 48) (hv : PySem.NumText.digitsVal (dW w) ≤ 10 ^ 30) : GainW w := by
  rcases hc with rfl | hc
  · exact ⟨0, by show [48] = TL.numL 0; rw [TL.numL_lt (by decide)], by decide, by decide⟩
  have e := numL_canon _ (dW w) rfl hd hne (.inr hc)
  generalize hn : PySem.NumText.digitsVal (dW w) = n at e hv
  by_cases c : w[0]? = some 45
  · match w, c with
    | a :: r, c =>
      have : a = 45 := Option.some.inj c
      subst this
      have er : dW (45 :: r) = r := rfl
      rw [er] at e hc hne
      cases n with
      | zero =>
        rw [TL.numL_lt (by decide)] at e
        rw [← e] at hc
        exact absurd rfl hc
      | succ n => exact ⟨.negSucc n, by show 45 :: r = 45 :: TL.numL (n + 1); rw [e], by omega, by omega⟩
  · have ed : dW w = w := by
      unfold dW
      split
      · exact absurd rfl c
      · rfl
    rw [ed] at e
    exact ⟨((n : Nat) : Int), e.symm, by omega, by omega⟩
theorem dig_in (c : Nat) : (!(Builtin.Str.occurrences ("0123456789" : Str) ⟨#[c]⟩ 0 ("0123456789" : Str).length 1).isEmpty) = decide (48 ≤ c ∧ c ≤ 57) := by
  rw [PySem.StrLaws.found_one]
  have e : ("0123456789" : Str).cps.toList = [48, 49, 50, 51, 52, 53, 54, 55, 56, 57] := by decide +kernel
  rw [e, decide_eq_decide]
  simp only [List.mem_cons, List.not_mem_nil, or_false]
  omega
theorem dW_if (w : Wd) : (if decide (V.str (sOf (w.take 1)) = V.str "-") = true then w.drop 1 else w) = dW w := by
  match w with
  | [] => rfl
  | c :: r =>
    by_cases h : c = 45
    · subst h
      have : decide (V.str (sOf ((45 :: r : Wd).take 1)) = V.str "-") = true := by
        show decide (V.str (sOf [45]) = V.str "-") = true
        decide +kernel
      rw [if_pos this]
      rfl
    · rw [if_neg]
      · unfold dW
        split
        · rename_i h2
          injection h2 with h2 _
          exact absurd h2 h
        · rfl
      · rw [decide_eq_true_iff]
        intro z
        injection z with z
        have := sOf_inj (v := [c]) (w := [45]) (z.trans (by decide +kernel))
        injection this with this _
        exact h this
theorem k_dash {w : Wd} {σ : L2.St} {H : Hp} {Q : VK} (e : σ[0]? = some (some (.str (sOf w)))) (ls : (sOf w).length ≤ sizeLine) (q : Q (.str (sOf (dW w))) H) :
    if decide (V.str (sOf (w.take 1)) = V.str "-") = true then tSl rSlS (tVar 0) (tPart (tC (.int ((1 : Nat) : Int)))) tNoPart σ H Q else tVar 0 σ H Q := by
  have h := dW_if w
  by_cases c : decide (V.str (sOf (w.take 1)) = V.str "-") = true
  · rw [if_pos c] at h ⊢
    refine ⟨_, e, ?_⟩
    walk_at "go"
    refine k_slS ls ?_
    rw [cutS_drop, h]
    exact q
  · rw [if_neg c] at h ⊢
    refine ⟨_, e, ?_⟩
    rw [h]
    exact q
theorem gain_end {w : Wd} {σ : L2.St} {H : Hp} {Q : VK} (e : σ[1]? = some (some (.str (sOf (dW w))))) (hd : PySem.NumText.AllDigits (dW w)) (hne : dW w ≠ []) (l31 : (dW w).length ≤ 31) (q : Q (.bl (decide (((PySem.NumText.digitsVal (dW w) : Nat) : Int) ≤ 10 ^ 30))) H) :
    tOp (rI0 fun i j => V.bl (decide (i ≤ j))) (tCB (fun xs H Q => ∃ a n, xs = [V.str a] ∧ PySem.intText? a = some n ∧ a.length ≤ 640 ∧ Q (V.int n) H) (tCons (tVar 1) tNil)) (tOp (rI CPow fun i j => V.int (i ^ j.toNat)) (tC (V.int 10)) (tC (V.int 30))) σ H Q := by
  walk_at "go"
  refine ⟨_, e, ?_⟩
  walk_at "go"
  refine ⟨_, _, rfl, PySem.intText_digits (x := sOf (dW w)) hd hne (by rw [sOf_len]; exact Nat.le_trans l31 (by decide)), by rw [sOf_len]; exact Nat.le_trans l31 (by decide), ?_⟩
  walk_at "go"
  refine ⟨_, _, rfl, rfl, ⟨by decide, by decide, by decide⟩, ?_⟩
  walk_at "go"
  exact q
def sp_gain : Sp := fun vs H Q _ => ∃ w : Wd, vs = [.str (sOf w)] ∧ w.length ≤ 500 ∧ ∀ (b : Bool) H', Same H H' → (b = true ↔ GainW w) → Q (.bl b) H'
section
variable {P : Program} {w : World} {K : PySem.W.Frag} {mg : Str → Option Value} {base : Heap}
theorem ok_law_gain (T : Txt K mg) : FnOk P w K mg base (L2.CX P w) 1 T.a_law_gain T.fd_law_gain ["_law_word"] sp_gain := by
  refine T.F_law_gain.okX sc_law_gain (fun vs H Q E h => ?_) (fun cdv A outer s H vs Q E hr h => ?_)
  · obtain ⟨w, rfl, _⟩ := h
    rfl
  · obtain ⟨w, rfl, lw, k⟩ := h
    have ls : (sOf w).length ≤ sizeLine := by rw [sOf_len]; exact Nat.le_trans lw (by decide)
    have ld : (dW w).length ≤ 500 := by
      refine Nat.le_trans ?_ lw
      match w with
      | [] => exact Nat.le_refl _
      | c :: r =>
        unfold dW
        split
        · rename_i h; injection h with _ h; rw [h]; exact Nat.le_succ _
        · exact Nat.le_refl _
    have no : ∀ H', Same H H' → ¬ GainW w → Q (.bl false) H' := fun H' z h => k false H' z ⟨(fun q => nomatch q), fun q => absurd q h⟩
    refine ⟨_, (PSs.nox (pss_cons (ps_set (i := 1) sc_law_gain.nd rfl (Or.inl rfl) (pe_ifExp (pt_cmpR op_eq (pe_slice sl_str (pv 0) po_none (po_some pe_int)) pe_str (nomark _)) (pe_slice sl_str (pv 0) (po_some pe_int) po_none) (pv 0)))
  (pss_cons (ps_if (PW.pt (pw_or (pt_cmpR op_eq (pv 1) pe_str (nomark _)) (pw_or (pt_cmpR op_gt (pe_callB call_len_str (by rfl) T.z_len PySem.boot_len (pa_cons (pv 1) pa_nil)) pe_int (nomark _)) (pw_or1 (pt_not (pt_truth (pe_callB (cr_all rfl) (by rfl) T.z_all (by decide +kernel) (pa_cons (pe_lc (own := [("_law_sign", 2)]) (g := (gName 2)) (tt := tYes) rfl sc_law_gain.nd (pi_str (pv 1)) (blkOk_by (own := [("_law_sign", 2)]) (N := ["_law_word", "_law_figures", "_law_sign"]) (sc := defScope s_law_gain) (by decide +kernel)) (fun _ _ _ _ _ => (pg_name (i := 2) sc_law_gain.nd rfl (Or.inl rfl))) (fun _ _ _ _ _ => pts_nil) (fun _ _ _ _ _ => (pe_cmpR op_in_str (pv 2) pe_str (by rfl)))) pa_nil)) (fun _ => rfl)))))))
  (pss_one (ps_ret pe_bl))
  pss_nil)
  (pss_one (ps_ret (pe_and (pe_or (pe_cmpR op_eq (pv 0) pe_str (nomark _)) (pe_one (pe_cmpR op_ne (pe_ix ix_str (pv 1) pe_int (fun _ _ => rfl)) pe_str (nomark _)))) (pe_one (pe_cmpR op_le (pe_callTy call_int_str (by rfl) T.z_int PySem.Pv.boot_int (pa_cons (pv 1) pa_nil)) (pe_op op_pow pe_int pe_int) (nomark _))))))))), ?_⟩
    walk_at "begin"
    walk_at "go"
    refine k_slS ls ?_
    rw [show ((1 : Int)) = ((1 : Nat) : Int) from rfl, cutS_take]
    walk_at "go"
    refine k_dash rfl ls ?_
    walk_at "go"
    rw [sOf_empty]
    refine k_ite (fun c0 => ?_) (fun c0 => ?_)
    · walk_at "go"
      refine no _ (Same.refl _) fun g => (gain_facts g).2.1 c0
    walk_at "go"
    refine ⟨_, rfl, by rw [sOf_len]; exact Nat.le_trans ld (by decide), ?_⟩
    rw [sOf_len]
    walk_at "go"
    refine k_ite (fun c1 => ?_) (fun c1 => ?_)
    · walk_at "go"
      refine no _ (Same.refl _) fun g => ?_
      have := (gain_facts g).2.2.1
      omega
    have l31 : (dW w).length ≤ 31 := by omega
    walk_at "go"
    refine ⟨_, rfl, fun D hD => ?_⟩
    refine lc_it (walk_str (z := sOf (dW w))) (fun i H' => Same H H' ∧ H' D = some (.lst ((((dW w).take i).map fun c => decide (48 ≤ c ∧ c ≤ 57)).map V.bl))) ⟨Same.new hD, upd_same⟩ (fun _ _ _ _ => trivial) ?_ ?_
    · rintro i y H3 H3' hi ⟨z3, e3⟩ ⟨rfl, c, ec, rfl⟩
      have ec' : (dW w)[i]? = some c := by
        have : (dW w).toArray[i]? = some c := ec
        rwa [List.getElem?_toArray] at this
      have tk : (dW w).take (i + 1) = (dW w).take i ++ [c] := by rw [List.take_add_one, ec']; rfl
      rw [tk]
      walk_at "go"
      refine ⟨rfl, ?_⟩
      walk_at "go"
      refine iteT ?_
      walk_at "go"
      refine ⟨_, _, rfl, rfl, ?_⟩
      rw [dig_in]
      refine ⟨_, e3, Nat.lt_of_le_of_lt (show _ ≤ 31 by rw [List.length_map, List.length_map, List.length_take]; omega) (by decide), Same.mut z3 hD, ?_⟩
      rw [upd_same, List.map_append, List.map_append]
      rfl
    rintro H3 ⟨z3, e3⟩
    rw [show (sOf (dW w)).cps.size = (dW w).length from sOf_len _, List.take_length] at e3
    walk_at "go"
    refine ⟨D, _, rfl, SqL.of e3, ?_⟩
    have hall : ((dW w).map fun c => decide (48 ≤ c ∧ c ≤ 57)).all id = true ↔ PySem.NumText.AllDigits (dW w) := by
      rw [List.all_map, List.all_eq_true]
      exact ⟨fun h c hc => of_decide_eq_true (h c hc), fun h c hc => decide_eq_true (h c hc)⟩
    cases hb : ((dW w).map fun c => decide (48 ≤ c ∧ c ≤ 57)).all id with
    | false =>
      refine ⟨false, rfl, ?_⟩
      refine iteT ?_
      walk_at "go"
      refine no _ z3 fun g => ?_
      have := hall.mpr (gain_facts g).1
      rw [hb] at this
      cases this
    | true =>
    have hd := hall.mp hb
    refine ⟨true, rfl, ?_⟩
    refine iteF ?_
    walk_at "go"
    have hne : dW w ≠ [] := c0
    have go : (w = [48] ∨ (dW w)[0]? ≠ some 48) → Q (.bl (decide (((PySem.NumText.digitsVal (dW w) : Nat) : Int) ≤ 10 ^ 30))) H3 := fun hc => k _ _ z3 ⟨fun h => gain_of hd hne hc (by have := of_decide_eq_true h; omega), fun h => decide_eq_true (by have := (gain_facts h).2.2.2.2; omega)⟩
    refine k_ite (fun c2 => ?_) (fun c2 => ?_)
    · refine ⟨true, rfl, ?_⟩
      refine iteT ?_
      exact gain_end rfl hd hne l31 (go (.inl (by injection c2 with c2; exact sOf_inj (w := [48]) (c2.trans (by decide +kernel)))))
    · walk_at "go"
      cases ed : dW w with
      | nil => exact absurd ed hne
      | cons a r =>
        refine ⟨_, _, a, rfl, rfl, by rw [sOf_len, List.length_cons]; rw [ed, List.length_cons] at l31; exact Nat.le_trans l31 (by decide), (show atI (sOf (a :: r)).cps.toList ((0 : Nat) : Int) = some a from atI_nat (xs := a :: r) (j := 0) rfl), ?_⟩
        walk_at "go"
        by_cases h48 : a = 48
        · subst h48
          rw [decide_eq_true (show V.str ⟨#[48]⟩ = V.str "0" by decide +kernel)]
          refine iteF ?_
          walk_at "go"
          refine no _ z3 fun g => ?_
          rcases (gain_facts g).2.2.2.1 with h | h
          · exact c2 (by rw [h]; decide +kernel)
          · exact h (by rw [ed]; rfl)
        · rw [decide_eq_false (show ¬ V.str ⟨#[a]⟩ = V.str "0" from fun z => by injection z with z; exact h48 (by have := sOf_inj (v := [a]) (w := [48]) (z.trans (by decide +kernel)); injection this))]
          refine iteT ?_
          rw [← ed]
          exact gain_end rfl hd hne l31 (go (.inr fun z => h48 (by rw [ed] at z; exact Option.some.inj z)))
end
/-! ### the law's own step -/
theorem inV_ws (w : Wd) (l : List Wd) : inV (.str (sOf w)) (wsV l) = decide (w ∈ l) := by
  rw [Bool.eq_iff_iff, decide_eq_true_iff]
  unfold inV wsV
  rw [List.any_eq_true]
  constructor
  · rintro ⟨v, hv, e⟩
    obtain ⟨c, hc, rfl⟩ := List.mem_map.mp hv
    have e : (sOf c == sOf w) = true := e
    rw [← sOf_inj (eq_of_beq e)]
    exact hc
  · intro hc
    exact ⟨_, List.mem_map.mpr ⟨w, hc, rfl⟩, by show (sOf w == sOf w) = true; exact beq_self_eq_true _⟩
theorem flat_ws (l : List Wd) : (wsV l).all flatV = true := by
  unfold wsV
  rw [List.all_eq_true]
  intro v hv
  obtain ⟨c, _, rfl⟩ := List.mem_map.mp hv
  rfl
/-- the stands' words -/
def stdW (n : Nat) : List Wd := (List.range n).map fun e => numW ((e : Nat) : Int)
theorem mem_std {n : Nat} {w : Wd} : w ∈ stdW n ↔ ∃ e : Nat, w = numW (e : Nat) ∧ e < n := by
  unfold stdW
  rw [List.mem_map]
  exact ⟨fun ⟨e, h, q⟩ => ⟨e, q.symm, List.mem_range.mp h⟩, fun ⟨e, q, h⟩ => ⟨e, List.mem_range.mpr h, q.symm⟩⟩
theorem ws_at {ws : List Wd} {k : Nat} {w : Wd} (e : ws[k]? = some w) : (wsV ws)[k]? = some (.str (sOf w)) := by unfold wsV; rw [List.getElem?_map, e]; rfl
theorem ws_len (ws : List Wd) : (wsV ws).length = ws.length := by unfold wsV; rw [List.length_map]
theorem ws_take (ws : List Wd) (k : Nat) : (wsV ws).take k = wsV (ws.take k) := by unfold wsV; rw [List.map_take]
theorem ws_drop (ws : List Wd) (k : Nat) : (wsV ws).drop k = wsV (ws.drop k) := by unfold wsV; rw [List.map_drop]
theorem dp_ws {K : PySem.W.Frag} {H : Hp} : ∀ ws : List Wd, DpAll K H (wsV ws) (ws.map fun w => PyData.str (sOf w))
  | [] => .nil
  | w :: ws => .cons (.str (sOf w)) (dp_ws ws)
/-- a word's signs are plain ones -/
def LowW (w : Wd) : Prop := ∀ c ∈ w, c < 128
theorem sh_ws (ws : List Wd) (h : ws.length ≤ 1) (lo : ∀ w ∈ ws, LowW w) : SeqAt.shaped (.list (ws.map fun w => PyData.str (sOf w))) = true := by
  have go : ∀ w, LowW w → SeqAt.shaped (.list [PyData.str (sOf w)]) = true := fun w hw => by
    unfold SeqAt.shaped
    rw [Bool.and_eq_true]
    refine ⟨?_, rfl⟩
    show (w.toArray.all (· < 0x110000) && true) = true
    rw [Bool.and_true, List.all_toArray, List.all_eq_true]
    exact fun c hc => decide_eq_true (Nat.lt_trans (hw c hc) (by decide))
  match ws, h with
  | [], _ => decide
  | [w], _ => exact go w (lo w List.mem_cons_self)
theorem k_first {K : PySem.W.Frag} {H : Hp} {Q : VK} {a b : Addr} {ws : List Wd} {w : Wd} {t : Str} (lo : ∀ w ∈ ws, LowW w) (lw : LowW w) (ha : H a = some (.lst (wsV (ws.take 1)))) (hb : H b = some (.lst [.str t])) (ht : t = sOf w) (q : Q (.bl (!decide (ws[0]? = some w))) H) : rNeD K (.ref a) (.ref b) H Q := by
  subst ht
  have hs : (ws.take 1).length ≤ 1 := by rw [List.length_take]; exact Nat.min_le_left _ _
  refine ⟨_, _, .lst (SqL.of ha) (dp_ws _), .lst (SqL.of hb) (.cons (.str _) .nil), sh_ws _ hs (fun w hw => lo w (List.mem_of_mem_take hw)), sh_ws [w] (Nat.le_refl _) (fun v hv => by rw [List.mem_singleton.mp hv]; exact lw), ?_⟩
  have e : PyData.eqv (.list ((ws.take 1).map fun w => PyData.str (sOf w))) (.list [.str (sOf w)]) = decide (ws[0]? = some w) := by
    match ws with
    | [] => rfl
    | v :: r =>
      show (sOf v == sOf w && true) = decide (some v = some w)
      rw [Bool.and_true, Bool.eq_iff_iff, beq_iff_eq, decide_eq_true_iff]
      exact ⟨fun h => by rw [sOf_inj h], fun h => by rw [Option.some.inj h]⟩
  rw [e]
  exact q
/-- what a step's line is told to be -/
def stpR (k : Nat) : V := if k = 0 then .non else .int (k : Nat)
def sp_lstep (K : PySem.W.Frag) : Sp := fun vs H Q _ => ∃ (q S a : Addr) (n b0 : Nat) (l0 : Wd) (ws : List Wd), vs = [.ref q, .ref S, .ref a] ∧ H q = some (.lst (wsV ws)) ∧ H S = some (.lst (wsV (stdW n))) ∧ SqT K H a [.int (b0 : Nat), .str (sOf l0)] ∧ n ≤ 8 ∧ ws.length ≤ 100 ∧ (∀ w ∈ ws, w.length ≤ 500) ∧ (∀ w ∈ ws, LowW w) ∧
  ∀ H', Same H H' → Q (stpR (stepF n b0 l0 ws)) H'
section
variable {P : Program} {w : World} {K : PySem.W.Frag} {mg : Str → Option Value} {base : Heap}
theorem ok_law_step (T : Txt K mg) : FnOk P w K mg base (L2.CX P w) 3 T.a_law_step T.fd_law_step ["_law_words", "_law_stands", "_law_ahead"] (sp_lstep K) := by
  refine T.F_law_step.okX sc_law_step (fun vs H Q E h => ?_) (fun cdv A outer s H vs Q E hr h => ?_)
  · obtain ⟨q, S, a, n, b0, l0, ws, rfl, _⟩ := h
    rfl
  · obtain ⟨q, S, a, n, b0, l0, ws, rfl, eq, eS, ha, n8, wl, wsh, lo, k⟩ := h
    have fin : ∀ j H', Same H H' → stepF n b0 l0 ws = j → Q (stpR j) H' := fun j H' z e => by rw [← e]; exact k H' z
    refine ⟨_, (PSs.nox (pss_cons (ps_if (pt_cmpR (op_neD hr.units) (pe_slice sl_list (pv 0) po_none (po_some pe_int)) (pe_lst (pa_cons pe_str pa_nil)) (nomark _))
  (pss_one (ps_ret pe_int))
  pss_nil)
  (pss_cons (ps_if (PW.pt (pw_or (pt_cmpR op_lt (pe_callB call_len_seq (by rfl) T.z_len PySem.boot_len (pa_cons (pv 0) pa_nil)) pe_int (nomark _)) (pw_or (pt_cmpR op_notIn_seq (pe_ix ix_list (pv 0) pe_int (fun _ _ => rfl)) (pv 1) (by rfl)) (pw_or1 (pt_cmpR op_lt (pe_callTy call_int_str (by rfl) T.z_int PySem.Pv.boot_int (pa_cons (pe_ix ix_list (pv 0) pe_int (fun _ _ => rfl)) pa_nil)) (pe_ix ix_tup (pv 2) pe_int (fun _ _ => rfl)) (nomark _))))))
  (pss_one (ps_ret pe_int))
  pss_nil)
  (pss_cons (ps_if (PW.pt (pw_or (pt_cmpR op_lt (pe_callB call_len_seq (by rfl) T.z_len PySem.boot_len (pa_cons (pv 0) pa_nil)) pe_int (nomark _)) (pw_or1 (pt_cmpR op_notIn_seq (pe_ix ix_list (pv 0) pe_int (fun _ _ => rfl)) (pe_lst (pa_cons pe_str (pa_cons pe_str (pa_cons pe_str (pa_cons pe_str pa_nil))))) (by rfl)))))
  (pss_one (ps_ret pe_int))
  pss_nil)
  (pss_cons (ps_if (pt_cmpR (op_le2 hr.units0) (pe_tup (pa_cons (pe_callTy call_int_str (by rfl) T.z_int PySem.Pv.boot_int (pa_cons (pe_ix ix_list (pv 0) pe_int (fun _ _ => rfl)) pa_nil)) (pa_cons (pe_ix ix_list (pv 0) pe_int (fun _ _ => rfl)) pa_nil))) (pv 2) (nomark _))
  (pss_one (ps_ret pe_int))
  pss_nil)
  (pss_cons (ps_if (PW.pt (pw_or (pt_cmpR op_lt (pe_callB call_len_seq (by rfl) T.z_len PySem.boot_len (pa_cons (pv 0) pa_nil)) pe_int (nomark _)) (pw_or1 (pt_cmpR op_notIn_seq (pe_ix ix_list (pv 0) pe_int (fun _ _ => rfl)) (pv 1) (by rfl)))))
  (pss_one (ps_ret pe_int))
  pss_nil)
  (pss_cons (ps_if (PW.pt (pw_or (pt_cmpR op_lt (pe_callB call_len_seq (by rfl) T.z_len PySem.boot_len (pa_cons (pv 0) pa_nil)) pe_int (nomark _)) (pw_or1 (pt_not (pt_val (pe_call (ok_law_gain T) (hr.mono (by decide)) (by rfl) T.m_law_gain T.k_law_gain T.b_law_gain .nil passL (pa_cons (pe_ix ix_list (pv 0) pe_int (fun _ _ => rfl)) pa_nil)))))))
  (pss_one (ps_ret pe_int))
  pss_nil)
  (pss_one (ps_ret (pe_ifExp (pt_cmpR op_gt (pe_callB call_len_seq (by rfl) T.z_len PySem.boot_len (pa_cons (pv 0) pa_nil)) pe_int (nomark _)) pe_int pe_non)))))))))), ?_⟩
    walk_at "begin"
    walk_at "go"
    refine ⟨q, _, rfl, SqL.of eq, fun q1 hq1 => ?_⟩
    rw [show cutV (wsV ws) none (some 1) = wsV (ws.take 1) from (cutV_take _ 1).trans (ws_take ws 1)]
    have z1 := Same.new (o := .lst (wsV (ws.take 1))) hq1
    have e1 := upd_same (H := H) (a := q1) (o := .lst (wsV (ws.take 1)))
    generalize upd H q1 (.lst (wsV (ws.take 1))) = H1 at z1 e1
    walk_at "go"
    refine ⟨(by decide : 1 ≤ sizeLine), fun q2 hq2 => ?_⟩
    walk_at "go"
    have z2 := z1.trans (Same.new (o := .lst [V.str "step"]) hq2)
    replace e1 := (Same.new (o := .lst [V.str "step"]) hq2) _ _ e1
    have e2 := upd_same (H := H1) (a := q2) (o := .lst [V.str "step"])
    generalize upd H1 q2 (.lst [V.str "step"]) = H2 at z2 e1 e2
    refine k_first lo (fun c hc => (by decide : ∀ c ∈ spwW, c < 128) c hc) e1 e2 spwW_s.symm ?_
    clear e1 e2 hq1 hq2 z1
    replace eq := z2 _ _ eq
    replace eS := z2 _ _ eS
    replace ha := (same_tups z2).sq ha
    walk_at "go"
    rcases Decidable.em (ws[0]? ≠ some spwW) with c0 | c0
    · rw [decide_eq_false c0]
      refine iteT ?_
      walk_at "go"
      exact fin 1 _ z2 (stepF_1 c0)
    have c0 := Decidable.not_not.mp c0
    rw [decide_eq_true c0]
    refine iteF ?_
    walk_at "go"
    refine k_len (.inl (SqL.of eq)) ?_
    rw [ws_len]
    walk_at "go"
    have no2 : (∀ b : Nat, ws[1]? = some (numW (b : Nat)) → ¬ (b0 ≤ b ∧ b < n)) → Q (.int 2) H2 := fun h => fin 2 _ z2 (stepF_2 c0 h)
    refine k_ite (fun c1 => ?_) (fun c1 => ?_)
    · walk_at "go"
      exact no2 fun b e => by rw [List.getElem?_eq_none (by omega)] at e; cases e
    have l1 : 1 < ws.length := by omega
    have w1 : ws[1]? = some (ws[1]'l1) := List.getElem?_eq_getElem l1
    have s1 := wsh _ (List.getElem_mem l1)
    generalize ws[1]'l1 = v1 at w1 s1
    walk_at "go"
    refine k_ixL (SqL.of eq) (atI_nat (j := 1) (ws_at w1)) ?_
    walk_at "go"
    refine k_in (.inl (SqL.of eS)) rfl (flat_ws _) ?_
    rw [inV_ws]
    rcases Decidable.em (v1 ∈ stdW n) with hin | hin
    rotate_left
    · rw [decide_eq_false hin]
      walk_at "go"
      refine iteT ?_
      walk_at "go"
      exact no2 fun b e h => hin (by rw [w1] at e; exact mem_std.mpr ⟨b, Option.some.inj e, h.2⟩)
    rw [decide_eq_true hin]
    obtain ⟨b, rfl, bn⟩ := mem_std.mp hin
    walk_at "go"
    refine iteF ?_
    walk_at "go"
    refine k_ixL (SqL.of eq) (atI_nat (j := 1) (ws_at w1)) ?_
    walk_at "go"
    have lnb : (numW (b : Nat)).length ≤ 500 := s1
    refine ⟨_, _, rfl, num_int (Nat.le_trans lnb (by decide)), by rw [sOf_len]; exact Nat.le_trans lnb (by decide), ?_⟩
    walk_at "go"
    refine k_ixT ha rfl ?_
    walk_at "go"
    refine k_ite (fun c2 => ?_) (fun c2 => ?_)
    · walk_at "go"
      exact no2 fun b' e h => by
        rw [w1] at e
        have := numW_inj (Option.some.inj e)
        omega
    clear no2
    have b1 : b0 ≤ b := by omega
    walk_at "go"
    refine k_len (.inl (SqL.of eq)) ?_
    rw [ws_len]
    walk_at "go"
    have no3 : ∀ H', Same H H' → (∀ c, ws[2]? = some [c] → ¬ lettersOk b0 l0 b c) → Q (.int 3) H' := fun H' z h => fin 3 _ z (stepF_3 c0 w1 b1 bn h)
    refine k_ite (fun c3 => ?_) (fun c3 => ?_)
    · walk_at "go"
      exact no3 _ z2 fun b e => by rw [List.getElem?_eq_none (by omega)] at e; cases e
    have l2 : 2 < ws.length := by omega
    have w2 : ws[2]? = some (ws[2]'l2) := List.getElem?_eq_getElem l2
    have s2 := wsh _ (List.getElem_mem l2)
    generalize ws[2]'l2 = v2 at w2 s2
    walk_at "go"
    refine k_ixL (SqL.of eq) (atI_nat (j := 2) (ws_at w2)) ?_
    walk_at "go"
    refine ⟨(by decide : 4 ≤ sizeLine), fun q3 hq3 => ?_⟩
    walk_at "go"
    have zz := Same.new (o := .lst [V.str "a", V.str "b", V.str "c", V.str "d"]) hq3
    have e3 := upd_same (H := H2) (a := q3) (o := .lst [V.str "a", V.str "b", V.str "c", V.str "d"])
    generalize upd H2 q3 (.lst [V.str "a", V.str "b", V.str "c", V.str "d"]) = H3 at zz e3
    have z3 := z2.trans zz
    replace eq := zz _ _ eq
    replace eS := zz _ _ eS
    replace ha := (same_tups zz).sq ha
    refine k_in (.inl (SqL.of e3)) rfl (by rfl) ?_
    have el : inV (.str (sOf v2)) [V.str "a", V.str "b", V.str "c", V.str "d"] = inV (.str (sOf v2)) (ltV [97, 98, 99, 100]) := rfl
    rw [el]
    cases hl : inV (.str (sOf v2)) (ltV [97, 98, 99, 100]) with
    | false =>
      walk_at "go"
      refine iteT ?_
      walk_at "go"
      refine no3 _ z3 fun c e h => ?_
      rw [w2] at e
      have : inV (.str (sOf v2)) (ltV [97, 98, 99, 100]) = true := (inV_lt _ _).mpr ⟨c, by
        have h1 := h.1
        have h2 := h.2.1
        simp only [List.mem_cons, List.not_mem_nil, or_false]
        omega, Option.some.inj e⟩
      rw [hl] at this
      cases this
    | true =>
    obtain ⟨c, hc, rfl⟩ := (inV_lt _ _).mp hl
    have hc2 : 97 ≤ c ∧ c ≤ 100 := by
      simp only [List.mem_cons, List.not_mem_nil, or_false] at hc
      omega
    walk_at "go"
    refine iteF ?_
    walk_at "go"
    refine k_ixL (SqL.of eq) (atI_nat (j := 1) (ws_at w1)) ?_
    refine k_nil ?_
    refine ⟨_, _, rfl, num_int (Nat.le_trans lnb (by decide)), by rw [sOf_len]; exact Nat.le_trans lnb (by decide), ?_⟩
    walk_at "go"
    refine k_ixL (SqL.of eq) (atI_nat (j := 2) (ws_at w2)) ?_
    walk_at "go"
    refine ⟨(by decide : 2 ≤ sizeLine), fun q4 hq4 => ?_⟩
    have zz := Same.new (o := .tup [.int (b : Nat), .str (sOf [c])]) hq4
    have e4 := upd_same (H := H3) (a := q4) (o := .tup [.int (b : Nat), .str (sOf [c])])
    generalize upd H3 q4 (.tup [.int (b : Nat), .str (sOf [c])]) = H4 at zz e4
    have z4 := z3.trans zz
    replace eq := zz _ _ eq
    replace eS := zz _ _ eS
    replace ha := (same_tups zz).sq ha
    refine ⟨_, rfl, ?_⟩
    refine ⟨q4, a, _, _, _, _, rfl, rfl, SqT.of e4, ha, ?_⟩
    walk_at "go"
    cases hle : le2 (b : Nat) (sOf [c]) (b0 : Nat) (sOf l0) with
    | true =>
      refine iteT ?_
      walk_at "go"
      refine no3 _ z4 fun c' e h => ?_
      rw [w2] at e
      obtain rfl : c = c' := by injection Option.some.inj e
      have h3 := h.2.2
      unfold le2 at hle
      by_cases cb : ((b : Nat) : Int) = (b0 : Nat)
      · rw [if_pos cb] at hle
        have hlt : l0 < [c] := by
          rcases h3 with h3 | h3
          · omega
          · exact h3
        by_cases cs : sOf [c] = sOf l0
        · rw [← sOf_inj cs] at hlt
          exact absurd hlt (List.lt_irrefl _)
        · rw [if_neg cs, Bool.not_eq_true'] at hle
          exact absurd hlt (of_decide_eq_false hle)
      · rw [if_neg cb] at hle
        have := of_decide_eq_true hle
        omega
    | false =>
    have lc : lettersOk b0 l0 b c := by
      refine ⟨hc2.1, hc2.2, ?_⟩
      unfold le2 at hle
      by_cases cb : ((b : Nat) : Int) = (b0 : Nat)
      · rw [if_pos cb] at hle
        by_cases cs : sOf [c] = sOf l0
        · rw [if_pos cs] at hle; cases hle
        · rw [if_neg cs] at hle
          have : decide ((sOf l0).cps.toList < (sOf [c]).cps.toList) = true := by
            cases hd : decide ((sOf l0).cps.toList < (sOf [c]).cps.toList) with
            | true => rfl
            | false => rw [hd] at hle; cases hle
          exact .inr (of_decide_eq_true this)
      · exact .inl (by omega)
    clear no3 hle
    refine iteF ?_
    walk_at "go"
    refine k_len (.inl (SqL.of eq)) ?_
    rw [ws_len]
    walk_at "go"
    have no4 : ∀ H', Same H H' → (∀ e : Nat, ws[3]? = some (numW (e : Nat)) → ¬ e < n) → Q (.int 4) H' := fun H' z h => fin 4 _ z (stepF_4 c0 w1 b1 bn w2 lc h)
    refine k_ite (fun c4 => ?_) (fun c4 => ?_)
    · walk_at "go"
      exact no4 _ z4 fun b e => by rw [List.getElem?_eq_none (by omega)] at e; cases e
    have l3 : 3 < ws.length := by omega
    have w3 : ws[3]? = some (ws[3]'l3) := List.getElem?_eq_getElem l3
    generalize ws[3]'l3 = v3 at w3
    walk_at "go"
    refine k_ixL (SqL.of eq) (atI_nat (j := 3) (ws_at w3)) ?_
    walk_at "go"
    refine k_in (.inl (SqL.of eS)) rfl (flat_ws _) ?_
    rw [inV_ws]
    rcases Decidable.em (v3 ∈ stdW n) with hin | hin
    rotate_left
    · rw [decide_eq_false hin]
      walk_at "go"
      refine iteT ?_
      walk_at "go"
      exact no4 _ z4 fun e ee h => hin (by rw [w3] at ee; exact mem_std.mpr ⟨e, Option.some.inj ee, h⟩)
    rw [decide_eq_true hin]
    obtain ⟨e, rfl, en⟩ := mem_std.mp hin
    clear no4
    walk_at "go"
    refine iteF ?_
    walk_at "go"
    refine k_len (.inl (SqL.of eq)) ?_
    rw [ws_len]
    walk_at "go"
    have no5 : ∀ H', Same H H' → (∀ g : Int, ws[4]? = some (numW g) → ¬ (-(10 ^ 30) ≤ g ∧ g ≤ 10 ^ 30)) → Q (.int 5) H' := fun H' z h => fin 5 _ z (stepF_5 c0 w1 b1 bn w2 lc w3 en h)
    refine k_ite (fun c5 => ?_) (fun c5 => ?_)
    · walk_at "go"
      exact no5 _ z4 fun b e => by rw [List.getElem?_eq_none (by omega)] at e; cases e
    have l4 : 4 < ws.length := by omega
    have w4 : ws[4]? = some (ws[4]'l4) := List.getElem?_eq_getElem l4
    have s4 := wsh _ (List.getElem_mem l4)
    generalize ws[4]'l4 = v4 at w4 s4
    walk_at "go"
    refine k_ixL (SqL.of eq) (atI_nat (j := 4) (ws_at w4)) ?_
    walk_at "go"
    refine ⟨v4, rfl, s4, fun bo H5 zz hg => ?_⟩
    have z5 := z4.trans zz
    replace eq := zz _ _ eq
    walk_at "go"
    cases bo with
    | false =>
      walk_at "go"
      refine iteT ?_
      walk_at "go"
      refine no5 _ z5 fun g e h => ?_
      rw [w4] at e
      have := hg.mpr ⟨g, Option.some.inj e, h⟩
      cases this
    | true =>
    obtain ⟨g, rfl, g1, g2⟩ := hg.mp rfl
    walk_at "go"
    refine iteF ?_
    walk_at "go"
    refine k_len (.inl (SqL.of eq)) ?_
    rw [ws_len]
    walk_at "go"
    refine k_ite (fun c6 => ?_) (fun c6 => ?_)
    · walk_at "go"
      exact fin 6 _ z5 (stepF_6 c0 w1 b1 bn w2 lc w3 en w4 g1 g2 (by omega))
    · walk_at "go"
      exact fin 0 _ z5 (stepF_0 c0 w1 b1 bn w2 lc w3 en w4 g1 g2 (by omega))
end
/-! ### a machine written -/
def rJoin (K : PySem.W.Frag) : V → List V → Hp → VK → Prop := fun x xs H Q => ∃ a p, ∃ ys : List Str, x = .str a ∧ xs = [.ref p] ∧ (SqL K H p (ys.map V.str) ∨ SqT K H p (ys.map V.str)) ∧ (ys.map (·.length)).sum + ys.length * a.length ≤ 16777216 ∧ Q (.str (Txt.join a ys)) H
def lnW (m : MD) : List Wd := (wLines m).map (TL.joinL [32])
theorem join_ws (sep : Wd) (ws : List Wd) : Txt.join (sOf sep) (ws.map sOf) = sOf (TL.joinL sep ws) := by
  rw [TL.join_eq]
  refine sOf_inj' ?_
  have := TL.tl_join (sOf sep) (ws.map sOf)
  rw [List.map_map] at this
  refine this.trans ?_
  show TL.joinL sep (ws.map id) = _
  rw [List.map_id]
theorem sum_len (ws : List Wd) : ((ws.map sOf).map (·.length)).sum = (ws.map List.length).sum := by
  rw [List.map_map]
  refine congrArg List.sum (List.map_congr_left fun w _ => sOf_len w)
theorem sum_le {ws : List Wd} {b : Nat} (h : ∀ w ∈ ws, w.length ≤ b) : (ws.map List.length).sum ≤ ws.length * b := by
  induction ws with
  | nil => simp
  | cons w ws ih =>
    rw [List.map_cons, List.sum_cons, List.length_cons, Nat.succ_mul]
    have h1 := h w List.mem_cons_self
    have h2 := ih fun x hx => h x (List.mem_cons_of_mem _ hx)
    omega
theorem joinL_len (sep : Wd) : ∀ ws : List Wd, (TL.joinL sep ws).length ≤ (ws.map List.length).sum + ws.length * sep.length
  | [] => Nat.zero_le _
  | [w] => by show w.length ≤ w.length + 0 + 1 * sep.length; omega
  | w :: v :: r => by
    have := joinL_len sep (v :: r)
    show (w ++ (sep ++ TL.joinL sep (v :: r))).length ≤ _
    rw [List.length_append, List.length_append, List.map_cons, List.sum_cons, List.length_cons (as := v :: r), Nat.succ_mul]
    omega
structure WsOk (ws : List Wd) : Prop where
  ok : ∀ w ∈ ws, WordOk w
  sh : ∀ w ∈ ws, w.length ≤ 40
  n : ws.length ≤ 40
  ne : ws ≠ []
theorem WsOk.join {ws : List Wd} (h : WsOk ws) : (TL.joinL [32] ws).length ≤ 2000 := by
  have h1 := joinL_len [32] ws
  have h2 := sum_le h.sh
  have h3 := h.n
  have : ws.length * 40 ≤ 1600 := by omega
  rw [List.length_singleton] at h1
  omega
theorem nat_small {n : Nat} (h : n ≤ 10 ^ 30) : (numW (n : Nat)).length ≤ 40 := Nat.le_trans (numW_len (i := (n : Nat)) (by omega)) (by decide)
theorem lines_ok {m : MD} (o : m.Ok) : ∀ ws ∈ wLines m, WsOk ws := by
  intro ws h
  have n8 := o.n8
  have el := o.el
  rcases List.mem_cons.mp h with rfl | h
  · refine ⟨fun w hw => ?_, fun w hw => ?_, by show 2 ≤ 40; decide, List.cons_ne_nil _ _⟩
    · rcases List.mem_cons.mp hw with rfl | hw
      · exact ⟨by decide, by decide, by decide⟩
      · rw [List.mem_singleton.mp hw]; exact num_word _
    · rcases List.mem_cons.mp hw with rfl | hw
      · decide
      · rw [List.mem_singleton.mp hw]; exact nat_small (by omega)
  rcases List.mem_cons.mp h with rfl | h
  · refine ⟨fun w hw => ?_, fun w hw => ?_, by unfold wEnds; rw [List.length_cons, List.length_map]; omega, List.cons_ne_nil _ _⟩
    · rcases List.mem_cons.mp hw with rfl | hw
      · exact ⟨by decide, by decide, by decide⟩
      · obtain ⟨e, _, rfl⟩ := List.mem_map.mp hw; exact num_word _
    · rcases List.mem_cons.mp hw with rfl | hw
      · decide
      · obtain ⟨e, he, rfl⟩ := List.mem_map.mp hw
        have := o.eb e he
        exact nat_small (by omega)
  · obtain ⟨s, hs, rfl⟩ := List.mem_map.mp h
    have k := o.ok s hs
    have k1 := k.b
    have k2 := k.e
    have k3 := k.c
    have k4 := k.c'
    have k5 := k.g
    have k6 := k.g'
    refine ⟨fun w hw => ?_, fun w hw => ?_, by show 5 ≤ 40; decide, List.cons_ne_nil _ _⟩ <;> unfold wStep at hw <;> simp only [List.mem_cons, List.not_mem_nil, or_false] at hw
    · rcases hw with rfl | rfl | rfl | rfl | rfl
      · exact ⟨by decide, by decide, by decide⟩
      · exact num_word _
      · exact ⟨List.cons_ne_nil _ _, fun h => by have := List.mem_singleton.mp h; omega, fun h => by have := List.mem_singleton.mp h; omega⟩
      · exact num_word _
      · exact num_word _
    · rcases hw with rfl | rfl | rfl | rfl | rfl
      · decide
      · exact nat_small (by omega)
      · show 1 ≤ 40; decide
      · exact nat_small (by omega)
      · exact Nat.le_trans (numW_len (by omega)) (by decide)
theorem lnW_len {m : MD} (o : m.Ok) : (lnW m).length ≤ 34 := by
  have := o.len
  unfold lnW wLines
  rw [List.length_map, List.length_cons, List.length_cons, List.length_map]
  omega
theorem lnW_sum {m : MD} (o : m.Ok) : ((lnW m).map List.length).sum ≤ 68000 := by
  have h := sum_le (ws := lnW m) (b := 2000) fun w hw => by
    obtain ⟨ws, h1, rfl⟩ := List.mem_map.mp hw
    exact (lines_ok o ws h1).join
  have := lnW_len o
  have : (lnW m).length * 2000 ≤ 68000 := by omega
  omega
/-! ### the law's own text -/
/-- lines as lists of words -/
def LlnAt (H : Hp) (us : List V) (wss : List (List Wd)) : Prop := us.length = wss.length ∧ ∀ (i : Nat) (ws : List Wd), wss[i]? = some ws → ∃ q, us[i]? = some (V.ref q) ∧ H q = some (.lst (wsV ws))
theorem LlnAt.same {H H' : Hp} {us : List V} {wss : List (List Wd)} (h : LlnAt H us wss) (z : Same H H') : LlnAt H' us wss := ⟨h.1, fun i ws e => let ⟨q, a, b⟩ := h.2 i ws e; ⟨q, a, z _ _ b⟩⟩
theorem LlnAt.snoc {H : Hp} {us : List V} {wss : List (List Wd)} {ws : List Wd} {q : Addr} (h : LlnAt H us wss) (hq : H q = some (.lst (wsV ws))) : LlnAt H (us ++ [.ref q]) (wss ++ [ws]) := by
  refine ⟨by rw [List.length_append, List.length_append, h.1]; rfl, fun i ws' e => ?_⟩
  by_cases c : i < wss.length
  · rw [List.getElem?_append_left c] at e
    obtain ⟨q', a, b⟩ := h.2 i ws' e
    exact ⟨q', by rw [List.getElem?_append_left (by rw [h.1]; exact c)]; exact a, b⟩
  · rw [List.getElem?_append_right (by omega)] at e
    have z : i - wss.length = 0 := by
      have := (List.getElem?_eq_some_iff.mp e).1
      simp at this
      omega
    rw [z] at e
    cases e
    exact ⟨q, by rw [List.getElem?_append_right (by rw [h.1]; omega), h.1, z]; rfl, hq⟩
/-- all but one list stays, the lines are none of it -/
theorem LlnAt.mut {H H0 : Hp} {C : Addr} {o : HO} {us : List V} {wss : List (List Wd)} (h : LlnAt H us wss) (k : ∀ (i : Nat) q, us[i]? = some (V.ref q) → q ≠ C) (_ : H0 C = none) : LlnAt (upd H C o) us wss := ⟨h.1, fun i ws e => let ⟨q, a, b⟩ := h.2 i ws e; ⟨q, a, by rw [upd_ne (k i q a)]; exact b⟩⟩
def sp_ltext (K : PySem.W.Frag) : Sp := fun vs H Q _ => ∃ (d : Addr) (m : MD), vs = [.ref d] ∧ DAt K H d m ∧ m.Ok ∧ ∀ B us H', Same H H' → H B = none → H' B = some (.lst us) → LlnAt H' us (wLines m) → Q (.ref B) H'
section
variable {P : Program} {w : World} {K : PySem.W.Frag} {mg : Str → Option Value} {base : Heap}
theorem ok_law_text (T : Txt K mg) : FnOk P w K mg base (L2.CX P w) 3 T.a_law_text T.fd_law_text ["_law_d"] (sp_ltext K) := by
  refine T.F_law_text.okX sc_law_text (fun vs H Q E h => ?_) (fun cdv A outer s H vs Q E hr h => ?_)
  · obtain ⟨d, m, rfl, _⟩ := h
    rfl
  · obtain ⟨d, m, rfl, hd, o, k⟩ := h
    obtain ⟨t, u, ed, hpt⟩ := id hd
    have n8 := o.n8
    refine ⟨_, (PSs.nox (pss_cons (ps_set (i := 1) sc_law_text.nd rfl (Or.inl rfl) (pe_lst (pa_cons (pe_lst (pa_cons pe_str (pa_cons (pe_callTy call_str_int (by rfl) T.z_str (by decide +kernel) (pa_cons (pe_dget (hu_of hr) (pv 0) pe_str (fun _ _ => rfl)) pa_nil)) pa_nil))) (pa_cons (pe_op op_cat (pe_lst (pa_cons pe_str pa_nil)) (pe_lc (own := [("_law_end", 4)]) (g := (gName 4)) (tt := tYes) rfl sc_law_text.nd (pi_tup (pe_dget (hu_of hr) (pv 0) pe_str (fun _ _ => rfl))) (blkOk_by (own := [("_law_end", 4)]) (N := ["_law_d", "_law_found", "_law_begun", "_law_letter", "_law_end", "_law_gain_here"]) (sc := defScope s_law_text) (by decide +kernel)) (fun _ _ _ _ _ => (pg_name (i := 4) sc_law_text.nd rfl (Or.inl rfl))) (fun _ _ _ _ _ => pts_nil) (fun _ _ _ _ _ => (pe_callTy call_str_int (by rfl) T.z_str (by decide +kernel) (pa_cons (pv 4) pa_nil))))) pa_nil))))
  (pss_one (ps_ret (pe_op op_cat (pv 1) (pe_lc (own := [("_law_begun", 2), ("_law_letter", 3), ("_law_end", 4), ("_law_gain_here", 5)]) (g := (gTup K 4 (gCons (gName 2) (gCons (gName 3) (gCons (gName 4) (gCons (gName 5) gNil)))))) (tt := tYes) rfl sc_law_text.nd (pi_tup (pe_dget (hu_of hr) (pv 0) pe_str (fun _ _ => rfl))) (blkOk_by (own := [("_law_begun", 2), ("_law_letter", 3), ("_law_end", 4), ("_law_gain_here", 5)]) (N := ["_law_d", "_law_found", "_law_begun", "_law_letter", "_law_end", "_law_gain_here"]) (sc := defScope s_law_text) (by decide +kernel)) (fun _ _ _ _ _ => (pg_tup rfl (pgs_cons (pg_name (i := 2) sc_law_text.nd rfl (Or.inl rfl)) (pgs_cons (pg_name (i := 3) sc_law_text.nd rfl (Or.inl rfl)) (pgs_cons (pg_name (i := 4) sc_law_text.nd rfl (Or.inl rfl)) (pgs_cons (pg_name (i := 5) sc_law_text.nd rfl (Or.inl rfl)) pgs_nil)))))) (fun _ _ _ _ _ => pts_nil) (fun _ _ _ _ _ => (pe_lst (pa_cons pe_str (pa_cons (pe_callTy call_str_int (by rfl) T.z_str (by decide +kernel) (pa_cons (pv 2) pa_nil)) (pa_cons (pv 3) (pa_cons (pe_callTy call_str_int (by rfl) T.z_str (by decide +kernel) (pa_cons (pv 4) pa_nil)) (pa_cons (pe_callTy call_str_int (by rfl) T.z_str (by decide +kernel) (pa_cons (pv 5) pa_nil)) pa_nil))))))))))))), ?_⟩
    walk_at "begin"
    walk_at "go"
    refine ⟨d, .int (m.n : Nat), rfl, DGet.k (k := .inr "stands") ed, ?_⟩
    walk_at "go"
    refine ⟨_, rfl, num_log (by omega), ?_⟩
    rw [num_text]
    walk_at "go"
    refine ⟨(by decide : 2 ≤ sizeLine), fun q1 hq1 => ?_⟩
    walk_at "go"
    refine ⟨(by decide : 1 ≤ sizeLine), fun q2 hq2 => ?_⟩
    have z2 := (Same.new (o := .lst [.str "stands", .str (sOf (numW (m.n : Nat)))]) hq1).trans (Same.new (o := .lst [.str "ends"]) hq2)
    have e1 := (Same.new (o := .lst [.str "ends"]) hq2) _ _ (upd_same (H := H) (a := q1) (o := .lst [.str "stands", .str (sOf (numW (m.n : Nat)))]))
    have e2 := upd_same (H := upd H q1 (.lst [.str "stands", .str (sOf (numW (m.n : Nat)))])) (a := q2) (o := .lst [.str "ends"])
    generalize upd (upd H q1 (.lst [.str "stands", .str (sOf (numW (m.n : Nat)))])) q2 (.lst [.str "ends"]) = H2 at z2 e1 e2
    walk_at "go"
    refine ⟨d, .ref u, rfl, DGet.k (k := .inr "ends") (z2 _ _ ed), u, rfl, ⟨_, (same_tups z2).sq hpt.2⟩, fun C hC => ?_⟩
    have el := o.el
    refine lc_tup (xs := nats m.es) (fun i H' => Same H2 H' ∧ H' C = some (.lst (wsV ((m.es.take i).map fun e => numW ((e : Nat) : Int))))) ⟨Same.new hC, upd_same⟩ (fun i H' _ ⟨z, _⟩ => (same_tups (z2.trans z)).sq hpt.2) ?_ ?_
    · rintro i y H3 hy ⟨z3, eC⟩
      have il : i < m.es.length := by
        have := (List.getElem?_eq_some_iff.mp hy).1
        unfold nats at this
        rwa [List.length_map] at this
      have ei : m.es[i]? = some (m.es[i]'il) := List.getElem?_eq_getElem il
      obtain rfl : y = .int ((m.es[i]'il : Nat) : Int) := by
        unfold nats at hy
        rw [List.getElem?_map, ei] at hy
        exact (Option.some.inj hy).symm
      have tk : (m.es.take (i + 1)).map (fun e => numW ((e : Nat) : Int)) = (m.es.take i).map (fun e => numW ((e : Nat) : Int)) ++ [numW ((m.es[i]'il : Nat) : Int)] := by rw [List.take_add_one, ei, List.map_append]; rfl
      rw [tk]
      have eb := o.eb _ (List.getElem_mem il)
      generalize m.es[i]'il = e at eb
      walk_at "go"
      refine ⟨rfl, ?_⟩
      walk_at "go"
      refine iteT ?_
      walk_at "go"
      refine ⟨_, rfl, num_log (by omega), ?_⟩
      rw [num_text]
      refine ⟨_, eC, Nat.lt_of_le_of_lt (show _ ≤ 8 by unfold wsV; rw [List.length_map, List.length_map, List.length_take]; omega) (by decide), Same.mut z3 hC, ?_⟩
      rw [upd_same]
      unfold wsV
      rw [List.map_append]
      rfl
    · rintro H3 ⟨z3, eC⟩
      have lE : (nats m.es).length = m.es.length := by unfold nats; rw [List.length_map]
      rw [lE, List.take_length] at eC
      refine ⟨q2, C, _, _, rfl, rfl, z3 _ _ e2, eC, Nat.le_trans (show 1 + _ ≤ 100 by unfold wsV; rw [List.length_map, List.length_map]; omega) (by decide), fun q3 hq3 => ?_⟩
      have e3 : (upd H3 q3 (.lst ([.str "ends"] ++ wsV (m.es.map fun e => numW ((e : Nat) : Int))))) q3 = some (.lst (wsV (wEnds m))) := by rw [upd_same]; unfold wEnds wsV; rw [List.map_cons, enW_s]; rfl
      have z4 := z3.trans (Same.new (o := .lst ([.str "ends"] ++ wsV (m.es.map fun e => numW ((e : Nat) : Int)))) hq3)
      generalize upd H3 q3 (.lst ([.str "ends"] ++ wsV (m.es.map fun e => numW ((e : Nat) : Int)))) = H4 at e3 z4
      refine k_nil ?_
      refine ⟨(by decide : 2 ≤ sizeLine), fun B hB => ?_⟩
      have eB : (upd H4 B (.lst [.ref q1, .ref q3])) B = some (.lst [.ref q1, .ref q3]) := upd_same
      have hz : LlnAt (upd H4 B (.lst [.ref q1, .ref q3])) [.ref q1, .ref q3] [wStands m, wEnds m] := by
        refine ⟨rfl, fun i ws e => ?_⟩
        have zB := Same.new (o := .lst [.ref q1, .ref q3]) hB
        match i, e with
        | 0, e => cases e; exact ⟨q1, rfl, zB _ _ (by rw [z4 _ _ e1]; unfold wStands wsV; rw [List.map_cons, stW_s]; rfl)⟩
        | 1, e => cases e; exact ⟨q3, rfl, zB _ _ e3⟩
      have z5 := z2.trans (z4.trans (Same.new (o := .lst [.ref q1, .ref q3]) hB))
      generalize upd H4 B (.lst [.ref q1, .ref q3]) = H5 at eB hz z5
      clear e1 e2 e3 z2 z3 z4 eC hB hq3
      walk_at "go"
      obtain ⟨us, hts, hus⟩ := id ((same_tups z5).parts hpt).1
      refine ⟨d, .ref t, rfl, DGet.k (k := .inr "steps") (z5 _ _ ed), t, rfl, ⟨us, hts⟩, fun D hD => ?_⟩
      refine lc_tup (xs := us) (fun i H' => Same H5 H' ∧ ∃ vs, H' D = some (.lst vs) ∧ LlnAt H' vs ((m.ss.take i).map wStep) ∧ ∀ (j : Nat) q, vs[j]? = some (V.ref q) → q ≠ D) ⟨Same.new hD, [], upd_same, ⟨rfl, fun i ws e => by simp at e⟩, fun j q h => by cases h⟩ (fun i H' _ ⟨z, _⟩ => (same_tups z).sq hts) ?_ ?_
      · rintro i y H6 hy ⟨z6, vs, eD, hvs, hn⟩
        have il : i < m.ss.length := by rw [← hus.1]; exact (List.getElem?_eq_some_iff.mp hy).1
        have es : m.ss[i]? = some (m.ss[i]'il) := List.getElem?_eq_getElem il
        obtain ⟨q, eq, hq⟩ := hus.2 _ _ es
        rw [hy] at eq
        cases eq
        have tk : (m.ss.take (i + 1)).map wStep = (m.ss.take i).map wStep ++ [wStep (m.ss[i]'il)] := by rw [List.take_add_one, es, List.map_append]; rfl
        rw [tk]
        have ok1 := o.ok _ (List.getElem_mem il)
        have l32 := o.len
        generalize m.ss[i]'il = s0 at hq ok1
        have k1 := ok1.b
        have k2 := ok1.e
        have k5 := ok1.g
        have k6 := ok1.g'
        refine k_gt ((same_tups z6).sq hq) rfl ?_
        unfold stpV
        walk_at "go"
        refine ⟨rfl, ?_⟩
        walk_at "go"
        refine iteT ?_
        walk_at "go"
        refine ⟨_, rfl, num_log (by omega), ?_⟩
        rw [num_text]
        walk_at "go"
        refine ⟨_, rfl, num_log (by omega), ?_⟩
        rw [num_text]
        walk_at "go"
        refine ⟨_, rfl, num_log (by omega), ?_⟩
        rw [num_text]
        walk_at "go"
        refine ⟨(by decide : 5 ≤ sizeLine), fun qn hqn => ?_⟩
        have en : (upd H6 qn (.lst [.str "step", .str (sOf (numW (s0.b : Nat))), .str ⟨#[s0.c]⟩, .str (sOf (numW (s0.e : Nat))), .str (sOf (numW s0.g))])) qn = some (.lst (wsV (wStep s0))) := by
          rw [upd_same]
          unfold wStep wsV
          rw [List.map_cons, spwW_s]
          rfl
        have zn := Same.new (o := .lst [.str "step", .str (sOf (numW (s0.b : Nat))), .str ⟨#[s0.c]⟩, .str (sOf (numW (s0.e : Nat))), .str (sOf (numW s0.g))]) hqn
        have nD : qn ≠ D := (ne_of_none eD hqn).symm
        generalize upd H6 qn (.lst [.str "step", .str (sOf (numW (s0.b : Nat))), .str ⟨#[s0.c]⟩, .str (sOf (numW (s0.e : Nat))), .str (sOf (numW s0.g))]) = H7 at en zn
        have hn2 : ∀ (j : Nat) q, (vs ++ [V.ref qn])[j]? = some (V.ref q) → q ≠ D := fun j q e => by
          by_cases c : j < vs.length
          · rw [List.getElem?_append_left c] at e
            exact hn j q e
          · rw [List.getElem?_append_right (by omega)] at e
            have z : j - vs.length = 0 := by
              have := (List.getElem?_eq_some_iff.mp e).1
              simp at this
              omega
            rw [z] at e
            cases e
            exact nD
        exact ⟨vs, zn _ _ eD, Nat.lt_of_le_of_lt (show vs.length ≤ 32 by rw [hvs.1, List.length_map, List.length_take]; omega) (by decide), Same.mut (z6.trans zn) hD, _, upd_same, ((hvs.same zn).snoc en).mut hn2 hD, hn2⟩
      · rintro H6 ⟨z6, vs, eD, hvs, hn⟩
        rw [hus.1, List.take_length] at hvs
        have l32 := o.len
        have lv : vs.length = m.ss.length := by rw [hvs.1, List.length_map]
        refine ⟨B, D, [.ref q1, .ref q3], vs, rfl, rfl, z6 _ _ eB, eD, Nat.le_trans (show 2 + vs.length ≤ 100 by omega) (by decide), fun R hR => ?_⟩
        have zR := Same.new (o := .lst ([.ref q1, .ref q3] ++ vs)) hR
        have hR0 : H R = none := free_of (z5.trans z6) hR
        refine k R _ _ (z5.trans (z6.trans zR)) hR0 upd_same ⟨?_, fun i ws e => ?_⟩
        · unfold wLines
          simp only [List.length_append, List.length_cons, List.length_nil, List.length_map]
          omega
        · match i, e with
          | 0, e => exact ((hz.same z6).same zR).2 0 ws e
          | 1, e => exact ((hz.same z6).same zR).2 1 ws e
          | i + 2, e => exact (hvs.same zR).2 i ws e
end
/-! ### the law's own verdict -/
theorem k_rng2 {ta : TA} {σ : L2.St} {H : Hp} {R : It → Hp → Prop} (h : ta σ H fun vs H1 => ∃ i j : Int, vs = [.int i, .int j] ∧ (-(2 ^ 62) ≤ i ∧ i < 2 ^ 62 ∧ -(2 ^ 62) ≤ j ∧ j < 2 ^ 62) ∧ R (Itr i (j - i).toNat) H1) : iRng2 ta σ H R := h
structure WsG (k : Nat) (ws : List Wd) : Prop where
  n : ws.length ≤ k
  ok : ∀ w ∈ ws, WordOk w ∧ w.length ≤ 40 ∧ LowW w
structure RowsG (k : Nat) (wss : List (List Wd)) : Prop where
  n1 : 1 ≤ wss.length
  n : wss.length ≤ 34 + k
  ok : ∀ ws ∈ wss, WsG (9 + k) ws
theorem stepF_zero {n b0 : Nat} {l0 : Wd} {ws : List Wd} (h : stepF n b0 l0 ws = 0) : ∃ (b : Nat) (w2 : Wd), ws[1]? = some (numW (b : Nat)) ∧ b < n ∧ ws[2]? = some w2 := by
  have h0 : ws[0]? = some spwW := Classical.byContradiction fun z => by rw [stepF_1 z] at h; cases h
  have h1 : ∃ b : Nat, ws[1]? = some (numW (b : Nat)) ∧ b0 ≤ b ∧ b < n := Classical.byContradiction fun z => by rw [stepF_2 h0 (fun b e q => z ⟨b, e, q⟩)] at h; cases h
  obtain ⟨b, e1, b1, b2⟩ := h1
  have h2 : ∃ c, ws[2]? = some [c] ∧ lettersOk b0 l0 b c := Classical.byContradiction fun z => by rw [stepF_3 h0 e1 b1 b2 (fun c e q => z ⟨c, e, q⟩)] at h; cases h
  obtain ⟨c, e2, _⟩ := h2
  exact ⟨b, [c], e1, b2, e2⟩
theorem endsF_bad1 {n lo k : Nat} {w : Wd} {r : List Wd} (h : ∀ e : Nat, w = numW (e : Nat) → ¬ (lo ≤ e ∧ e < n)) : endsF n lo k (w :: r) = some k := if_neg fun ⟨e, a, b, c⟩ => h e a ⟨b, c⟩
theorem endsF_go {n lo k e : Nat} (n8 : n ≤ 8) {r : List Wd} (h1 : lo ≤ e) (h2 : e < n) : endsF n lo k (numW (e : Nat) :: r) = endsF n (e + 1) (k + 1) r := by
  have : endsF n lo k (numW (e : Nat) :: r) = endsF n (decW (numW (e : Nat)) + 1) (k + 1) r := if_pos ⟨e, rfl, h1, h2⟩
  rw [this, decW_num (by omega)]
def sp_lwrong : Sp := fun vs H Q _ => ∃ (r : Addr) (us : List V) (wss : List (List Wd)), vs = [.ref r] ∧ H r = some (.lst us) ∧ LlnAt H us wss ∧ RowsG 50 wss ∧ ∀ v H', Same H H' → VerV H' v (textF wss) → Q v H'
theorem std8 : ([V.str "1", V.str "2", V.str "3", V.str "4", V.str "5", V.str "6", V.str "7", V.str "8"] : List V) = wsV ((List.range 8).map fun e => numW (((e + 1 : Nat)) : Int)) := by
  have h : (List.range 8).map (fun e => numW (((e + 1 : Nat)) : Int)) = [[49], [50], [51], [52], [53], [54], [55], [56]] := by decide +kernel
  rw [h]
  rfl
section
variable {P : Program} {w : World} {K : PySem.W.Frag} {mg : Str → Option Value} {base : Heap}
theorem ok_law_wrong (T : Txt K mg) : FnOk P w K mg base (L2.CX P w) 5 T.a_law_wrong T.fd_law_wrong ["_law_rows"] sp_lwrong := by
  refine T.F_law_wrong.okX sc_law_wrong (fun vs H Q E h => ?_) (fun cdv A outer s H vs Q E hr h => ?_)
  · obtain ⟨r, us, wss, rfl, _⟩ := h
    rfl
  · obtain ⟨r, us, wss, rfl, er, hl, rg, k⟩ := h
    have lu := hl.1
    have n1 := rg.n1
    have n84 := rg.n
    have ret : ∀ i j H1 q, Same H H1 → H1 q = none → textF wss = some (i, j) → Q (.ref q) (upd H1 q (.lst [.int (i : Nat), .int (j : Nat)])) := fun i j H1 q z hq e => k _ _ (z.trans (Same.new hq)) (by rw [e]; exact ⟨q, rfl, upd_same⟩)
    have ew0 : wss[0]? = some (wss[0]'(by omega)) := List.getElem?_eq_getElem _
    have g0 := rg.ok _ (List.getElem_mem (show 0 < wss.length by omega))
    generalize wss[0]'(by omega) = w0 at ew0 g0
    have d0 : wss.getD 0 [] = w0 := getD_some ew0
    obtain ⟨q0, eu0, eq0⟩ := hl.2 0 _ ew0
    have low : ∀ {ws : List Wd}, WsG 59 ws → ∀ w ∈ ws, LowW w := fun g w hw => (g.ok w hw).2.2
    refine ⟨_, (PSs.nox (pss_cons (ps_if (pt_cmpR (op_neD hr.units) (pe_slice sl_list (pe_ix ix_list (pv 0) pe_int (fun _ _ => rfl)) po_none (po_some pe_int)) (pe_lst (pa_cons pe_str pa_nil)) (nomark _))
  (pss_one (ps_ret (pe_lst (pa_cons pe_int (pa_cons pe_int pa_nil)))))
  pss_nil)
  (pss_cons (ps_if (PW.pt (pw_or (pt_cmpR op_lt (pe_callB call_len_seq (by rfl) T.z_len PySem.boot_len (pa_cons (pe_ix ix_list (pv 0) pe_int (fun _ _ => rfl)) pa_nil)) pe_int (nomark _)) (pw_or1 (pt_cmpR op_notIn_seq (pe_ix ix_list (pe_ix ix_list (pv 0) pe_int (fun _ _ => rfl)) pe_int (fun _ _ => rfl)) (pe_lst (pa_cons pe_str (pa_cons pe_str (pa_cons pe_str (pa_cons pe_str (pa_cons pe_str (pa_cons pe_str (pa_cons pe_str (pa_cons pe_str pa_nil))))))))) (by rfl)))))
  (pss_one (ps_ret (pe_lst (pa_cons pe_int (pa_cons pe_int pa_nil)))))
  pss_nil)
  (pss_cons (ps_if (pt_cmpR op_gt (pe_callB call_len_seq (by rfl) T.z_len PySem.boot_len (pa_cons (pe_ix ix_list (pv 0) pe_int (fun _ _ => rfl)) pa_nil)) pe_int (nomark _))
  (pss_one (ps_ret (pe_lst (pa_cons pe_int (pa_cons pe_int pa_nil)))))
  pss_nil)
  (pss_cons (ps_setLc (i := 1) (own := [("_law_stand", 6)]) (g := (gName 6)) (tt := tYes) rfl sc_law_wrong.nd rfl rfl (sw_true rfl rfl rfl (by decide +kernel)) (pi_range1 (by rfl) T.z_range (pa_cons (pe_callTy call_int_str (by rfl) T.z_int PySem.Pv.boot_int (pa_cons (pe_ix ix_list (pe_ix ix_list (pv 0) pe_int (fun _ _ => rfl)) pe_int (fun _ _ => rfl)) pa_nil)) pa_nil)) (blkOk_by (own := [("_law_stand", 6)]) (N := ["_law_rows", "_law_stands", "_law_at", "_law_ahead", "_law_k", "_law_wrong_here", "_law_stand"]) (sc := defScope s_law_wrong) (by decide +kernel)) (fun _ _ _ _ _ => (pg_name (i := 6) sc_law_wrong.nd rfl (Or.inl rfl))) (fun _ _ _ _ _ => pts_nil) (fun _ _ _ _ _ => (pe_callTy call_str_int (by rfl) T.z_str (by decide +kernel) (pa_cons (pv 6) pa_nil))))
  (pss_cons (ps_if (PW.pt (pw_or (pt_cmpR op_lt (pe_callB call_len_seq (by rfl) T.z_len PySem.boot_len (pa_cons (pv 0) pa_nil)) pe_int (nomark _)) (pw_or1 (pt_cmpR (op_neD hr.units) (pe_slice sl_list (pe_ix ix_list (pv 0) pe_int (fun _ _ => rfl)) po_none (po_some pe_int)) (pe_lst (pa_cons pe_str pa_nil)) (nomark _)))))
  (pss_one (ps_ret (pe_lst (pa_cons pe_int (pa_cons pe_int pa_nil)))))
  pss_nil)
  (pss_cons (ps_for PassesOwn.never rfl (pi_range2 (by rfl) T.z_range (pa_cons pe_int (pa_cons (pe_callB call_len_seq (by rfl) T.z_len PySem.boot_len (pa_cons (pe_ix ix_list (pv 0) pe_int (fun _ _ => rfl)) pa_nil)) pa_nil))) (pg_name (i := 2) sc_law_wrong.nd rfl (Or.inl rfl))
  (pss_one (ps_if (PW.pt (pw_or (pt_cmpR op_notIn_seq (pe_ix ix_list (pe_ix ix_list (pv 0) pe_int (fun _ _ => rfl)) (pv 2) (fun _ _ => rfl)) (pv 1) (by rfl)) (pw_or1 (PW.pt (pw_and (pt_cmpR op_gt (pv 2) pe_int (nomark _)) (pw_and1 (pt_cmpR op_le (pe_callTy call_int_str (by rfl) T.z_int PySem.Pv.boot_int (pa_cons (pe_ix ix_list (pe_ix ix_list (pv 0) pe_int (fun _ _ => rfl)) (pv 2) (fun _ _ => rfl)) pa_nil)) (pe_callTy call_int_str (by rfl) T.z_int PySem.Pv.boot_int (pa_cons (pe_ix ix_list (pe_ix ix_list (pv 0) pe_int (fun _ _ => rfl)) (pe_op op_sub (pv 2) pe_int) (fun _ _ => rfl)) pa_nil)) (nomark _))))))))
  (pss_one (ps_ret (pe_lst (pa_cons pe_int (pa_cons (pe_op op_add (pv 2) pe_int) pa_nil)))))
  pss_nil)))
  (pss_cons (ps_set (i := 3) sc_law_wrong.nd rfl (Or.inl rfl) (pe_tup (pa_cons pe_int (pa_cons pe_str pa_nil))))
  (pss_cons (ps_for PassesOwn.never rfl (pi_range2 (by rfl) T.z_range (pa_cons pe_int (pa_cons (pe_callB call_len_seq (by rfl) T.z_len PySem.boot_len (pa_cons (pv 0) pa_nil)) pa_nil))) (pg_name (i := 4) sc_law_wrong.nd rfl (Or.inl rfl))
  (pss_cons (ps_set (i := 5) sc_law_wrong.nd rfl (Or.inl rfl) (pe_call (ok_law_step T) (hr.mono (by decide)) (by rfl) T.m_law_step T.k_law_step T.b_law_step .nil passL (pa_cons (pe_ix ix_list (pv 0) (pv 4) (fun _ _ => rfl)) (pa_cons (pv 1) (pa_cons (pv 3) pa_nil)))))
  (pss_cons (ps_if (pt_cmp (pc_notN (pv 5)))
  (pss_one (ps_ret (pe_lst (pa_cons (pe_op op_add (pv 4) pe_int) (pa_cons (pv 5) pa_nil)))))
  pss_nil)
  (pss_one (ps_set (i := 3) sc_law_wrong.nd rfl (Or.inl rfl) (pe_tup (pa_cons (pe_callTy call_int_str (by rfl) T.z_int PySem.Pv.boot_int (pa_cons (pe_ix ix_list (pe_ix ix_list (pv 0) (pv 4) (fun _ _ => rfl)) pe_int (fun _ _ => rfl)) pa_nil)) (pa_cons (pe_ix ix_list (pe_ix ix_list (pv 0) (pv 4) (fun _ _ => rfl)) pe_int (fun _ _ => rfl)) pa_nil))))))))
  (pss_one (ps_ret pe_non))))))))))), ?_⟩
    walk_at "begin"
    walk_at "go"
    refine k_ixL (SqL.of er) (atI_nat (j := 0) eu0) ?_
    walk_at "go"
    refine ⟨q0, _, rfl, SqL.of eq0, fun q1 hq1 => ?_⟩
    rw [show cutV (wsV w0) none (some 1) = wsV (w0.take 1) from (cutV_take _ 1).trans (ws_take w0 1)]
    have z1 := Same.new (o := .lst (wsV (w0.take 1))) hq1
    have e1 := upd_same (H := H) (a := q1) (o := .lst (wsV (w0.take 1)))
    generalize upd H q1 (.lst (wsV (w0.take 1))) = H1 at z1 e1
    walk_at "go"
    refine ⟨(by decide : 1 ≤ sizeLine), fun q2 hq2 => ?_⟩
    walk_at "go"
    have z2 := z1.trans (Same.new (o := .lst [V.str "stands"]) hq2)
    replace e1 := (Same.new (o := .lst [V.str "stands"]) hq2) _ _ e1
    have e2 := upd_same (H := H1) (a := q2) (o := .lst [V.str "stands"])
    generalize upd H1 q2 (.lst [V.str "stands"]) = H2 at z2 e1 e2
    refine k_first (low g0) (fun c hc => (by decide : ∀ c ∈ stW, c < 128) c hc) e1 e2 stW_s.symm ?_
    clear e1 e2 hq1 hq2 z1
    replace er := z2 _ _ er
    replace hl := hl.same z2
    replace eq0 := z2 _ _ eq0
    walk_at "go"
    rcases Decidable.em (w0[0]? ≠ some stW) with c0 | c0
    · rw [decide_eq_false c0]
      refine iteT ?_
      walk_at "go"
      refine ⟨(by decide : 2 ≤ sizeLine), fun q hq => ?_⟩
      walk_at "go"
      exact ret 1 1 _ q z2 hq (textF_11 (by rw [d0]; exact c0))
    have c0 := Decidable.not_not.mp c0
    rw [decide_eq_true c0]
    refine iteF ?_
    walk_at "go"
    have no2 : (∀ n : Nat, w0[1]? = some (numW (n : Nat)) → ¬ (1 ≤ n ∧ n ≤ 8)) → textF wss = some (1, 2) := fun h => textF_12 (by rw [d0]; exact c0) (by rw [d0]; exact h)
    refine k_ixL (SqL.of er) (atI_nat (j := 0) eu0) ?_
    walk_at "go"
    refine k_len (.inl (SqL.of eq0)) ?_
    rw [ws_len]
    walk_at "go"
    refine k_ite (fun c1 => ?_) (fun c1 => ?_)
    · walk_at "go"
      refine ⟨(by decide : 2 ≤ sizeLine), fun q hq => ?_⟩
      walk_at "go"
      exact ret 1 2 _ q z2 hq (no2 fun b e => by rw [List.getElem?_eq_none (by omega)] at e; cases e)
    have l1 : 1 < w0.length := by omega
    have x1 : w0[1]? = some (w0[1]'l1) := List.getElem?_eq_getElem l1
    have s1 := (g0.ok _ (List.getElem_mem l1)).2.1
    generalize w0[1]'l1 = v1 at x1 s1
    walk_at "go"
    refine k_ixL (SqL.of er) (atI_nat (j := 0) eu0) ?_
    walk_at "go"
    refine k_ixL (SqL.of eq0) (atI_nat (j := 1) (ws_at x1)) ?_
    walk_at "go"
    refine ⟨(by decide : 8 ≤ sizeLine), fun q3 hq3 => ?_⟩
    walk_at "go"
    rw [std8]
    generalize hs8 : ((List.range 8).map fun e => numW (((e + 1 : Nat)) : Int)) = s8
    have m8 : ∀ w, w ∈ s8 ↔ ∃ n : Nat, w = numW (n : Nat) ∧ 1 ≤ n ∧ n ≤ 8 := fun w => by
      rw [← hs8, List.mem_map]
      exact ⟨fun ⟨e, h, q⟩ => ⟨e + 1, q.symm, by omega, by have := List.mem_range.mp h; omega⟩, fun ⟨n, q, a, b⟩ => ⟨n - 1, List.mem_range.mpr (by omega), by rw [q, show n - 1 + 1 = n by omega]⟩⟩
    clear hs8
    have zz := Same.new (o := .lst (wsV s8)) hq3
    have e3 := upd_same (H := H2) (a := q3) (o := .lst (wsV s8))
    generalize upd H2 q3 (.lst (wsV s8)) = H3 at zz e3
    have z3 := z2.trans zz
    replace er := zz _ _ er
    replace hl := hl.same zz
    replace eq0 := zz _ _ eq0
    refine k_in (.inl (SqL.of e3)) rfl (flat_ws _) ?_
    rw [inV_ws]
    rcases Decidable.em (v1 ∈ s8) with hin | hin
    rotate_left
    · rw [decide_eq_false hin]
      walk_at "go"
      refine iteT ?_
      walk_at "go"
      refine ⟨(by decide : 2 ≤ sizeLine), fun q hq => ?_⟩
      walk_at "go"
      exact ret 1 2 _ q z3 hq (no2 fun n e h => hin ((m8 v1).mpr ⟨n, by rw [x1] at e; exact Option.some.inj e, h⟩))
    rw [decide_eq_true hin]
    obtain ⟨n, rfl, n1', n8⟩ := (m8 v1).mp hin
    clear hin m8 no2 e3 zz hq3
    walk_at "go"
    refine iteF ?_
    walk_at "go"
    refine k_ixL (SqL.of er) (atI_nat (j := 0) eu0) ?_
    walk_at "go"
    refine k_len (.inl (SqL.of eq0)) ?_
    rw [ws_len]
    walk_at "go"
    refine k_ite (fun c2 => ?_) (fun c2 => ?_)
    · walk_at "go"
      refine ⟨(by decide : 2 ≤ sizeLine), fun q hq => ?_⟩
      walk_at "go"
      exact ret 1 3 _ q z3 hq (textF_13 (by rw [d0]; exact c0) (by rw [d0]; exact x1) n1' n8 (by rw [d0]; omega))
    have f : Fst wss n := ⟨by
      rw [d0]
      have l2 : w0.length = 2 := by omega
      match w0, l2, c0, x1 with
      | [a, b], _, c0, x1 => cases c0; cases x1; rfl, n1', n8⟩
    clear c0 c1 c2
    walk_at "go"
    refine k_ixL (SqL.of er) (atI_nat (j := 0) eu0) ?_
    walk_at "go"
    refine k_ixL (SqL.of eq0) (atI_nat (j := 1) (ws_at x1)) ?_
    refine k_nil ?_
    refine ⟨_, _, rfl, num_int (Nat.le_trans s1 (by decide)), by rw [sOf_len]; exact Nat.le_trans s1 (by decide), ?_⟩
    refine k_nil ?_
    refine ⟨_, rfl, by omega, by omega, fun S hS => ?_⟩
    refine lc_range (lo := 0) (n := ((n : Nat) : Int).toNat) (fun i H' => Same H3 H' ∧ H' S = some (.lst (wsV (stdW i)))) ⟨Same.new hS, upd_same⟩ ?_ ?_
    · rintro i H4 hi ⟨z4, e4⟩
      rw [show ((0 : Int) + (i : Nat)) = ((i : Nat) : Int) by omega]
      have hi : i < n := hi
      walk_at "go"
      refine ⟨rfl, ?_⟩
      walk_at "go"
      refine iteT ?_
      walk_at "go"
      refine ⟨_, rfl, num_log (by omega), ?_⟩
      rw [num_text]
      refine ⟨_, e4, Nat.lt_of_le_of_lt (show _ ≤ 8 by rw [ws_len]; unfold stdW; rw [List.length_map, List.length_range]; omega) (by decide), Same.mut z4 hS, ?_⟩
      rw [upd_same]
      unfold wsV stdW
      rw [List.range_succ, List.map_append, List.map_append]
      rfl
    rintro H4 ⟨z4, e4⟩
    rw [show (((n : Nat) : Int)).toNat = n from rfl] at e4
    have hS0 : H S = none := free_of z3 hS
    replace er := z4 _ _ er
    replace hl := hl.same z4
    replace z4 := z3.trans z4
    clear eq0 z3 hS
    walk_at "go"
    refine k_len (.inl (SqL.of er)) ?_
    rw [lu]
    walk_at "go"
    refine k_ite (fun c3 => ?_) (fun c3 => ?_)
    · walk_at "go"
      refine ⟨(by decide : 2 ≤ sizeLine), fun q hq => ?_⟩
      walk_at "go"
      exact ret 2 1 _ q z4 hq (textF_21 f (by rw [List.getD_eq_getElem?_getD, show wss[1]? = none from List.getElem?_eq_none (by omega)]; intro z; cases z))
    have l1' : 1 < wss.length := by omega
    have ew1 : wss[1]? = some (wss[1]'l1') := List.getElem?_eq_getElem l1'
    have g1 := rg.ok _ (List.getElem_mem l1')
    generalize wss[1]'l1' = w1 at ew1 g1
    have d1 : wss.getD 1 [] = w1 := getD_some ew1
    obtain ⟨q1, eu1, eq1⟩ := hl.2 1 _ ew1
    walk_at "go"
    refine k_ixL (SqL.of er) (atI_nat (j := 1) eu1) ?_
    walk_at "go"
    refine ⟨q1, _, rfl, SqL.of eq1, fun p1 hp1 => ?_⟩
    rw [show cutV (wsV w1) none (some 1) = wsV (w1.take 1) from (cutV_take _ 1).trans (ws_take w1 1)]
    have y1 := Same.new (o := .lst (wsV (w1.take 1))) hp1
    have f1 := upd_same (H := H4) (a := p1) (o := .lst (wsV (w1.take 1)))
    generalize upd H4 p1 (.lst (wsV (w1.take 1))) = H5 at y1 f1
    walk_at "go"
    refine ⟨(by decide : 1 ≤ sizeLine), fun p2 hp2 => ?_⟩
    walk_at "go"
    have y2 := y1.trans (Same.new (o := .lst [V.str "ends"]) hp2)
    replace f1 := (Same.new (o := .lst [V.str "ends"]) hp2) _ _ f1
    have f2 := upd_same (H := H5) (a := p2) (o := .lst [V.str "ends"])
    generalize upd H5 p2 (.lst [V.str "ends"]) = H6 at y2 f1 f2
    refine k_first (low g1) (fun c hc => (by decide : ∀ c ∈ enW, c < 128) c hc) f1 f2 enW_s.symm ?_
    clear f1 f2 hp1 hp2 y1
    replace er := y2 _ _ er
    replace hl := hl.same y2
    replace eq1 := y2 _ _ eq1
    replace e4 := y2 _ _ e4
    have z6 := z4.trans y2
    clear z4 y2
    walk_at "go"
    rcases Decidable.em (w1[0]? ≠ some enW) with c4 | c4
    · rw [decide_eq_false c4]
      refine iteT ?_
      walk_at "go"
      refine ⟨(by decide : 2 ≤ sizeLine), fun q hq => ?_⟩
      walk_at "go"
      exact ret 2 1 _ q z6 hq (textF_21 f (by rw [d1]; exact c4))
    have c4 := Decidable.not_not.mp c4
    rw [decide_eq_true c4]
    refine iteF ?_
    have no2k : ∀ j, endsF n 0 2 (w1.drop 1) = some j → textF wss = some (2, j) := fun j h => textF_2k f (by rw [d1]; exact c4) (by rw [d1]; exact h)
    have ok2 : endsF n 0 2 (w1.drop 1) = none → textF wss = stepsF n 3 0 [] (wss.drop 2) := fun h => textF_3 f (by rw [d1]; exact c4) (by rw [d1]; exact h)
    have lw1 := g1.n
    have l0' : 0 < w1.length := (List.getElem?_eq_some_iff.mp c4).1
    clear c4
    walk_at "go"
    refine k_rng2 ?_
    walk_at "go"
    refine k_ixL (SqL.of er) (atI_nat (j := 1) eu1) ?_
    refine k_nil ?_
    refine k_len (.inl (SqL.of eq1)) ?_
    rw [ws_len]
    walk_at "go"
    refine ⟨_, _, rfl, ⟨by decide, by decide, by omega, by omega⟩, ?_⟩
    have tn : (((w1.length : Nat) : Int) - 1).toNat = w1.length - 1 := by omega
    refine for_range (lo := 1) (n := (((w1.length : Nat) : Int) - 1).toNat) (fun i σ H' => Same H6 H' ∧ ∃ (lo : Nat) (a2 : Option V), endsF n 0 2 (w1.drop 1) = endsF n lo (i + 2) (w1.drop (i + 1)) ∧ (i = 0 → lo = 0) ∧ (i ≠ 0 → ∃ e : Nat, w1[i]? = some (numW (e : Nat)) ∧ lo = e + 1) ∧
      σ = [some (.ref r), some (.ref S), a2, none, none, none, none]) ⟨Same.refl _, 0, none, rfl, (fun _ => rfl), (fun h => absurd rfl h), rfl⟩ ?_ ?_
    · rintro i σ H7 hi ⟨z7, lo, a2, hF, hi0, hi1, rfl⟩
      rw [tn] at hi
      have li : i + 1 < w1.length := by omega
      have xi : w1[i + 1]? = some (w1[i + 1]'li) := List.getElem?_eq_getElem li
      have dc : w1.drop (i + 1) = w1[i + 1]'li :: w1.drop (i + 1 + 1) := List.drop_eq_getElem_cons li
      have si := (g1.ok _ (List.getElem_mem li)).2.1
      generalize w1[i + 1]'li = vi at xi dc si
      rw [dc] at hF
      have er7 := z7 _ _ er
      have eq7 := z7 _ _ eq1
      have e7 := z7 _ _ e4
      have z07 := z6.trans z7
      have bad : (∀ e : Nat, vi = numW (e : Nat) → ¬ (lo ≤ e ∧ e < n)) → ∀ q, H7 q = none → Q (.ref q) (upd H7 q (.lst [.int 2, .int ((1 : Int) + (i : Nat) + 1)])) := fun h q hq => by
        rw [show ((1 : Int) + (i : Nat) + 1) = ((i + 2 : Nat) : Int) by omega]
        exact ret 2 (i + 2) _ q z07 hq (no2k _ (hF.trans (endsF_bad1 h)))
      have e1i : ((1 : Int) + (i : Nat)) = ((i + 1 : Nat) : Int) := by omega
      walk_at "go"
      refine k_ixL (SqL.of er7) (atI_nat (j := 1) eu1) ?_
      walk_at "go"
      refine k_ixL (SqL.of eq7) (by rw [e1i]; exact atI_nat (ws_at xi)) ?_
      walk_at "go"
      refine k_in (.inl (SqL.of e7)) rfl (flat_ws _) ?_
      rw [inV_ws]
      rcases Decidable.em (vi ∈ stdW n) with hin | hin
      rotate_left
      · rw [decide_eq_false hin]
        walk_at "go"
        refine iteT ?_
        refine iteT ?_
        walk_at "go"
        refine ⟨(by decide : 2 ≤ sizeLine), fun q hq => ?_⟩
        walk_at "go"
        exact bad (fun e h h2 => hin (mem_std.mpr ⟨e, h, h2.2⟩)) q hq
      rw [decide_eq_true hin]
      obtain ⟨e, rfl, en⟩ := mem_std.mp hin
      walk_at "go"
      refine iteF ?_
      have goOn : lo ≤ e → endsF n 0 2 (w1.drop 1) = endsF n (e + 1) (i + 1 + 2) (w1.drop (i + 1 + 1)) := fun h => hF.trans (endsF_go n8 h en)
      walk_at "go"
      refine k_ite (fun c5 => ?_) (fun c5 => ?_)
      · have i0 : i ≠ 0 := by omega
        obtain ⟨e', xe, rfl⟩ := hi1 i0
        have s' : (numW (e' : Nat)).length ≤ 40 := by
          obtain ⟨h1, h2⟩ := List.getElem?_eq_some_iff.mp xe
          have := (g1.ok _ (List.getElem_mem h1)).2.1
          rwa [h2] at this
        walk_at "go"
        refine k_ixL (SqL.of er7) (atI_nat (j := 1) eu1) ?_
        walk_at "go"
        refine k_ixL (SqL.of eq7) (by rw [e1i]; exact atI_nat (ws_at xi)) ?_
        refine k_nil ?_
        refine ⟨_, _, rfl, num_int (Nat.le_trans si (by decide)), by rw [sOf_len]; exact Nat.le_trans si (by decide), ?_⟩
        walk_at "go"
        refine k_ixL (SqL.of er7) (atI_nat (j := 1) eu1) ?_
        walk_at "go"
        refine k_ixL (SqL.of eq7) (by rw [show ((1 : Int) + (i : Nat) - 1) = ((i : Nat) : Int) by omega]; exact atI_nat (ws_at xe)) ?_
        refine k_nil ?_
        refine ⟨_, _, rfl, num_int (Nat.le_trans s' (by decide)), by rw [sOf_len]; exact Nat.le_trans s' (by decide), ?_⟩
        walk_at "go"
        refine k_ite (fun c6 => ?_) (fun c6 => ?_)
        · walk_at "go"
          refine ⟨(by decide : 2 ≤ sizeLine), fun q hq => ?_⟩
          walk_at "go"
          exact bad (fun e2 h h2 => by
            have := numW_inj h
            omega) q hq
        · exact ⟨z7, e + 1, _, goOn (by omega), (fun h => by omega), (fun _ => ⟨e, xi, rfl⟩), rfl⟩
      · have i0 : i = 0 := by omega
        exact ⟨z7, e + 1, _, goOn (by rw [hi0 i0]; omega), (fun h => by omega), (fun _ => ⟨e, xi, rfl⟩), rfl⟩
    rintro σ H7 ⟨z7, lo, a2, hF, _, _, rfl⟩
    rw [tn, Nat.sub_add_cancel l0', List.drop_length] at hF
    have tF := ok2 hF
    clear no2k ok2 hF eq1
    replace er := z7 _ _ er
    replace hl := hl.same z7
    replace e4 := z7 _ _ e4
    replace z7 := z6.trans z7
    clear z6
    walk_at "go"
    refine ⟨(by decide : 2 ≤ sizeLine), fun a ha => ?_⟩
    have zz := Same.new (o := .tup [.int 0, .str ""]) ha
    have ea := upd_same (H := H7) (a := a) (o := .tup [.int 0, .str ""])
    generalize upd H7 a (.tup [.int 0, .str ""]) = H8 at zz ea
    replace er := zz _ _ er
    replace hl := hl.same zz
    replace e4 := zz _ _ e4
    have z8 := z7.trans zz
    clear zz ha z7
    walk_at "go"
    refine k_rng2 ?_
    walk_at "go"
    refine k_len (.inl (SqL.of er)) ?_
    rw [lu]
    walk_at "go"
    refine ⟨_, _, rfl, ⟨by decide, by decide, by omega, by omega⟩, ?_⟩
    have tn2 : (((wss.length : Nat) : Int) - 2).toNat = wss.length - 2 := by omega
    refine for_range (lo := 2) (n := (((wss.length : Nat) : Int) - 2).toNat) (fun i σ H' => Same H8 H' ∧ ∃ (a : Addr) (b0 : Nat) (l0 : Wd) (a4 a5 : Option V), SqT K H' a [.int (b0 : Nat), .str (sOf l0)] ∧ textF wss = stepsF n (i + 3) b0 l0 (wss.drop (i + 2)) ∧
      σ = [some (.ref r), some (.ref S), a2, some (.ref a), a4, a5, none]) ⟨Same.refl _, a, 0, [], none, none, SqT.of ea, tF, rfl⟩ ?_ ?_
    · clear ea
      rintro i σ H9 hi ⟨z9, a, b0, l0, a4, a5, ha, hF, rfl⟩
      rw [tn2] at hi
      have li : i + 2 < wss.length := by omega
      have xi : wss[i + 2]? = some (wss[i + 2]'li) := List.getElem?_eq_getElem li
      have dc : wss.drop (i + 2) = wss[i + 2]'li :: wss.drop (i + 2 + 1) := List.drop_eq_getElem_cons li
      have gi := rg.ok _ (List.getElem_mem li)
      generalize wss[i + 2]'li = ws at xi dc gi
      rw [dc] at hF
      have er9 := z9 _ _ er
      have e9 := z9 _ _ e4
      obtain ⟨q, eu, eq⟩ := (hl.same z9).2 (i + 2) _ xi
      have z09 := z8.trans z9
      have e2i : ((2 : Int) + (i : Nat)) = ((i + 2 : Nat) : Int) := by omega
      have lwi := gi.n
      walk_at "go"
      refine k_ixL (SqL.of er9) (by rw [e2i]; exact atI_nat eu) ?_
      walk_at "go"
      refine ⟨q, S, a, n, b0, l0, ws, rfl, eq, e9, ha, n8, by omega, fun w hw => Nat.le_trans (gi.ok w hw).2.1 (by decide), low gi, fun H10 z10 => ?_⟩
      have z0 := z09.trans z10
      cases hs : stepF n b0 l0 ws with
      | succ j =>
        have e := stepsF_bad (i := i + 3) (r := wss.drop (i + 2 + 1)) hs
        walk_at "go"
        refine k_yes (by rfl) ?_
        walk_at "go"
        refine ⟨(by decide : 2 ≤ sizeLine), fun q2 hq2 => ?_⟩
        walk_at "go"
        have := ret (i + 3) (j + 1) H10 q2 z0 hq2 (hF.trans e)
        rw [show ((2 : Int) + (i : Nat) + 1) = ((i + 3 : Nat) : Int) by omega]
        exact this
      | zero =>
        obtain ⟨b, w2, x1, bn, x2⟩ := stepF_zero hs
        have e := stepsF_go (i := i + 3) (r := wss.drop (i + 2 + 1)) hs
        rw [e, nextB_num (by omega) x1] at hF
        have x2' : nextL ws = w2 := getD_some x2
        rw [x2'] at hF
        have s1 : (numW (b : Nat)).length ≤ 40 := by
          obtain ⟨h1, h2⟩ := List.getElem?_eq_some_iff.mp x1
          have := (gi.ok _ (List.getElem_mem h1)).2.1
          rwa [h2] at this
        replace er9 := z10 _ _ er9
        replace eq := z10 _ _ eq
        walk_at "go"
        refine k_no (by rfl) ?_
        walk_at "go"
        refine k_ixL (SqL.of er9) (by rw [e2i]; exact atI_nat eu) ?_
        walk_at "go"
        refine k_ixL (SqL.of eq) (atI_nat (j := 1) (ws_at x1)) ?_
        refine k_nil ?_
        refine ⟨_, _, rfl, num_int (Nat.le_trans s1 (by decide)), by rw [sOf_len]; exact Nat.le_trans s1 (by decide), ?_⟩
        walk_at "go"
        refine k_ixL (SqL.of er9) (by rw [e2i]; exact atI_nat eu) ?_
        walk_at "go"
        refine k_ixL (SqL.of eq) (atI_nat (j := 2) (ws_at x2)) ?_
        walk_at "go"
        refine ⟨(by decide : 2 ≤ sizeLine), fun a' ha' => ?_⟩
        walk_at "go"
        exact ⟨(z9.trans z10).trans (Same.new ha'), a', b, w2, _, _, SqT.of upd_same, hF, rfl⟩
    · clear ea
      rintro σ H9 ⟨z9, a, b0, l0, a4, a5, ha, hF, rfl⟩
      rw [tn2, Nat.sub_add_cancel (show 2 ≤ wss.length by omega), List.drop_length] at hF
      walk_at "go"
      exact k _ _ (z8.trans z9) (by rw [hF]; rfl)
end
/-! ### text * int -/
def repW (w : Wd) (n : Nat) : Wd := (List.replicate n w).flatten
theorem repW_len (w : Wd) (n : Nat) : (repW w n).length = n * w.length := by
  unfold repW
  induction n with
  | zero => simp
  | succ n ih => rw [List.replicate_succ, List.flatten_cons, List.length_append, ih, Nat.succ_mul, Nat.add_comm]
theorem repW_one (w : Wd) : repW w 1 = w := by
  unfold repW
  simp
theorem fold_rep (w : Wd) : ∀ (n : Nat) (acc : Wd), (List.replicate n w.toArray).foldl (fun a b => a ++ b) acc.toArray = (acc ++ repW w n).toArray
  | 0, acc => by unfold repW; simp
  | n + 1, acc => by
    rw [List.replicate_succ, List.foldl_cons, List.append_toArray, fold_rep w n]
    unfold repW
    rw [List.replicate_succ, List.flatten_cons, List.append_assoc]
def rRepS : R2 := fun x y H Q => ∃ (w : Wd) (k : Nat), x = .str (sOf w) ∧ y = .int (k : Nat) ∧ w.length ≤ 1000 ∧ k ≤ 1000 ∧ Q (.str (sOf (repW w k))) H
open PySem.Spec PyProof.Rows in
theorem op_repS {X : Cx} : OpR X (binaryOp .Mult) rRepS := by
  intro pins s σ H x y v u Q I rx ry h
  obtain ⟨w, k, rfl, rfl, hw, hk, q⟩ := h
  obtain ⟨t, rfl⟩ := rx
  obtain ⟨t', rfl⟩ := ry
  have hl : (sOf w).length = w.length := sOf_len w
  have big : (sOf w).length * ((k : Nat) : Int).toNat ≤ 1000000 := by
    rw [hl, Int.toNat_natCast]
    exact Nat.mul_le_mul hw hk
  refine PySem.P.mul_str ?_ ?_ ?_ ?_
  · rw [decide_eq_false (by omega), decide_eq_false (by omega)]
    rfl
  · intro h1 _
    rw [hl]
    have h1 : 1 ≤ ((k : Nat) : Int) := by omega
    have : (1000 : Int) ≤ (2 ^ 63 - 1) / ((k : Nat) : Int) := by
      rw [Int.le_ediv_iff_mul_le (by omega)]
      omega
    omega
  · intro _ _
    unfold PySem.Builtin.Str.tooLong
    have sl : (1000000 : Nat) ≤ sizeLine := by decide
    exact decide_eq_false (by omega)
  · by_cases c0 : ((k : Nat) : Int) < 1
    · rw [if_pos c0]
      have e : k = 0 := by omega
      subst e
      exact ⟨by decide, ⟨.str (sOf (repW w 0)), H, I.tok _, ⟨_, rfl⟩, q⟩⟩
    · rw [if_neg c0]
      by_cases c1 : (((k : Nat) : Int) == 1 || (sOf w).length == 0) = true
      · rw [if_pos c1]
        have e : repW w k = w := by
          rw [Bool.or_eq_true, beq_iff_eq, beq_iff_eq] at c1
          rcases c1 with c1 | c1
          · have : k = 1 := by omega
            rw [this, repW_one]
          · rw [hl] at c1
            have : w = [] := List.eq_nil_of_length_eq_zero c1
            rw [this]
            unfold repW
            simp
        rw [e] at q
        exact ⟨.str (sOf w), H, I, ⟨_, rfl⟩, q⟩
      · rw [if_neg c1]
        have e : (⟨(List.replicate ((k : Nat) : Int).toNat (sOf w).cps).foldl (fun a b => a ++ b) #[]⟩ : Str) = sOf (repW w k) := by
          rw [Int.toNat_natCast]
          have := fold_rep w k []
          show Str.mk _ = Str.mk _
          congr 1
        rw [e]
        refine ⟨?_, ⟨.str (sOf (repW w k)), H, I.tok _, ⟨_, rfl⟩, q⟩⟩
        rw [sOf_len, repW_len]
        have : k * w.length ≤ 1000 * 1000 := Nat.mul_le_mul hk hw
        exact Nat.le_trans this (by decide)
/-! ### lists of lists of words, cut and joined -/
theorem LlnAt.nil {H : Hp} : LlnAt H [] [] := ⟨rfl, fun i ws e => by cases e⟩
theorem LlnAt.one {H : Hp} {q : Addr} {ws : List Wd} (h : H q = some (.lst (wsV ws))) : LlnAt H [.ref q] [ws] := LlnAt.nil.snoc h
theorem LlnAt.app {H : Hp} {us vs : List V} {wss wts : List (List Wd)} (h : LlnAt H us wss) (g : LlnAt H vs wts) : LlnAt H (us ++ vs) (wss ++ wts) := by
  refine ⟨by rw [List.length_append, List.length_append, h.1, g.1], fun i ws e => ?_⟩
  by_cases c : i < wss.length
  · rw [List.getElem?_append_left c] at e
    rw [List.getElem?_append_left (by rw [h.1]; exact c)]
    exact h.2 i ws e
  · rw [List.getElem?_append_right (by omega)] at e
    rw [List.getElem?_append_right (by rw [h.1]; omega), h.1]
    exact g.2 _ ws e
theorem LlnAt.take {H : Hp} {us : List V} {wss : List (List Wd)} (h : LlnAt H us wss) (k : Nat) : LlnAt H (us.take k) (wss.take k) := by
  refine ⟨by rw [List.length_take, List.length_take, h.1], fun i ws e => ?_⟩
  rw [List.getElem?_take] at e ⊢
  by_cases c : i < k
  · rw [if_pos c] at e ⊢
    exact h.2 i ws e
  · rw [if_neg c] at e
    cases e
theorem LlnAt.drop {H : Hp} {us : List V} {wss : List (List Wd)} (h : LlnAt H us wss) (k : Nat) : LlnAt H (us.drop k) (wss.drop k) := by
  refine ⟨by rw [List.length_drop, List.length_drop, h.1], fun i ws e => ?_⟩
  rw [List.getElem?_drop] at e ⊢
  exact h.2 _ ws e
/-- no list of words is the row of draws -/
theorem RowOk.neW {K : PySem.W.Frag} {H : Hp} {a q : Addr} {ws : List Wd} (R : RowOk K H a) (h : H q = some (.lst (wsV ws))) : q ≠ a := by
  rintro rfl
  obtain ⟨sc, ns, i, z, r, e, _⟩ := R
  rw [h] at e
  match ws, e with
  | [], e => cases e
  | w :: _, e =>
    injection e with e
    injection e with e
    cases e
theorem RowOk.neL {K : PySem.W.Frag} {H : Hp} {a B : Addr} {us : List V} {wss : List (List Wd)} (R : RowOk K H a) (h : H B = some (.lst us)) (g : LlnAt H us wss) : B ≠ a := by
  rintro rfl
  obtain ⟨sc, ns, i, z, r, e, _⟩ := R
  rw [h] at e
  injection e with e
  injection e with e
  subst e
  have l4 := g.1
  have e1 : wss[1]? = some (wss[1]'(by rw [← l4]; exact (by decide : 1 < 4))) := List.getElem?_eq_getElem _
  obtain ⟨q, h1, _⟩ := g.2 1 _ e1
  cases h1
theorem LlnAt.keep {K : PySem.W.Frag} {H H' : Hp} {a : Addr} {us : List V} {wss : List (List Wd)} (h : LlnAt H us wss) (R : RowOk K H a) (k : Keep a H H') : LlnAt H' us wss := ⟨h.1, fun i ws e => let ⟨q, x, y⟩ := h.2 i ws e; ⟨q, x, k _ _ (R.neW y) y⟩⟩
theorem cutV_both (xs : List V) (j k : Nat) (h : j ≤ k) : cutV xs (some ((j : Nat) : Int)) (some ((k : Nat) : Int)) = (xs.drop j).take (k - j) := by
  unfold cutV
  rw [HT.sIx_nat, HT.sIx_nat]
  rcases Nat.le_total k xs.length with h1 | h1
  · rw [Nat.min_eq_left h1, Nat.min_eq_left (by omega)]
  · rw [Nat.min_eq_right h1]
    rcases Nat.le_total j xs.length with h2 | h2
    · rw [Nat.min_eq_left h2, List.take_of_length_le (by rw [List.length_drop]; omega), List.take_of_length_le (by rw [List.length_drop]; omega)]
    · rw [Nat.min_eq_right h2, List.drop_eq_nil_of_le (Nat.le_refl _), List.drop_eq_nil_of_le h2, List.take_nil, List.take_nil]
/-! ### how rows grow -/
structure RowsE (k : Nat) (wss : List (List Wd)) : Prop where
  n : wss.length ≤ 34 + k
  ok : ∀ ws ∈ wss, WsG (9 + k) ws
theorem RowsG.e {k : Nat} {wss : List (List Wd)} (h : RowsG k wss) : RowsE k wss := ⟨h.n, h.ok⟩
theorem WsG.mono {j k : Nat} {ws : List Wd} (h : WsG j ws) (l : j ≤ k) : WsG k ws := ⟨Nat.le_trans h.n l, h.ok⟩
theorem RowsG.mono {j k : Nat} {wss : List (List Wd)} (h : RowsG j wss) (l : j ≤ k) : RowsG k wss := ⟨h.n1, by have := h.n; omega, fun ws w => (h.ok ws w).mono (by omega)⟩
theorem WsG.edit {k : Nat} {ws mw : List Wd} (h : WsG k ws) (hm : ∀ w ∈ mw, WordOk w ∧ w.length ≤ 40 ∧ LowW w) (lm : mw.length ≤ 1) (s t : Nat) (st : s ≤ t) : WsG (k + 1) (ws.take s ++ mw ++ ws.drop t) := by
  have := h.n
  refine ⟨by rw [List.length_append, List.length_append, List.length_take, List.length_drop]; omega, fun w hw => ?_⟩
  rcases List.mem_append.mp hw with hw | hw
  · rcases List.mem_append.mp hw with hw | hw
    · exact h.ok w (List.mem_of_mem_take hw)
    · exact hm w hw
  · exact h.ok w (List.mem_of_mem_drop hw)
theorem RowsE.edit {k : Nat} {wss mid : List (List Wd)} (h : RowsE k wss) (hm : ∀ ws ∈ mid, WsG (9 + (k + 1)) ws) (p t : Nat) (hl : p + mid.length + (wss.length - t) ≤ wss.length + 1) : RowsE (k + 1) (wss.take p ++ mid ++ wss.drop t) := by
  have := h.n
  refine ⟨by rw [List.length_append, List.length_append, List.length_take, List.length_drop]; omega, fun ws hw => ?_⟩
  rcases List.mem_append.mp hw with hw | hw
  · rcases List.mem_append.mp hw with hw | hw
    · exact (h.ok ws (List.mem_of_mem_take hw)).mono (by omega)
    · exact hm ws hw
  · exact (h.ok ws (List.mem_of_mem_drop hw)).mono (by omega)
theorem RowsE.g {k : Nat} {wss : List (List Wd)} (h : RowsE k wss) (n1 : 1 ≤ wss.length) : RowsG k wss := ⟨n1, h.n, h.ok⟩
theorem rows_nil (k : Nat) : RowsG k [[]] := ⟨Nat.le_refl _, by show 1 ≤ _; omega, fun ws h => by rw [List.mem_singleton.mp h]; exact ⟨Nat.zero_le _, fun w h => by cases h⟩⟩
/-! ### the texts of rows -/
theorem no_nl : ∀ {ws : List Wd}, (∀ w ∈ ws, 10 ∉ w) → 10 ∉ TL.joinL [32] ws
  | [], _ => by intro h; cases h
  | [w], h => h w List.mem_cons_self
  | w :: v :: r, h => by
    show 10 ∉ w ++ ([32] ++ TL.joinL [32] (v :: r))
    intro z
    rcases List.mem_append.mp z with z | z
    · exact h w List.mem_cons_self z
    · rcases List.mem_append.mp z with z | z
      · rw [List.mem_singleton] at z; omega
      · exact no_nl (fun x hx => h x (List.mem_cons_of_mem _ hx)) z
theorem words_join {ws : List Wd} (h : ∀ w ∈ ws, WordOk w) : wordsL (TL.joinL [32] ws) = ws := by
  have e := words_wide (ps := ws.map fun w => (w, 0)) fun p hp => by
    obtain ⟨w, hw, rfl⟩ := List.mem_map.mp hp
    exact h w hw
  rw [wide_join, List.map_map, List.map_map] at e
  have h1 : (ws.map ((fun p : Wd × Nat => p.1 ++ spW p.2) ∘ fun w => (w, 0))) = ws := by
    conv => rhs; rw [← List.map_id ws]
    exact List.map_congr_left fun w _ => List.append_nil w
  have h2 : (ws.map ((fun p : Wd × Nat => p.1) ∘ fun w => (w, 0))) = ws := by
    conv => rhs; rw [← List.map_id ws]
    exact List.map_congr_left fun w _ => rfl
  rw [h1] at e
  exact e.trans h2
theorem WsG.join {k : Nat} {ws : List Wd} (h : WsG k ws) (hk : k ≤ 59) : (TL.joinL [32] ws).length ≤ 2500 := by
  have h1 := joinL_len [32] ws
  have h2 := sum_le (b := 40) fun w hw => (h.ok w hw).2.1
  have h3 := h.n
  have : ws.length * 40 ≤ 2360 := by omega
  rw [List.length_singleton] at h1
  omega
def txW (wss : List (List Wd)) : List Wd := wss.map (TL.joinL [32])
theorem lines_of {wss : List (List Wd)} (g : RowsG 50 wss) : LinesOf wss (txW wss) ∧ (TL.joinL [10] (txW wss)).length ≤ 1000000 := by
  have n1 := g.n1
  have n84 := g.n
  have lt : (txW wss).length = wss.length := by unfold txW; rw [List.length_map]
  have sh : ∀ z ∈ txW wss, z.length ≤ 2500 := fun z hz => by
    obtain ⟨ws, h1, rfl⟩ := List.mem_map.mp hz
    exact (g.ok ws h1).join (Nat.le_refl _)
  refine ⟨⟨?_, fun e => ?_, fun z hz => ?_, fun z hz => Nat.le_trans (sh z hz) (by decide), by omega, fun ws hws w hw => Nat.le_trans ((g.ok ws hws).ok w hw).2.1 (by decide)⟩, ?_⟩
  · unfold txW
    rw [List.map_map]
    conv => rhs; rw [← List.map_id wss]
    exact List.map_congr_left fun ws hws => words_join fun w hw => ((g.ok ws hws).ok w hw).1
  · rw [e] at lt
    have : ([] : List Wd).length = 0 := rfl
    omega
  · obtain ⟨ws, h1, rfl⟩ := List.mem_map.mp hz
    exact no_nl fun w hw => ((g.ok ws h1).ok w hw).1.2.2
  · have h1 := joinL_len [10] (txW wss)
    have h2 := sum_le sh
    have : (txW wss).length * 2500 ≤ 210000 := by omega
    rw [List.length_singleton] at h1
    omega
/-! ### a machine's text can stand -/
theorem low_num (i : Int) : LowW (numW i) := fun c hc => by rcases numW_chars i c hc with h | h <;> omega
theorem rows_of {m : MD} (o : m.Ok) : RowsG 0 (wLines m) := by
  have l32 := o.len
  have n8 := o.n8
  have el := o.el
  refine ⟨by show 1 ≤ (wEnds m :: m.ss.map wStep).length + 1; omega, ?_, fun ws h => ?_⟩
  · show (m.ss.map wStep).length + 1 + 1 ≤ 34
    rw [List.length_map]
    omega
  have wo := lines_ok o ws h
  refine ⟨?_, fun w hw => ⟨wo.ok w hw, wo.sh w hw, ?_⟩⟩
  · rcases List.mem_cons.mp h with rfl | h
    · show 2 ≤ 9; decide
    rcases List.mem_cons.mp h with rfl | h
    · unfold wEnds
      rw [List.length_cons, List.length_map]
      omega
    · obtain ⟨s, _, rfl⟩ := List.mem_map.mp h
      show 5 ≤ 9; decide
  · rcases List.mem_cons.mp h with rfl | h
    · rcases List.mem_cons.mp hw with rfl | hw
      · exact fun c hc => (by decide : ∀ c ∈ stW, c < 128) c hc
      · rw [List.mem_singleton.mp hw]; exact low_num _
    rcases List.mem_cons.mp h with rfl | h
    · rcases List.mem_cons.mp hw with rfl | hw
      · exact fun c hc => (by decide : ∀ c ∈ enW, c < 128) c hc
      · obtain ⟨e, _, rfl⟩ := List.mem_map.mp hw; exact low_num _
    · obtain ⟨s, hs, rfl⟩ := List.mem_map.mp h
      have k := o.ok s hs
      have hw : w ∈ [spwW, numW (s.b : Nat), [s.c], numW (s.e : Nat), numW s.g] := hw
      simp only [List.mem_cons, List.not_mem_nil, or_false] at hw
      rcases hw with rfl | rfl | rfl | rfl | rfl
      · exact fun c hc => (by decide : ∀ c ∈ spwW, c < 128) c hc
      · exact low_num _
      · intro c hc
        rw [List.mem_singleton.mp hc]
        have := k.c'
        omega
      · exact low_num _
      · exact low_num _
theorem stepsF_all {n : Nat} (n8 : n ≤ 8) : ∀ (ss : List Stp) (i b0 : Nat) (l0 : Wd), (∀ s ∈ ss, s.Ok n) → ss.Pairwise Stp.lt → (∀ s ∈ ss, b0 ≤ s.b ∧ lettersOk b0 l0 s.b s.c) → stepsF n i b0 l0 (ss.map wStep) = none
  | [], _, _, _, _, _, _ => rfl
  | s :: ss, i, b0, l0, h1, h2, h3 => by
    have os := h1 s List.mem_cons_self
    have p := List.pairwise_cons.mp h2
    have hs := h3 s List.mem_cons_self
    rw [List.map_cons, stepsF_go (stepF_good os hs.1 hs.2), (next_step n8 os).1, (next_step n8 os).2]
    refine stepsF_all n8 ss _ _ _ (fun t ht => h1 t (List.mem_cons_of_mem _ ht)) p.2 fun t ht => ?_
    have ot := h1 t (List.mem_cons_of_mem _ ht)
    rcases p.1 t ht with h | ⟨h, g⟩
    · exact ⟨by omega, ot.c, ot.c', .inl h⟩
    · exact ⟨by omega, ot.c, ot.c', .inr (List.cons_lt_cons_iff.mpr (.inl g))⟩
theorem textF_good {m : MD} (o : m.Ok) : textF (wLines m) = none := by
  have f : Fst (wLines m) m.n := ⟨rfl, o.n1, o.n8⟩
  rw [textF_3 f rfl (endsF_good o.n8 (es := m.es) rfl o.eu o.eb)]
  exact stepsF_all o.n8 m.ss 3 0 [] o.ok o.up fun s hs => ⟨Nat.zero_le _, (o.ok s hs).c, (o.ok s hs).c', .inr (List.nil_lt_cons _ _)⟩
/-! ### verdicts compared -/
def verD : Option (Nat × Nat) → PyData
  | none => .none
  | some (i, k) => .list [.int (i : Nat), .int (k : Nat)]
theorem dp_ver {K : PySem.W.Frag} {H : Hp} {v : V} {o : Option (Nat × Nat)} (h : VerV H v o) : Dp K H v (verD o) := by
  match o, h with
  | none, h => rw [show v = .non from h]; exact .non
  | some (i, k), ⟨q, a, b⟩ => rw [a]; exact .lst (SqL.of b) (.cons (.int _) (.cons (.int _) .nil))
theorem ver_sh (o : Option (Nat × Nat)) : SeqAt.shaped (verD o) = true := by
  match o with
  | none => rfl
  | some (i, k) => rfl
theorem ver_eq (o : Option (Nat × Nat)) : PyData.eqv (verD o) (verD o) = true := by
  match o with
  | none => rfl
  | some (i, k) =>
    show ((((i : Nat) : Int) == (i : Nat)) && ((((k : Nat) : Int) == (k : Nat)) && true)) = true
    rw [beq_self_eq_true, beq_self_eq_true]
    rfl
theorem textF_e : textF [[]] = some (1, 1) := textF_11 fun z => by cases z
theorem textF_s : textF [[stW, numW 1]] = some (2, 1) := textF_21 (n := 1) ⟨rfl, by decide, by decide⟩ fun z => by cases z
theorem rows_s : RowsG 0 [[stW, numW 1]] := ⟨by decide, by decide, fun ws h => by
  rw [List.mem_singleton.mp h]
  refine ⟨by show 2 ≤ 9; decide, fun w hw => ?_⟩
  rcases List.mem_cons.mp hw with rfl | hw
  · exact ⟨⟨by decide, by decide, by decide⟩, by decide, fun c hc => (by decide : ∀ c ∈ stW, c < 128) c hc⟩
  · rw [List.mem_singleton.mp hw]
    exact ⟨num_word _, nat_small (n := 1) (by decide), low_num _⟩⟩
/-! ### the odd words -/
def oddW : List Wd := [[115, 116, 97, 110, 100, 115], [101, 110, 100, 115], [115, 116, 101, 112], [48], [49], [55], [56], [57], [97], [100], [101], [97, 98], [45, 49], [45, 48], [48, 49], [120], [43, 49]]
def bigW : List Wd := [49 :: List.replicate 30 48, 49 :: (List.replicate 29 48 ++ [49])]
theorem odd_ok : ∀ w ∈ oddW ++ bigW, WordOk w ∧ w.length ≤ 40 ∧ LowW w := by
  have z : ∀ w ∈ oddW ++ bigW, (w ≠ [] ∧ 32 ∉ w ∧ 10 ∉ w) ∧ w.length ≤ 40 ∧ ∀ c ∈ w, c < 128 := by decide +kernel
  exact z
theorem odd_lit : ([V.str "stands", V.str "ends", V.str "step", V.str "0", V.str "1", V.str "7", V.str "8", V.str "9", V.str "a", V.str "d", V.str "e", V.str "ab", V.str "-1", V.str "-0", V.str "01", V.str "x", V.str "+1"] : List V) = wsV oddW := rfl
theorem big_0 : ("1" : Str) ++ sOf (repW [48] 30) = sOf (49 :: List.replicate 30 48) := by
  rw [show ("1" : Str) = sOf [49] by decide, sOf_app]
  rfl
theorem big_1 : ("1" : Str) ++ sOf (repW [48] 29) ++ "1" = sOf (49 :: (List.replicate 29 48 ++ [49])) := by
  rw [show ("1" : Str) = sOf [49] by decide, sOf_app, sOf_app]
  rfl
theorem join_rows {K : PySem.W.Frag} {H : Hp} {Q : VK} {B : Addr} {us : List V} {wss : List (List Wd)} {s0 s1 s2 s3 s5 s6 s7 s8 s9 s10 s11 s12 : Option V} (eB : H B = some (.lst us)) (hl : LlnAt H us wss) (g : RowsG 50 wss) (q : ∀ H', Same H H' → Q (.str (sOf (TL.joinL [10] (txW wss)))) H') :
    tM1 (rJoin K) (tC (V.str "\n")) (tLc (iList K (tVar 4)) (gName 8) tYes (tM1 (rJoin K) (tC (V.str " ")) (tVar 8)) [8]) [s0, s1, s2, s3, some (.ref B), s5, s6, s7, s8, s9, s10, s11, s12] H Q := by
  have lt : (txW wss).length = wss.length := by unfold txW; rw [List.length_map]
  have n84 := g.n
  walk_at "go"
  refine ⟨⟨_, rfl⟩, ?_⟩
  walk_at "go"
  refine ⟨B, rfl, ⟨us, SqL.of eB⟩, fun D hD => ?_⟩
  refine lc_list (xs := us) (fun i H' => Same H H' ∧ H' D = some (.lst (wsV ((txW wss).take i)))) ⟨Same.new hD, upd_same⟩ (fun i H' _ ⟨z, _⟩ => SqL.of (z _ _ eB)) ?_ ?_
  · rintro j y H6 hy ⟨z6, eD⟩
    have il : j < wss.length := by rw [← hl.1]; exact (List.getElem?_eq_some_iff.mp hy).1
    have es : wss[j]? = some (wss[j]'il) := List.getElem?_eq_getElem il
    obtain ⟨q, eq, hq⟩ := hl.2 _ _ es
    rw [hy] at eq
    cases eq
    have tk : (txW wss).take (j + 1) = (txW wss).take j ++ [TL.joinL [32] (wss[j]'il)] := by unfold txW; rw [List.take_add_one, List.getElem?_map, es]; rfl
    rw [tk]
    have wo := g.ok _ (List.getElem_mem il)
    generalize wss[j]'il = ws at hq wo
    walk_at "go"
    refine ⟨rfl, ?_⟩
    walk_at "go"
    refine iteT ?_
    walk_at "go"
    refine ⟨⟨_, rfl⟩, ?_⟩
    walk_at "go"
    have h1 := sum_le (b := 40) fun w hw => (wo.ok w hw).2.1
    have h2 := wo.n
    refine ⟨" ", q, ws.map sOf, rfl, rfl, .inl (SqL.of (by rw [List.map_map]; exact z6 _ _ hq)), ?_, ?_⟩
    · rw [sum_len, List.length_map]
      have : ws.length * 40 ≤ 2360 := by omega
      show _ + ws.length * 1 ≤ _
      omega
    rw [show (" " : Str) = sOf [32] by decide, join_ws]
    refine ⟨_, eD, Nat.lt_of_le_of_lt (show _ ≤ 84 by unfold wsV; rw [List.length_map, List.length_take]; omega) (by decide), Same.mut z6 hD, ?_⟩
    rw [upd_same]
    unfold wsV
    rw [List.map_append]
    rfl
  rintro H6 ⟨z6, eD⟩
  rw [hl.1, ← lt, List.take_length] at eD
  walk_at "go"
  have sh : ∀ z ∈ txW wss, z.length ≤ 2500 := fun z hz => by
    obtain ⟨ws, h1, rfl⟩ := List.mem_map.mp hz
    exact (g.ok ws h1).join (Nat.le_refl _)
  have h2 := sum_le sh
  have : (txW wss).length * 2500 ≤ 210000 := by omega
  refine ⟨"\n", D, (txW wss).map sOf, rfl, rfl, .inl (SqL.of (by rw [List.map_map]; exact eD)), ?_, ?_⟩
  · rw [sum_len, List.length_map]
    show _ + (txW wss).length * 1 ≤ _
    omega
  rw [show Txt.join "\n" ((txW wss).map sOf) = sOf (TL.joinL [10] (txW wss)) by rw [show ("\n" : Str) = sOf [10] by decide, join_ws]]
  exact q _ z6
/-! ### the law -/
structure Rws (K : PySem.W.Frag) (a O : Addr) (ow : List Wd) (B : Addr) (us : List V) (wss : List (List Wd)) (H : Hp) : Prop where
  R : RowOk K H a
  eO : H O = some (.lst (wsV ow))
  eB : H B = some (.lst us)
  hl : LlnAt H us wss
section
variable {K : PySem.W.Frag} {a O B : Addr} {ow : List Wd} {us : List V} {wss : List (List Wd)} {H H' : Hp}
theorem Rws.same (h : Rws K a O ow B us wss H) (z : Same H H') : Rws K a O ow B us wss H' := ⟨h.R.same z, z _ _ h.eO, z _ _ h.eB, h.hl.same z⟩
theorem Rws.keep (h : Rws K a O ow B us wss H) (R' : RowOk K H' a) (k : Keep a H H') : Rws K a O ow B us wss H' := ⟨R', k _ _ (h.R.neW h.eO) h.eO, k _ _ (h.R.neL h.eB h.hl) h.eB, h.hl.keep h.R k⟩
theorem Rws.to (h : Rws K a O ow B us wss H) {B2 : Addr} {vs : List V} {wts : List (List Wd)} (e : H B2 = some (.lst vs)) (l : LlnAt H vs wts) : Rws K a O ow B2 vs wts H := ⟨h.R, h.eO, e, l⟩
end
theorem k_ver {K : PySem.W.Frag} {H : Hp} {Q : VK} {v u : V} {o : Option (Nat × Nat)} (h : VerV H v o) (g : VerV H u o) (q : Q (.bl true) H) : rEqD K v u H Q := ⟨_, _, dp_ver h, dp_ver g, ver_sh o, ver_sh o, by rw [ver_eq]; exact q⟩
theorem k_verN {K : PySem.W.Frag} {H : Hp} {Q : VK} {v u : V} {o : Option (Nat × Nat)} (h : VerV H v o) (g : VerV H u o) (q : Q (.bl false) H) : rNeD K v u H Q := ⟨_, _, dp_ver h, dp_ver g, ver_sh o, ver_sh o, by rw [ver_eq]; exact q⟩
theorem k_orT {K : PySem.W.Frag} {ta tb : TE} {σ : L2.St} {H : Hp} {Q : VK} (h : ta σ H fun x H1 => ∃ k, TruV K x H1 k ∧ if k = true then Q x H1 else tb σ H1 Q) : tOrT K ta tb σ H Q := h
theorem mul_small {x : Nat} (h : x < 2) : Nat.log2 (2 : Int).natAbs + Nat.log2 ((x : Nat) : Int).natAbs < 1000000 := by
  have : x = 0 ∨ x = 1 := by omega
  rcases this with rfl | rfl <;> decide +kernel
theorem rep_one (v : V) (n : Nat) : (List.replicate n [v]).flatten = List.replicate n v := by
  induction n with
  | zero => rfl
  | succ n ih => rw [List.replicate_succ, List.flatten_cons, ih]; rfl
theorem lln_rep {H : Hp} {q : Addr} {ws : List Wd} (h : H q = some (.lst (wsV ws))) : ∀ n, LlnAt H (List.replicate n (V.ref q)) (List.replicate n ws)
  | 0 => LlnAt.nil
  | n + 1 => (LlnAt.one h).app (lln_rep h n)
theorem k_both {b : Bool} {t1 t2 : TE} {σ : L2.St} {H : Hp} {Q : VK} (G : V → Hp → Prop) (h : ∀ Q' : VK, (∀ v H', G v H' → Q' v H') → if b = true then t1 σ H Q' else t2 σ H Q') (k : ∀ v H', G v H' → Q v H') : if b = true then t1 σ H Q else t2 σ H Q := h Q k
def sp_law (K : PySem.W.Frag) : Sp := fun vs H Q _ => ∃ (sc : Addr) (ns : List Int), vs = [.ref sc] ∧ ScAt K H sc (ns.map V.int) ∧ ns.length ≤ 63 ∧ ∀ H', Q (.bl true) H'
section
variable {P : Program} {w : World} {K : PySem.W.Frag} {mg : Str → Option Value} {base : Heap}
theorem ok_law (T : Txt K mg) : FnOk P w K mg base (L2.CX P w) 40 T.a_law T.fd_law ["_law_script"] (sp_law K) := by
  refine T.F_law.okX sc_law (fun vs H Q E h => ?_) (fun cdv A outer s H vs Q E hr h => ?_)
  · obtain ⟨sc, ns, rfl, _⟩ := h
    rfl
  · obtain ⟨sc, ns, rfl, hsc, hns, k⟩ := h
    refine ⟨_, (PSs.nox (pss_cons (ps_set (i := 1) sc_law.nd rfl (Or.inl rfl) (pe_lst (pa_cons (pv 0) (pa_cons pe_int (pa_cons pe_int (pa_cons pe_int pa_nil))))))
  (pss_cons (ps_set (i := 2) sc_law.nd rfl (Or.inl rfl) (pe_lst (pa_cons pe_str (pa_cons pe_str (pa_cons pe_str (pa_cons pe_str (pa_cons pe_str (pa_cons pe_str (pa_cons pe_str (pa_cons pe_str (pa_cons pe_str (pa_cons pe_str (pa_cons pe_str (pa_cons pe_str (pa_cons pe_str (pa_cons pe_str (pa_cons pe_str (pa_cons pe_str (pa_cons pe_str pa_nil)))))))))))))))))))
  (pss_cons (ps_set (i := 2) sc_law.nd rfl (Or.inl rfl) (pe_op op_cat (pv 2) (pe_lst (pa_cons (pe_op op_add_str pe_str (pe_op op_repS pe_str pe_int)) (pa_cons (pe_op op_add_str (pe_op op_add_str pe_str (pe_op op_repS pe_str pe_int)) pe_str) pa_nil)))))
  (pss_cons (ps_for PassesOwn.never rfl (pi_range1 (by rfl) T.z_range (pa_cons pe_int pa_nil)) (pg_name (i := 3) sc_law.nd rfl (Or.inl rfl))
  (pss_cons (ps_set (i := 4) sc_law.nd rfl (Or.inl rfl) (pe_call (ok_law_text T) (hr.mono (by decide)) (by rfl) T.m_law_text T.k_law_text T.b_law_text .nil passL (pa_cons (pe_call (ok_law_parts T) (hr.mono (by decide)) (by rfl) T.m_law_parts T.k_law_parts T.b_law_parts .nil passL (pa_cons (pv 1) (pa_cons pe_int (pa_cons pe_int pa_nil)))) pa_nil)))
  (pss_cons (ps_if (pt_cmp (pc_notN (pe_call (ok_law_refused T) (hr.mono (by decide)) (by rfl) T.m_law_refused T.k_law_refused T.b_law_refused .nil passL (pa_cons (pe_join pe_str (pe_lc (own := [("_law_words", 8)]) (g := (gName 8)) (tt := tYes) rfl sc_law.nd (pi_list (pv 4)) (blkOk_by (own := [("_law_words", 8)]) (N := ["_law_script", "_law_row", "_law_odd", "_law_turn", "_law_rows", "_law_k", "_law_place", "_law_kind", "_law_words", "_law_spot", "_law_more", "_law_same", "_law_swapped"]) (sc := defScope s_law) (by decide +kernel)) (fun _ _ _ _ _ => (pg_name (i := 8) sc_law.nd rfl (Or.inl rfl))) (fun _ _ _ _ _ => pts_nil) (fun _ _ _ _ _ => (show PE _ _ (tM1 (rJoin K) _ _) from (pe_join pe_str (pv 8)))))) pa_nil))))
  (pss_one (ps_ret pe_bl))
  pss_nil)
  (pss_cons (ps_for PassesOwn.never rfl (pi_range1 (by rfl) T.z_range (pa_cons (pe_op op_add pe_int (pe_call (ok_law_taken T) (hr.mono (by decide)) (by rfl) T.m_law_taken T.k_law_taken T.b_law_taken .nil passL (pa_cons (pv 1) (pa_cons pe_int pa_nil)))) pa_nil)) (pg_name (i := 5) sc_law.nd rfl (Or.inl rfl))
  (pss_cons (ps_par (i := 6) (j := 7) (by rfl) sc_law.nd rfl rfl (by decide) rfl rfl (pa_cons (pe_call (ok_law_taken T) (hr.mono (by decide)) (by rfl) T.m_law_taken T.k_law_taken T.b_law_taken .nil passL (pa_cons (pv 1) (pa_cons (pe_callB call_len_seq (by rfl) T.z_len PySem.boot_len (pa_cons (pv 4) pa_nil)) pa_nil))) (pa_cons (pe_call (ok_law_taken T) (hr.mono (by decide)) (by rfl) T.m_law_taken T.k_law_taken T.b_law_taken .nil passL (pa_cons (pv 1) (pa_cons pe_int pa_nil))) pa_nil)) (by rfl))
  (pss_cons (ps_set (i := 8) sc_law.nd rfl (Or.inl rfl) (pe_ix ix_list (pv 4) (pv 6) (fun _ _ => rfl)))
  (pss_cons (ps_set (i := 9) sc_law.nd rfl (Or.inl rfl) (pe_call (ok_law_taken T) (hr.mono (by decide)) (by rfl) T.m_law_taken T.k_law_taken T.b_law_taken .nil passL (pa_cons (pv 1) (pa_cons (pe_op op_add (pe_callB call_len_seq (by rfl) T.z_len PySem.boot_len (pa_cons (pv 8) pa_nil)) pe_int) pa_nil))))
  (pss_cons (ps_set (i := 10) sc_law.nd rfl (Or.inl rfl) (pe_ifExp (pt_cmpR op_ne (pv 7) pe_int (nomark _)) (pe_lst (pa_cons (pe_ix ix_list (pv 2) (pe_call (ok_law_taken T) (hr.mono (by decide)) (by rfl) T.m_law_taken T.k_law_taken T.b_law_taken .nil passL (pa_cons (pv 1) (pa_cons (pe_callB call_len_seq (by rfl) T.z_len PySem.boot_len (pa_cons (pv 2) pa_nil)) pa_nil))) (fun _ _ => rfl)) pa_nil)) (pe_lst pa_nil)))
  (C8.pss_cut (ps_if (pt_cmpR op_lt (pv 7) pe_int (nomark _))
  (pss_cons (ps_set (i := 8) sc_law.nd rfl (Or.inl rfl) (pe_op op_cat (pe_op op_cat (pe_slice sl_list (pv 8) po_none (po_some (pv 9))) (pv 10)) (pe_slice sl_list (pv 8) (po_some (pe_op op_add (pv 9) (pe_callTy call_int1 (by rfl) T.z_int PySem.Pv.boot_int (pa_cons (pe_cmpR op_in_seq (pv 7) (pe_tup (pa_cons pe_int (pa_cons pe_int pa_nil))) (by rfl)) pa_nil)))) po_none)))
  (pss_one (ps_set (i := 4) sc_law.nd rfl (Or.inl rfl) (pe_op op_cat (pe_op op_cat (pe_slice sl_list (pv 4) po_none (po_some (pv 6))) (pe_lst (pa_cons (pv 8) pa_nil))) (pe_slice sl_list (pv 4) (po_some (pe_op op_add (pv 6) pe_int)) po_none)))))
  (pss_one (ps_if (pt_cmpR op_eq (pv 7) pe_int (nomark _))
  (pss_cons (ps_set (i := 11) sc_law.nd rfl (Or.inl rfl) (pe_op op_rep (pe_lst (pa_cons (pv 8) pa_nil)) (pe_op op_mulW pe_int (pe_call (ok_law_taken T) (hr.mono (by decide)) (by rfl) T.m_law_taken T.k_law_taken T.b_law_taken .nil passL (pa_cons (pv 1) (pa_cons pe_int pa_nil))))))
  (pss_one (ps_set (i := 4) sc_law.nd rfl (Or.inl rfl) (pe_op op_cat (pe_op op_cat (pe_slice sl_list (pv 4) po_none (po_some (pv 6))) (pv 11)) (pe_slice sl_list (pv 4) (po_some (pe_op op_add (pv 6) pe_int)) po_none)))))
  (pss_one (ps_if (pt_cmpR op_eq (pv 7) pe_int (nomark _))
  (pss_cons (ps_set (i := 12) sc_law.nd rfl (Or.inl rfl) (pe_op op_cat (pe_slice sl_list (pv 4) (po_some (pe_op op_add (pv 6) pe_int)) (po_some (pe_op op_add (pv 6) pe_int))) (pe_lst (pa_cons (pv 8) pa_nil))))
  (pss_one (ps_set (i := 4) sc_law.nd rfl (Or.inl rfl) (pe_op op_cat (pe_op op_cat (pe_slice sl_list (pv 4) po_none (po_some (pv 6))) (pv 12)) (pe_slice sl_list (pv 4) (po_some (pe_op op_add (pv 6) pe_int)) po_none)))))
  (pss_one (ps_set (i := 4) sc_law.nd rfl (Or.inl rfl) (pe_op op_cat (pe_op op_cat (pe_slice sl_list (pv 4) po_none (po_some (pv 6))) (pe_lst (pa_cons (pe_lst pa_nil) pa_nil))) (pe_slice sl_list (pv 4) (po_some (pv 6)) po_none)))))))))
  (pss_one (ps_set (i := 4) sc_law.nd rfl (Or.inl rfl) (pe_orT (pv 4) (pe_one (pe_lst (pa_cons (pe_lst pa_nil) pa_nil))))))))))))
  (pss_one (ps_if (pt_cmpR (op_neD hr.units) (pe_call (ok_law_refused T) (hr.mono (by decide)) (by rfl) T.m_law_refused T.k_law_refused T.b_law_refused .nil passL (pa_cons (pe_join pe_str (pe_lc (own := [("_law_words", 8)]) (g := (gName 8)) (tt := tYes) rfl sc_law.nd (pi_list (pv 4)) (blkOk_by (own := [("_law_words", 8)]) (N := ["_law_script", "_law_row", "_law_odd", "_law_turn", "_law_rows", "_law_k", "_law_place", "_law_kind", "_law_words", "_law_spot", "_law_more", "_law_same", "_law_swapped"]) (sc := defScope s_law) (by decide +kernel)) (fun _ _ _ _ _ => (pg_name (i := 8) sc_law.nd rfl (Or.inl rfl))) (fun _ _ _ _ _ => pts_nil) (fun _ _ _ _ _ => (show PE _ _ (tM1 (rJoin K) _ _) from (pe_join pe_str (pv 8)))))) pa_nil)) (pe_call (ok_law_wrong T) (hr.mono (by decide)) (by rfl) T.m_law_wrong T.k_law_wrong T.b_law_wrong .nil passL (pa_cons (pv 4) pa_nil)) (nomark _))
  (pss_one (ps_ret pe_bl))
  pss_nil))))))
  (pss_one (ps_ret (pe_and (pe_cmpR (op_eqD hr.units) (pe_call (ok_law_refused T) (hr.mono (by decide)) (by rfl) T.m_law_refused T.k_law_refused T.b_law_refused .nil passL (pa_cons pe_str pa_nil)) (pe_lst (pa_cons pe_int (pa_cons pe_int pa_nil))) (nomark _)) (pe_one (pe_cmpR (op_eqD hr.units) (pe_call (ok_law_refused T) (hr.mono (by decide)) (by rfl) T.m_law_refused T.k_law_refused T.b_law_refused .nil passL (pa_cons pe_str pa_nil)) (pe_lst (pa_cons pe_int (pa_cons pe_int pa_nil))) (nomark _))))))))))), ?_⟩
    walk_at "begin"
    walk_at "go"
    refine ⟨(by decide : 4 ≤ sizeLine), fun a ha => ?_⟩
    have R1 : RowOk K (upd H a (.lst [.ref sc, .int 0, .int 229, .int 0])) a := ⟨sc, ns, 0, 229, 0, upd_same, hsc.same (Same.new ha), hns, by decide, by decide, by decide⟩
    generalize upd H a (.lst [.ref sc, .int 0, .int 229, .int 0]) = H1 at R1 ⊢
    walk_at "go"
    rw [odd_lit]
    refine ⟨(by rw [ws_len]; decide), fun O hO => ?_⟩
    have R2 := R1.same (Same.new (o := .lst (wsV oddW)) hO)
    have eO := upd_same (H := H1) (a := O) (o := .lst (wsV oddW))
    generalize upd H1 O (.lst (wsV oddW)) = H2 at R2 eO
    clear R1 hO
    walk_at "go"
    refine ⟨[48], 30, congrArg V.str (by decide), rfl, by decide, by decide, ?_⟩
    refine ⟨_, _, rfl, rfl, by decide +kernel, ?_⟩
    rw [big_0]
    walk_at "go"
    refine ⟨[48], 29, congrArg V.str (by decide), rfl, by decide, by decide, ?_⟩
    refine ⟨_, _, rfl, rfl, by decide +kernel, ?_⟩
    walk_at "go"
    refine ⟨_, _, rfl, rfl, by decide +kernel, ?_⟩
    rw [big_1]
    walk_at "go"
    rw [show ([V.str (sOf (49 :: List.replicate 30 48)), V.str (sOf (49 :: (List.replicate 29 48 ++ [49])))] : List V) = wsV bigW from rfl]
    refine ⟨(by decide : 2 ≤ sizeLine), fun O2 hO2 => ?_⟩
    have R3 := R2.same (Same.new (o := .lst (wsV bigW)) hO2)
    have eO3 := (Same.new (o := .lst (wsV bigW)) hO2) _ _ eO
    have eB3 : (upd H2 O2 (.lst (wsV bigW))) O2 = some (.lst (wsV bigW)) := upd_same
    refine ⟨O, O2, _, _, rfl, rfl, eO3, eB3, by rw [ws_len, ws_len]; decide, fun O3 hO3 => ?_⟩
    have R4 := R3.same (Same.new (o := .lst (wsV oddW ++ wsV bigW)) hO3)
    have e19 : (upd (upd H2 O2 (.lst (wsV bigW))) O3 (.lst (wsV oddW ++ wsV bigW))) O3 = some (.lst (wsV (oddW ++ bigW))) := by
      rw [upd_same]
      unfold wsV
      rw [List.map_append]
    generalize upd (upd H2 O2 (.lst (wsV bigW))) O3 (.lst (wsV oddW ++ wsV bigW)) = H3 at R4 e19
    clear R2 R3 eO eO3 eB3 hO2 hO3
    have l19 : (oddW ++ bigW).length = 19 := rfl
    have ok19 := odd_ok
    generalize oddW ++ bigW = ow at e19 l19 ok19
    walk_at "go"
    refine ⟨_, rfl, by decide, by decide, ?_⟩
    refine for_range (lo := 0) (n := 8) (fun i σ H' => RowOk K H' a ∧ H' O3 = some (.lst (wsV ow)) ∧ ∃ b3 b4 b5 b6 b7 b8 b9 b10 b11 b12, σ = [some (.ref sc), some (.ref a), some (.ref O3), b3, b4, b5, b6, b7, b8, b9, b10, b11, b12]) ⟨R4, e19, none, none, none, none, none, none, none, none, none, none, rfl⟩ ?_ ?_
    · clear R4 e19
      rintro i σ H4 hi ⟨R4, e19, b3, b4, b5, b6, b7, b8, b9, b10, b11, b12, rfl⟩
      walk_at "go"
      refine ⟨a, 8, 3, rfl, by decide, by decide, by decide, by decide, R4, fun d m H5 o _ _ hd R5 K5 hd0 => ?_⟩
      have e5 := K5 _ _ (R4.neW e19) e19
      walk_at "go"
      refine ⟨d, m, rfl, hd, o, fun B us H6 z6 hB eB hl => ?_⟩
      have R6 := R5.same z6
      replace e5 := z6 _ _ e5
      have g0 := rows_of o
      walk_at "go"
      refine join_rows (K := K) eB hl (g0.mono (by decide)) fun H7 z7 => ?_
      walk_at "go"
      refine ⟨wLines m, txW (wLines m), rfl, (lines_of (g0.mono (by decide))).1, (lines_of (g0.mono (by decide))).2, fun v H8 z8 hv => ?_⟩
      rw [textF_good o] at hv
      obtain rfl : v = .non := hv
      walk_at "go"
      refine k_no (by rfl) ?_
      have R8 := (R6.same z7).same z8
      replace e5 := z8 _ _ (z7 _ _ e5)
      replace eB := z8 _ _ (z7 _ _ eB)
      replace hl := (hl.same z7).same z8
      clear R6 R5 hd hd0 K5 z6 z7 z8 hB R4 e19
      have W8 : Rws K a O3 ow B us (wLines m) H8 := ⟨R8, e5, eB, hl⟩
      clear R8 e5 eB hl
      walk_at "go"
      refine ⟨a, 2, rfl, by decide, by decide, W8.R, fun y H9 y0 y2 R9 K9 => ?_⟩
      have W9 := W8.keep R9 K9
      clear W8 K9 R9
      walk_at "go"
      refine ⟨_, rfl, by omega, by omega, ?_⟩
      refine for_range (lo := 0) (n := (1 + y).toNat) (fun j σ H' => ∃ B us wss, Rws K a O3 ow B us wss H' ∧ RowsG j wss ∧ ∃ c5 c6 c7 c8 c9 c10 c11 c12, σ = [some (.ref sc), some (.ref a), some (.ref O3), some (.int (0 + (i : Nat))), some (.ref B), c5, c6, c7, c8, c9, c10, c11, c12]) ⟨B, us, _, W9, g0, _, _, _, _, _, _, _, _, rfl⟩ ?_ ?_
      · clear W9 g0 o
        rintro j σ H10 hj ⟨B, us, wss, W, g, c5, c6, c7, c8, c9, c10, c11, c12, rfl⟩
        have j2 : j < 2 := by omega
        have gn := g.n
        have gn1 := g.n1
        walk_at "go"
        refine k_len (.inl (SqL.of W.eB)) ?_
        rw [W.hl.1]
        walk_at "go"
        refine ⟨a, _, rfl, by omega, ?_, W.R, fun p H11 p0 pl R11 K11 => ?_⟩
        · have h1 : ((wss.length : Nat) : Int).natAbs < 2 ^ 10 := by omega
          exact Nat.lt_of_lt_of_le h1 (Nat.pow_le_pow_right (by decide) (by decide))
        replace W := W.keep R11 K11
        clear R11 K11
        walk_at "go"
        refine ⟨a, 7, rfl, by decide, by decide, W.R, fun kd H12 k0 k7 R12 K12 => ?_⟩
        replace W := W.keep R12 K12
        clear R12 K12
        refine k_nil ?_
        refine ⟨_, _, rfl, ?_⟩
        obtain ⟨p, rfl⟩ := Int.eq_ofNat_of_zero_le p0
        have pl' : p < wss.length := by omega
        have xi : wss[p]? = some (wss[p]'pl') := List.getElem?_eq_getElem pl'
        have gi := g.ok _ (List.getElem_mem pl')
        generalize wss[p]'pl' = ws at xi gi
        obtain ⟨q, eu, eq⟩ := W.hl.2 _ _ xi
        walk_at "go"
        refine k_ixL (SqL.of W.eB) (atI_nat eu) ?_
        walk_at "go"
        have lwi := gi.n
        refine k_len (.inl (SqL.of eq)) ?_
        rw [ws_len]
        walk_at "go"
        refine ⟨a, _, rfl, by omega, ?_, W.R, fun sp H13 s0 sl R13 K13 => ?_⟩
        · have h1 : (((ws.length : Nat) : Int) + 1).natAbs < 2 ^ 10 := by omega
          exact Nat.lt_of_lt_of_le h1 (Nat.pow_le_pow_right (by decide) (by decide))
        replace eq := K13 _ _ (W.R.neW eq) eq
        replace W := W.keep R13 K13
        clear R13 K13
        obtain ⟨sp, rfl⟩ := Int.eq_ofNat_of_zero_le s0
        walk_at "go"
        refine k_both (fun v H' => ∃ M mw, v = .ref M ∧ Rws K a O3 ow B us wss H' ∧ H' q = some (.lst (wsV ws)) ∧ H' M = some (.lst (wsV mw)) ∧ mw.length ≤ 1 ∧ ∀ w ∈ mw, WordOk w ∧ w.length ≤ 40 ∧ LowW w) (fun Q' fin => ?_) ?_
        · split
          · walk_at "go"
            refine k_len (.inl (SqL.of W.eO)) ?_
            rw [ws_len, l19]
            walk_at "go"
            refine ⟨a, _, rfl, by decide, by decide, W.R, fun z H14 z0 zl R14 K14 => ?_⟩
            replace eq := K14 _ _ (W.R.neW eq) eq
            replace W := W.keep R14 K14
            obtain ⟨z, rfl⟩ := Int.eq_ofNat_of_zero_le z0
            have zl' : z < ow.length := by omega
            have xz : ow[z]? = some (ow[z]'zl') := List.getElem?_eq_getElem zl'
            have oz := ok19 _ (List.getElem_mem zl')
            generalize ow[z]'zl' = w0 at xz oz
            refine k_ixL (SqL.of W.eO) (atI_nat (ws_at xz)) ?_
            walk_at "go"
            refine ⟨(by decide : 1 ≤ sizeLine), fun M hM => ?_⟩
            have zz := Same.new (o := .lst [V.str (sOf w0)]) hM
            exact fin _ _ ⟨M, [w0], rfl, W.same zz, zz _ _ eq, upd_same, Nat.le_refl _, fun w hw => by rw [List.mem_singleton.mp hw]; exact oz⟩
          · walk_at "go"
            refine ⟨(by decide : 0 ≤ sizeLine), fun M hM => ?_⟩
            have zz := Same.new (o := .lst []) hM
            exact fin _ _ ⟨M, [], rfl, W.same zz, zz _ _ eq, upd_same, Nat.zero_le _, fun w hw => by cases hw⟩
        clear W eq
        rintro _ H14 ⟨M, mw, rfl, W, eq, eM, lm, okm⟩
        walk_at "go"
        refine k_cut (fun σ' H' => ∃ B us wss c6 c7 c8 c9 c10 c11 c12, Rws K a O3 ow B us wss H' ∧ RowsE (j + 1) wss ∧ σ' = [some (.ref sc), some (.ref a), some (.ref O3), some (.int (0 + (i : Nat))), some (.ref B), some (.int (0 + (j : Nat))), c6, c7, c8, c9, c10, c11, c12]) ?_ ?_
        · walk_at "go"
          refine k_ite (fun c4 => ?_) (fun c4 => ?_)
          ·
            walk_at "go"
            refine ⟨q, _, rfl, SqL.of eq, fun p1 hp1 => ?_⟩
            rw [cutV_take, ws_take]
            have z_p1 := Same.new (o := .lst (wsV (ws.take sp))) hp1
            have ep1 := upd_same (H := H14) (a := p1) (o := .lst (wsV (ws.take sp)))
            generalize upd H14 p1 (.lst (wsV (ws.take sp))) = G1_H14 at z_p1 ep1
            replace W := W.same z_p1
            replace eq := z_p1 _ _ eq
            replace eM := z_p1 _ _ eM
            clear z_p1 hp1
            walk_at "go"
            refine ⟨p1, M, _, _, rfl, rfl, ep1, eM, by rw [ws_len, ws_len, List.length_take]; exact Nat.le_trans (show _ ≤ 200 by omega) (by decide), fun p2 hp2 => ?_⟩
            have z_p2 := Same.new (o := .lst (wsV (ws.take sp) ++ wsV mw)) hp2
            have ep2 : (upd G1_H14 p2 (.lst (wsV (ws.take sp) ++ wsV mw))) p2 = some (.lst (wsV (ws.take sp ++ mw))) := by
              rw [upd_same]
              unfold wsV; rw [List.map_append]
            generalize upd G1_H14 p2 (.lst (wsV (ws.take sp) ++ wsV mw)) = G2_H14 at z_p2 ep2
            replace W := W.same z_p2
            replace eq := z_p2 _ _ eq
            replace eM := z_p2 _ _ eM
            replace ep1 := z_p2 _ _ ep1
            clear z_p2 hp2
            walk_at "go"
            refine ⟨(by decide : 2 ≤ sizeLine), fun p3 hp3 => ?_⟩
            have z_p3 := Same.new (o := .tup [.int 1, .int 2]) hp3
            have ep3 := upd_same (H := G2_H14) (a := p3) (o := .tup [.int 1, .int 2])
            generalize upd G2_H14 p3 (.tup [.int 1, .int 2]) = G3_H14 at z_p3 ep3
            replace W := W.same z_p3
            replace eq := z_p3 _ _ eq
            replace eM := z_p3 _ _ eM
            replace ep1 := z_p3 _ _ ep1
            replace ep2 := z_p3 _ _ ep2
            clear z_p3 hp3
            refine k_in (.inr (SqT.of ep3)) rfl rfl ?_
            refine k_nil ?_
            obtain ⟨e, he, hb⟩ : ∃ e : Nat, (if (if false = true then !inV (.int kd) [V.int 1, V.int 2] else inV (.int kd) [V.int 1, V.int 2]) = true then (1 : Int) else 0) = (e : Nat) ∧ e ≤ 1 := by
              cases inV (.int kd) [V.int 1, V.int 2] with
              | true => exact ⟨1, rfl, Nat.le_refl _⟩
              | false => exact ⟨0, rfl, Nat.zero_le _⟩
            refine .inr ⟨_, rfl, ?_⟩
            rw [he]
            walk_at "go"
            refine ⟨q, _, rfl, SqL.of eq, fun p4 hp4 => ?_⟩
            rw [show (((sp : Nat) : Int) + ((e : Nat) : Int)) = ((sp + e : Nat) : Int) by omega, cutV_drop, ws_drop]
            have z_p4 := Same.new (o := .lst (wsV (ws.drop (sp + e)))) hp4
            have ep4 := upd_same (H := G3_H14) (a := p4) (o := .lst (wsV (ws.drop (sp + e))))
            generalize upd G3_H14 p4 (.lst (wsV (ws.drop (sp + e)))) = G4_H14 at z_p4 ep4
            replace W := W.same z_p4
            replace eq := z_p4 _ _ eq
            replace eM := z_p4 _ _ eM
            replace ep1 := z_p4 _ _ ep1
            replace ep2 := z_p4 _ _ ep2
            replace ep3 := z_p4 _ _ ep3
            clear z_p4 hp4
            walk_at "go"
            refine ⟨p2, p4, _, _, rfl, rfl, ep2, ep4, by rw [ws_len, ws_len, List.length_append, List.length_take, List.length_drop]; exact Nat.le_trans (show _ ≤ 200 by omega) (by decide), fun p5 hp5 => ?_⟩
            have z_p5 := Same.new (o := .lst (wsV (ws.take sp ++ mw) ++ wsV (ws.drop (sp + e)))) hp5
            have ep5 : (upd G4_H14 p5 (.lst (wsV (ws.take sp ++ mw) ++ wsV (ws.drop (sp + e))))) p5 = some (.lst (wsV (ws.take sp ++ mw ++ ws.drop (sp + e)))) := by
              rw [upd_same]
              unfold wsV; rw [← List.map_append]
            generalize upd G4_H14 p5 (.lst (wsV (ws.take sp ++ mw) ++ wsV (ws.drop (sp + e)))) = G5_H14 at z_p5 ep5
            replace W := W.same z_p5
            replace eq := z_p5 _ _ eq
            replace eM := z_p5 _ _ eM
            replace ep1 := z_p5 _ _ ep1
            replace ep2 := z_p5 _ _ ep2
            replace ep3 := z_p5 _ _ ep3
            replace ep4 := z_p5 _ _ ep4
            clear z_p5 hp5
            have gw := gi.edit okm lm sp (sp + e) (by omega)
            generalize ws.take sp ++ mw ++ ws.drop (sp + e) = wn at ep5 gw
            have lus := W.hl.1
            walk_at "go"
            refine ⟨B, us, rfl, SqL.of W.eB, fun p6 hp6 => ?_⟩
            rw [cutV_take]
            have z_p6 := Same.new (o := .lst (us.take p)) hp6
            have ep6 := upd_same (H := G5_H14) (a := p6) (o := .lst (us.take p))
            generalize upd G5_H14 p6 (.lst (us.take p)) = G6_H14 at z_p6 ep6
            replace W := W.same z_p6
            replace eq := z_p6 _ _ eq
            replace eM := z_p6 _ _ eM
            replace ep1 := z_p6 _ _ ep1
            replace ep2 := z_p6 _ _ ep2
            replace ep3 := z_p6 _ _ ep3
            replace ep4 := z_p6 _ _ ep4
            replace ep5 := z_p6 _ _ ep5
            clear z_p6 hp6
            walk_at "go"
            refine ⟨(by decide : 1 ≤ sizeLine), fun p7 hp7 => ?_⟩
            have z_p7 := Same.new (o := .lst [.ref p5]) hp7
            have ep7 := upd_same (H := G6_H14) (a := p7) (o := .lst [.ref p5])
            generalize upd G6_H14 p7 (.lst [.ref p5]) = G7_H14 at z_p7 ep7
            replace W := W.same z_p7
            replace eq := z_p7 _ _ eq
            replace eM := z_p7 _ _ eM
            replace ep1 := z_p7 _ _ ep1
            replace ep2 := z_p7 _ _ ep2
            replace ep3 := z_p7 _ _ ep3
            replace ep4 := z_p7 _ _ ep4
            replace ep5 := z_p7 _ _ ep5
            replace ep6 := z_p7 _ _ ep6
            clear z_p7 hp7
            walk_at "go"
            refine ⟨p6, p7, _, _, rfl, rfl, ep6, ep7, Nat.le_trans (show _ ≤ 300 by simp only [List.length_append, List.length_take, List.length_drop, List.length_cons, List.length_nil]; omega) (by decide), fun p8 hp8 => ?_⟩
            have z_p8 := Same.new (o := .lst (us.take p ++ [.ref p5])) hp8
            have ep8 := upd_same (H := G7_H14) (a := p8) (o := .lst (us.take p ++ [.ref p5]))
            generalize upd G7_H14 p8 (.lst (us.take p ++ [.ref p5])) = G8_H14 at z_p8 ep8
            replace W := W.same z_p8
            replace eq := z_p8 _ _ eq
            replace eM := z_p8 _ _ eM
            replace ep1 := z_p8 _ _ ep1
            replace ep2 := z_p8 _ _ ep2
            replace ep3 := z_p8 _ _ ep3
            replace ep4 := z_p8 _ _ ep4
            replace ep5 := z_p8 _ _ ep5
            replace ep6 := z_p8 _ _ ep6
            replace ep7 := z_p8 _ _ ep7
            clear z_p8 hp8
            walk_at "go"
            refine ⟨B, us, rfl, SqL.of W.eB, fun p9 hp9 => ?_⟩
            rw [show (((p : Nat) : Int) + 1) = ((p + 1 : Nat) : Int) by omega, cutV_drop]
            have z_p9 := Same.new (o := .lst (us.drop (p + 1))) hp9
            have ep9 := upd_same (H := G8_H14) (a := p9) (o := .lst (us.drop (p + 1)))
            generalize upd G8_H14 p9 (.lst (us.drop (p + 1))) = G9_H14 at z_p9 ep9
            replace W := W.same z_p9
            replace eq := z_p9 _ _ eq
            replace eM := z_p9 _ _ eM
            replace ep1 := z_p9 _ _ ep1
            replace ep2 := z_p9 _ _ ep2
            replace ep3 := z_p9 _ _ ep3
            replace ep4 := z_p9 _ _ ep4
            replace ep5 := z_p9 _ _ ep5
            replace ep6 := z_p9 _ _ ep6
            replace ep7 := z_p9 _ _ ep7
            replace ep8 := z_p9 _ _ ep8
            clear z_p9 hp9
            walk_at "go"
            refine ⟨p8, p9, _, _, rfl, rfl, ep8, ep9, Nat.le_trans (show _ ≤ 300 by simp only [List.length_append, List.length_take, List.length_drop, List.length_cons, List.length_nil]; omega) (by decide), fun p10 hp10 => ?_⟩
            have z_p10 := Same.new (o := .lst (us.take p ++ [.ref p5] ++ us.drop (p + 1))) hp10
            have ep10 := upd_same (H := G9_H14) (a := p10) (o := .lst (us.take p ++ [.ref p5] ++ us.drop (p + 1)))
            generalize upd G9_H14 p10 (.lst (us.take p ++ [.ref p5] ++ us.drop (p + 1))) = G10_H14 at z_p10 ep10
            replace W := W.same z_p10
            replace eq := z_p10 _ _ eq
            replace eM := z_p10 _ _ eM
            replace ep1 := z_p10 _ _ ep1
            replace ep2 := z_p10 _ _ ep2
            replace ep3 := z_p10 _ _ ep3
            replace ep4 := z_p10 _ _ ep4
            replace ep5 := z_p10 _ _ ep5
            replace ep6 := z_p10 _ _ ep6
            replace ep7 := z_p10 _ _ ep7
            replace ep8 := z_p10 _ _ ep8
            replace ep9 := z_p10 _ _ ep9
            clear z_p10 hp10
            exact ⟨p10, _, wss.take p ++ [wn] ++ wss.drop (p + 1), _, _, _, _, _, _, _, W.to ep10 (((W.hl.take p).app (LlnAt.one ep5)).app (W.hl.drop (p + 1))), g.e.edit (fun v hv => by rw [List.mem_singleton.mp hv]; exact gw.mono (by omega)) p (p + 1) (by rw [List.length_singleton]; omega), rfl⟩
          · walk_at "go"
            refine k_ite (fun c5 => ?_) (fun c5 => ?_)
            ·
              walk_at "go"
              refine ⟨(by decide : 1 ≤ sizeLine), fun p1 hp1 => ?_⟩
              have z_p1 := Same.new (o := .lst [.ref q]) hp1
              have ep1 := upd_same (H := H14) (a := p1) (o := .lst [.ref q])
              generalize upd H14 p1 (.lst [.ref q]) = G1_H14 at z_p1 ep1
              replace W := W.same z_p1
              replace eq := z_p1 _ _ eq
              clear z_p1 hp1
              walk_at "go"
              refine ⟨a, 2, rfl, by decide, by decide, W.R, fun x G2 x0 x2 R2 K2 => ?_⟩
              have n1a : p1 ≠ a := W.R.neL (wss := [ws]) ep1 (LlnAt.one eq)
              replace ep1 := K2 _ _ n1a ep1
              replace eq := K2 _ _ (W.R.neW eq) eq
              replace W := W.keep R2 K2
              obtain ⟨x, rfl⟩ := Int.eq_ofNat_of_zero_le x0
              refine ⟨_, _, rfl, rfl, by show Nat.log2 _ + Nat.log2 _ < _; exact (mul_small (by omega)), ?_⟩
              have e2x : ((2 : Int) * ((x : Nat) : Int)).toNat = 2 * x := by omega
              refine ⟨p1, _, _, rfl, rfl, ep1, by omega, by omega, by rw [e2x, List.length_singleton]; exact Nat.le_trans (show _ ≤ 300 by omega) (by decide), fun p2 hp2 => ?_⟩
              rw [e2x, rep_one]
              have z_p2 := Same.new (o := .lst (List.replicate (2 * x) (V.ref q))) hp2
              have ep2 := upd_same (H := G2) (a := p2) (o := .lst (List.replicate (2 * x) (V.ref q)))
              generalize upd G2 p2 (.lst (List.replicate (2 * x) (V.ref q))) = G2_H14 at z_p2 ep2
              replace W := W.same z_p2
              replace eq := z_p2 _ _ eq
              replace ep1 := z_p2 _ _ ep1
              clear z_p2 hp2
              have lus := W.hl.1
              walk_at "go"
              refine ⟨B, us, rfl, SqL.of W.eB, fun p3 hp3 => ?_⟩
              rw [cutV_take]
              have z_p3 := Same.new (o := .lst (us.take p)) hp3
              have ep3 := upd_same (H := G2_H14) (a := p3) (o := .lst (us.take p))
              generalize upd G2_H14 p3 (.lst (us.take p)) = G3_H14 at z_p3 ep3
              replace W := W.same z_p3
              replace eq := z_p3 _ _ eq
              replace ep1 := z_p3 _ _ ep1
              replace ep2 := z_p3 _ _ ep2
              clear z_p3 hp3
              walk_at "go"
              refine ⟨p3, p2, _, _, rfl, rfl, ep3, ep2, Nat.le_trans (show _ ≤ 300 by simp only [List.length_append, List.length_take, List.length_drop, List.length_cons, List.length_nil, List.length_replicate]; omega) (by decide), fun p4 hp4 => ?_⟩
              have z_p4 := Same.new (o := .lst (us.take p ++ List.replicate (2 * x) (V.ref q))) hp4
              have ep4 := upd_same (H := G3_H14) (a := p4) (o := .lst (us.take p ++ List.replicate (2 * x) (V.ref q)))
              generalize upd G3_H14 p4 (.lst (us.take p ++ List.replicate (2 * x) (V.ref q))) = G4_H14 at z_p4 ep4
              replace W := W.same z_p4
              replace eq := z_p4 _ _ eq
              replace ep1 := z_p4 _ _ ep1
              replace ep2 := z_p4 _ _ ep2
              replace ep3 := z_p4 _ _ ep3
              clear z_p4 hp4
              walk_at "go"
              refine ⟨B, us, rfl, SqL.of W.eB, fun p5 hp5 => ?_⟩
              rw [show (((p : Nat) : Int) + 1) = ((p + 1 : Nat) : Int) by omega, cutV_drop]
              have z_p5 := Same.new (o := .lst (us.drop (p + 1))) hp5
              have ep5 := upd_same (H := G4_H14) (a := p5) (o := .lst (us.drop (p + 1)))
              generalize upd G4_H14 p5 (.lst (us.drop (p + 1))) = G5_H14 at z_p5 ep5
              replace W := W.same z_p5
              replace eq := z_p5 _ _ eq
              replace ep1 := z_p5 _ _ ep1
              replace ep2 := z_p5 _ _ ep2
              replace ep3 := z_p5 _ _ ep3
              replace ep4 := z_p5 _ _ ep4
              clear z_p5 hp5
              walk_at "go"
              refine ⟨p4, p5, _, _, rfl, rfl, ep4, ep5, Nat.le_trans (show _ ≤ 300 by simp only [List.length_append, List.length_take, List.length_drop, List.length_cons, List.length_nil, List.length_replicate]; omega) (by decide), fun p6 hp6 => ?_⟩
              have z_p6 := Same.new (o := .lst (us.take p ++ List.replicate (2 * x) (V.ref q) ++ us.drop (p + 1))) hp6
              have ep6 := upd_same (H := G5_H14) (a := p6) (o := .lst (us.take p ++ List.replicate (2 * x) (V.ref q) ++ us.drop (p + 1)))
              generalize upd G5_H14 p6 (.lst (us.take p ++ List.replicate (2 * x) (V.ref q) ++ us.drop (p + 1))) = G6_H14 at z_p6 ep6
              replace W := W.same z_p6
              replace eq := z_p6 _ _ eq
              replace ep1 := z_p6 _ _ ep1
              replace ep2 := z_p6 _ _ ep2
              replace ep3 := z_p6 _ _ ep3
              replace ep4 := z_p6 _ _ ep4
              replace ep5 := z_p6 _ _ ep5
              clear z_p6 hp6
              exact ⟨p6, _, wss.take p ++ List.replicate (2 * x) ws ++ wss.drop (p + 1), _, _, _, _, _, _, _, W.to ep6 (((W.hl.take p).app (lln_rep eq (2 * x))).app (W.hl.drop (p + 1))), g.e.edit (fun v hv => by rw [List.eq_of_mem_replicate hv]; exact gi.mono (by omega)) p (p + 1) (by rw [List.length_replicate]; omega), rfl⟩
            · walk_at "go"
              refine k_ite (fun c6 => ?_) (fun c6 => ?_)
              ·
                have lus := W.hl.1
                walk_at "go"
                refine ⟨B, us, rfl, SqL.of W.eB, fun p1 hp1 => ?_⟩
                rw [show (((p : Nat) : Int) + 1) = ((p + 1 : Nat) : Int) by omega, show (((p : Nat) : Int) + 2) = ((p + 2 : Nat) : Int) by omega, cutV_both us (p + 1) (p + 2) (by omega), show p + 2 - (p + 1) = 1 by omega]
                have z_p1 := Same.new (o := .lst ((us.drop (p + 1)).take 1)) hp1
                have ep1 := upd_same (H := H14) (a := p1) (o := .lst ((us.drop (p + 1)).take 1))
                generalize upd H14 p1 (.lst ((us.drop (p + 1)).take 1)) = G1_H14 at z_p1 ep1
                replace W := W.same z_p1
                replace eq := z_p1 _ _ eq
                clear z_p1 hp1
                walk_at "go"
                refine ⟨(by decide : 1 ≤ sizeLine), fun p2 hp2 => ?_⟩
                have z_p2 := Same.new (o := .lst [.ref q]) hp2
                have ep2 := upd_same (H := G1_H14) (a := p2) (o := .lst [.ref q])
                generalize upd G1_H14 p2 (.lst [.ref q]) = G2_H14 at z_p2 ep2
                replace W := W.same z_p2
                replace eq := z_p2 _ _ eq
                replace ep1 := z_p2 _ _ ep1
                clear z_p2 hp2
                walk_at "go"
                refine ⟨p1, p2, _, _, rfl, rfl, ep1, ep2, Nat.le_trans (show _ ≤ 300 by simp only [List.length_append, List.length_take, List.length_drop, List.length_cons, List.length_nil]; omega) (by decide), fun p3 hp3 => ?_⟩
                have z_p3 := Same.new (o := .lst ((us.drop (p + 1)).take 1 ++ [.ref q])) hp3
                have ep3 := upd_same (H := G2_H14) (a := p3) (o := .lst ((us.drop (p + 1)).take 1 ++ [.ref q]))
                generalize upd G2_H14 p3 (.lst ((us.drop (p + 1)).take 1 ++ [.ref q])) = G3_H14 at z_p3 ep3
                replace W := W.same z_p3
                replace eq := z_p3 _ _ eq
                replace ep1 := z_p3 _ _ ep1
                replace ep2 := z_p3 _ _ ep2
                clear z_p3 hp3
                walk_at "go"
                refine ⟨B, us, rfl, SqL.of W.eB, fun p4 hp4 => ?_⟩
                rw [cutV_take]
                have z_p4 := Same.new (o := .lst (us.take p)) hp4
                have ep4 := upd_same (H := G3_H14) (a := p4) (o := .lst (us.take p))
                generalize upd G3_H14 p4 (.lst (us.take p)) = G4_H14 at z_p4 ep4
                replace W := W.same z_p4
                replace eq := z_p4 _ _ eq
                replace ep1 := z_p4 _ _ ep1
                replace ep2 := z_p4 _ _ ep2
                replace ep3 := z_p4 _ _ ep3
                clear z_p4 hp4
                walk_at "go"
                refine ⟨p4, p3, _, _, rfl, rfl, ep4, ep3, Nat.le_trans (show _ ≤ 300 by simp only [List.length_append, List.length_take, List.length_drop, List.length_cons, List.length_nil]; omega) (by decide), fun p5 hp5 => ?_⟩
                have z_p5 := Same.new (o := .lst (us.take p ++ ((us.drop (p + 1)).take 1 ++ [.ref q]))) hp5
                have ep5 := upd_same (H := G4_H14) (a := p5) (o := .lst (us.take p ++ ((us.drop (p + 1)).take 1 ++ [.ref q])))
                generalize upd G4_H14 p5 (.lst (us.take p ++ ((us.drop (p + 1)).take 1 ++ [.ref q]))) = G5_H14 at z_p5 ep5
                replace W := W.same z_p5
                replace eq := z_p5 _ _ eq
                replace ep1 := z_p5 _ _ ep1
                replace ep2 := z_p5 _ _ ep2
                replace ep3 := z_p5 _ _ ep3
                replace ep4 := z_p5 _ _ ep4
                clear z_p5 hp5
                walk_at "go"
                refine ⟨B, us, rfl, SqL.of W.eB, fun p6 hp6 => ?_⟩
                rw [show (((p : Nat) : Int) + 2) = ((p + 2 : Nat) : Int) by omega, cutV_drop]
                have z_p6 := Same.new (o := .lst (us.drop (p + 2))) hp6
                have ep6 := upd_same (H := G5_H14) (a := p6) (o := .lst (us.drop (p + 2)))
                generalize upd G5_H14 p6 (.lst (us.drop (p + 2))) = G6_H14 at z_p6 ep6
                replace W := W.same z_p6
                replace eq := z_p6 _ _ eq
                replace ep1 := z_p6 _ _ ep1
                replace ep2 := z_p6 _ _ ep2
                replace ep3 := z_p6 _ _ ep3
                replace ep4 := z_p6 _ _ ep4
                replace ep5 := z_p6 _ _ ep5
                clear z_p6 hp6
                walk_at "go"
                refine ⟨p5, p6, _, _, rfl, rfl, ep5, ep6, Nat.le_trans (show _ ≤ 300 by simp only [List.length_append, List.length_take, List.length_drop, List.length_cons, List.length_nil]; omega) (by decide), fun p7 hp7 => ?_⟩
                have z_p7 := Same.new (o := .lst (us.take p ++ ((us.drop (p + 1)).take 1 ++ [.ref q]) ++ us.drop (p + 2))) hp7
                have ep7 := upd_same (H := G6_H14) (a := p7) (o := .lst (us.take p ++ ((us.drop (p + 1)).take 1 ++ [.ref q]) ++ us.drop (p + 2)))
                generalize upd G6_H14 p7 (.lst (us.take p ++ ((us.drop (p + 1)).take 1 ++ [.ref q]) ++ us.drop (p + 2))) = G7_H14 at z_p7 ep7
                replace W := W.same z_p7
                replace eq := z_p7 _ _ eq
                replace ep1 := z_p7 _ _ ep1
                replace ep2 := z_p7 _ _ ep2
                replace ep3 := z_p7 _ _ ep3
                replace ep4 := z_p7 _ _ ep4
                replace ep5 := z_p7 _ _ ep5
                replace ep6 := z_p7 _ _ ep6
                clear z_p7 hp7
                exact ⟨p7, _, wss.take p ++ ((wss.drop (p + 1)).take 1 ++ [ws]) ++ wss.drop (p + 2), _, _, _, _, _, _, _, W.to ep7 (((W.hl.take p).app (((W.hl.drop (p + 1)).take 1).app (LlnAt.one eq))).app (W.hl.drop (p + 2))), g.e.edit (fun v hv => by
                  rcases List.mem_append.mp hv with hv | hv
                  · exact (g.ok _ (List.mem_of_mem_drop (List.mem_of_mem_take hv))).mono (by omega)
                  · rw [List.mem_singleton.mp hv]; exact gi.mono (by omega)) p (p + 2) (by rw [List.length_append, List.length_take, List.length_drop, List.length_singleton]; omega), rfl⟩
              ·
                have lus := W.hl.1
                walk_at "go"
                refine ⟨B, us, rfl, SqL.of W.eB, fun p1 hp1 => ?_⟩
                rw [cutV_take]
                have z_p1 := Same.new (o := .lst (us.take p)) hp1
                have ep1 := upd_same (H := H14) (a := p1) (o := .lst (us.take p))
                generalize upd H14 p1 (.lst (us.take p)) = G1_H14 at z_p1 ep1
                replace W := W.same z_p1
                clear z_p1 hp1
                walk_at "go"
                refine ⟨(by decide : 0 ≤ sizeLine), fun p2 hp2 => ?_⟩
                have z_p2 := Same.new (o := .lst []) hp2
                have ep2 := upd_same (H := G1_H14) (a := p2) (o := .lst [])
                generalize upd G1_H14 p2 (.lst []) = G2_H14 at z_p2 ep2
                replace W := W.same z_p2
                replace ep1 := z_p2 _ _ ep1
                clear z_p2 hp2
                refine k_nil ?_
                refine ⟨(by decide : 1 ≤ sizeLine), fun p3 hp3 => ?_⟩
                have z_p3 := Same.new (o := .lst [.ref p2]) hp3
                have ep3 := upd_same (H := G2_H14) (a := p3) (o := .lst [.ref p2])
                generalize upd G2_H14 p3 (.lst [.ref p2]) = G3_H14 at z_p3 ep3
                replace W := W.same z_p3
                replace ep1 := z_p3 _ _ ep1
                replace ep2 := z_p3 _ _ ep2
                clear z_p3 hp3
                walk_at "go"
                refine ⟨p1, p3, _, _, rfl, rfl, ep1, ep3, Nat.le_trans (show _ ≤ 300 by simp only [List.length_append, List.length_take, List.length_drop, List.length_cons, List.length_nil]; omega) (by decide), fun p4 hp4 => ?_⟩
                have z_p4 := Same.new (o := .lst (us.take p ++ [.ref p2])) hp4
                have ep4 := upd_same (H := G3_H14) (a := p4) (o := .lst (us.take p ++ [.ref p2]))
                generalize upd G3_H14 p4 (.lst (us.take p ++ [.ref p2])) = G4_H14 at z_p4 ep4
                replace W := W.same z_p4
                replace ep1 := z_p4 _ _ ep1
                replace ep2 := z_p4 _ _ ep2
                replace ep3 := z_p4 _ _ ep3
                clear z_p4 hp4
                walk_at "go"
                refine ⟨B, us, rfl, SqL.of W.eB, fun p5 hp5 => ?_⟩
                rw [cutV_drop]
                have z_p5 := Same.new (o := .lst (us.drop p)) hp5
                have ep5 := upd_same (H := G4_H14) (a := p5) (o := .lst (us.drop p))
                generalize upd G4_H14 p5 (.lst (us.drop p)) = G5_H14 at z_p5 ep5
                replace W := W.same z_p5
                replace ep1 := z_p5 _ _ ep1
                replace ep2 := z_p5 _ _ ep2
                replace ep3 := z_p5 _ _ ep3
                replace ep4 := z_p5 _ _ ep4
                clear z_p5 hp5
                walk_at "go"
                refine ⟨p4, p5, _, _, rfl, rfl, ep4, ep5, Nat.le_trans (show _ ≤ 300 by simp only [List.length_append, List.length_take, List.length_drop, List.length_cons, List.length_nil]; omega) (by decide), fun p6 hp6 => ?_⟩
                have z_p6 := Same.new (o := .lst (us.take p ++ [.ref p2] ++ us.drop p)) hp6
                have ep6 := upd_same (H := G5_H14) (a := p6) (o := .lst (us.take p ++ [.ref p2] ++ us.drop p))
                generalize upd G5_H14 p6 (.lst (us.take p ++ [.ref p2] ++ us.drop p)) = G6_H14 at z_p6 ep6
                replace W := W.same z_p6
                replace ep1 := z_p6 _ _ ep1
                replace ep2 := z_p6 _ _ ep2
                replace ep3 := z_p6 _ _ ep3
                replace ep4 := z_p6 _ _ ep4
                replace ep5 := z_p6 _ _ ep5
                clear z_p6 hp6
                exact ⟨p6, _, wss.take p ++ [[]] ++ wss.drop p, _, _, _, _, _, _, _, W.to ep6 (((W.hl.take p).app (LlnAt.one (ws := []) ep2)).app (W.hl.drop p)), g.e.edit (fun v hv => by rw [List.mem_singleton.mp hv]; exact ⟨Nat.zero_le _, fun w h => by cases h⟩) p p (by rw [List.length_singleton]; omega), rfl⟩
        · clear W g gi gn gn1 xi eu eq eM lm okm pl' lwi pl p0 sl s0
          rintro σ' H15 ⟨B, us, wss, c6, c7, c8, c9, c10, c11, c12, W, g, rfl⟩
          walk_at "go"
          refine k_orT ?_
          walk_at "go"
          refine ⟨_, .inl ⟨us, SqL.of W.eB, rfl⟩, ?_⟩
          have lus := W.hl.1
          cases us with
          | nil =>
            refine iteF ?_
            walk_at "go"
            refine ⟨(by decide : 0 ≤ sizeLine), fun p1 hp1 => ?_⟩
            refine k_nil ?_
            have z1 := Same.new (o := .lst []) hp1
            have e1 := upd_same (H := H15) (a := p1) (o := .lst [])
            generalize upd H15 p1 (.lst []) = H16 at z1 e1
            refine ⟨(by decide : 1 ≤ sizeLine), fun p2 hp2 => ?_⟩
            have z2 := Same.new (o := .lst [.ref p1]) hp2
            exact ⟨p2, _, [[]], ((W.same z1).same z2).to upd_same (LlnAt.one (ws := []) (z2 _ _ e1)), rows_nil _, _, _, _, _, _, _, _, _, rfl⟩
          | cons u us =>
            refine iteT ?_
            exact ⟨B, _, wss, W, g.g (by rw [← lus]; exact Nat.succ_pos _), _, _, _, _, _, _, _, _, rfl⟩
      · rintro σ H10 ⟨B, us, wss, W, g, c5, c6, c7, c8, c9, c10, c11, c12, rfl⟩
        have j2 : (1 + y).toNat ≤ 50 := by omega
        replace g := g.mono j2
        walk_at "go"
        refine join_rows (K := K) W.eB W.hl g fun H11 z11 => ?_
        walk_at "go"
        refine ⟨wss, txW wss, rfl, (lines_of g).1, (lines_of g).2, fun v H12 z12 hv => ?_⟩
        replace W := (W.same z11).same z12
        clear z11 z12
        walk_at "go"
        refine ⟨B, us, wss, rfl, W.eB, W.hl, g, fun v2 H13 z13 hv2 => ?_⟩
        refine k_verN (hv.same z13) hv2 ?_
        walk_at "go"
        refine iteF ?_
        have W13 := W.same z13
        exact ⟨W13.R, W13.eO, _, _, _, _, _, _, _, _, _, _, rfl⟩
    · rintro σ H2 ⟨R2, e2, b3, b4, b5, b6, b7, b8, b9, b10, b11, b12, rfl⟩
      walk_at "go"
      refine ⟨[[]], txW [[]], by rfl, (lines_of (rows_nil 50)).1, (lines_of (rows_nil 50)).2, fun v H3 z3 hv => ?_⟩
      walk_at "go"
      refine ⟨(by decide : 2 ≤ sizeLine), fun q hq => ?_⟩
      rw [textF_e] at hv
      refine k_ver (hv.same (Same.new hq)) ⟨q, rfl, upd_same⟩ ?_
      walk_at "go"
      refine iteT ?_
      walk_at "go"
      refine ⟨[[stW, numW 1]], txW [[stW, numW 1]], congrArg (fun z => [V.str z]) (by decide +kernel), (lines_of (rows_s.mono (by decide))).1, (lines_of (rows_s.mono (by decide))).2, fun v2 H4 z4 hv2 => ?_⟩
      walk_at "go"
      refine ⟨(by decide : 2 ≤ sizeLine), fun q2 hq2 => ?_⟩
      rw [textF_s] at hv2
      refine k_ver (hv2.same (Same.new hq2)) ⟨q2, rfl, upd_same⟩ ?_
      exact k _
end
/-! ### what the written part says -/
theorem exc_self {K : PySem.W.Frag} {S : Addr} (hb : PySem.W.subIn K (.ref S) (.type "BaseException") = some true) (hc : PySem.W.isClsIn K S = true) (ht : PySem.W.typeIn K (.ref S) = some (.type "type")) (hs : PySem.W.subIn K (.ref S) (.ref S) = some true) : PySem.W.exmOne K (.ref S) (.ref S) = some true := by
  have hc' : (PySem.W.clsIn K S).isSome = true := hc
  unfold PySem.W.exmOne PySem.W.kitCls
  simp only [hb, ht, hc', hs, beq_self_eq_true, Bool.and_self, if_true]
theorem bb_InvalidText_init (kV doc pm : Value) (an : Option Addr) (cdv ct : Value) (us : List Value) (hl : us.length = 3) : bindArgs (PySem.W.fnOf "__init__" "InvalidText.__init__" (defArgs s_InvalidText_init) (defBody s_InvalidText_init) (defScope s_InvalidText_init) .none kV doc pm an cdv ct) ⟨us, []⟩ = pure ((["self", "line", "word"] : List Str).zip us) := match us, hl with | [_, _, _], _ => rfl
theorem bb_Machine_init (kV doc pm : Value) (an : Option Addr) (cdv ct : Value) (us : List Value) (hl : us.length = 4) : bindArgs (PySem.W.fnOf "__init__" "Machine.__init__" (defArgs s_Machine_init) (defBody s_Machine_init) (defScope s_Machine_init) .none kV doc pm an cdv ct) ⟨us, []⟩ = pure ((["self", "stands", "steps", "ends"] : List Str).zip us) := match us, hl with | [_, _, _, _], _ => rfl
theorem bb_is_whole_number (kV doc pm : Value) (an : Option Addr) (cdv ct : Value) (us : List Value) (hl : us.length = 1) : bindArgs (PySem.W.fnOf "is_whole_number" "is_whole_number" (defArgs s_is_whole_number) (defBody s_is_whole_number) (defScope s_is_whole_number) .none kV doc pm an cdv ct) ⟨us, []⟩ = pure ((["value"] : List Str).zip us) := match us, hl with | [_], _ => rfl
theorem bb_is_integer_between (kV doc pm : Value) (an : Option Addr) (cdv ct : Value) (us : List Value) (hl : us.length = 3) : bindArgs (PySem.W.fnOf "is_integer_between" "is_integer_between" (defArgs s_is_integer_between) (defBody s_is_integer_between) (defScope s_is_integer_between) .none kV doc pm an cdv ct) ⟨us, []⟩ = pure ((["value", "least", "most"] : List Str).zip us) := match us, hl with | [_, _, _], _ => rfl
theorem bb_is_stand (kV doc pm : Value) (an : Option Addr) (cdv ct : Value) (us : List Value) (hl : us.length = 2) : bindArgs (PySem.W.fnOf "_is_stand" "_is_stand" (defArgs s_is_stand) (defBody s_is_stand) (defScope s_is_stand) .none kV doc pm an cdv ct) ⟨us, []⟩ = pure ((["stands", "value"] : List Str).zip us) := match us, hl with | [_, _], _ => rfl
theorem bb_check_stands (kV doc pm : Value) (an : Option Addr) (cdv ct : Value) (us : List Value) (hl : us.length = 1) : bindArgs (PySem.W.fnOf "_check_stands" "_check_stands" (defArgs s_check_stands) (defBody s_check_stands) (defScope s_check_stands) .none kV doc pm an cdv ct) ⟨us, []⟩ = pure ((["stands"] : List Str).zip us) := match us, hl with | [_], _ => rfl
theorem bb_is_step (kV doc pm : Value) (an : Option Addr) (cdv ct : Value) (us : List Value) (hl : us.length = 2) : bindArgs (PySem.W.fnOf "_is_step" "_is_step" (defArgs s_is_step) (defBody s_is_step) (defScope s_is_step) .none kV doc pm an cdv ct) ⟨us, []⟩ = pure ((["stands", "value"] : List Str).zip us) := match us, hl with | [_, _], _ => rfl
theorem bb_check_steps (kV doc pm : Value) (an : Option Addr) (cdv ct : Value) (us : List Value) (hl : us.length = 2) : bindArgs (PySem.W.fnOf "_check_steps" "_check_steps" (defArgs s_check_steps) (defBody s_check_steps) (defScope s_check_steps) .none kV doc pm an cdv ct) ⟨us, []⟩ = pure ((["stands", "steps"] : List Str).zip us) := match us, hl with | [_, _], _ => rfl
theorem bb_is_ascending (kV doc pm : Value) (an : Option Addr) (cdv ct : Value) (us : List Value) (hl : us.length = 2) : bindArgs (PySem.W.fnOf "is_ascending" "is_ascending" (defArgs s_is_ascending) (defBody s_is_ascending) (defScope s_is_ascending) .none kV doc pm an cdv ct) ⟨us, []⟩ = pure ((["value", "many"] : List Str).zip us) := match us, hl with | [_, _], _ => rfl
theorem bb_check_ends (kV doc pm : Value) (an : Option Addr) (cdv ct : Value) (us : List Value) (hl : us.length = 2) : bindArgs (PySem.W.fnOf "_check_ends" "_check_ends" (defArgs s_check_ends) (defBody s_check_ends) (defScope s_check_ends) .none kV doc pm an cdv ct) ⟨us, []⟩ = pure ((["stands", "ends"] : List Str).zip us) := match us, hl with | [_, _], _ => rfl
theorem bb_number (kV doc pm : Value) (an : Option Addr) (cdv ct : Value) (us : List Value) (hl : us.length = 3) : bindArgs (PySem.W.fnOf "_number" "_number" (defArgs s_number) (defBody s_number) (defScope s_number) .none kV doc pm an cdv ct) ⟨us, []⟩ = pure ((["word", "least", "most"] : List Str).zip us) := match us, hl with | [_, _, _], _ => rfl
theorem bb_LineReader_init (kV doc pm : Value) (an : Option Addr) (cdv ct : Value) (us : List Value) (hl : us.length = 3) : bindArgs (PySem.W.fnOf "__init__" "LineReader.__init__" (defArgs s_LineReader_init) (defBody s_LineReader_init) (defScope s_LineReader_init) .none kV doc pm an cdv ct) ⟨us, []⟩ = pure ((["self", "place", "words"] : List Str).zip us) := match us, hl with | [_, _, _], _ => rfl
theorem bb_LineReader_is_over (kV doc pm : Value) (an : Option Addr) (cdv ct : Value) (us : List Value) (hl : us.length = 1) : bindArgs (PySem.W.fnOf "is_over" "LineReader.is_over" (defArgs s_LineReader_is_over) (defBody s_LineReader_is_over) (defScope s_LineReader_is_over) .none kV doc pm an cdv ct) ⟨us, []⟩ = pure ((["self"] : List Str).zip us) := match us, hl with | [_], _ => rfl
theorem bb_LineReader_fail (kV doc pm : Value) (an : Option Addr) (cdv ct : Value) (us : List Value) (hl : us.length = 1) : bindArgs (PySem.W.fnOf "fail" "LineReader.fail" (defArgs s_LineReader_fail) (defBody s_LineReader_fail) (defScope s_LineReader_fail) .none kV doc pm an cdv ct) ⟨us, []⟩ = pure ((["self"] : List Str).zip us) := match us, hl with | [_], _ => rfl
theorem bb_LineReader_take (kV doc pm : Value) (an : Option Addr) (cdv ct : Value) (us : List Value) (hl : us.length = 2) : bindArgs (PySem.W.fnOf "take" "LineReader.take" (defArgs s_LineReader_take) (defBody s_LineReader_take) (defScope s_LineReader_take) .none kV doc pm an cdv ct) ⟨us, []⟩ = pure ((["self", "words"] : List Str).zip us) := match us, hl with | [_, _], _ => rfl
theorem bb_LineReader_take_number (kV doc pm : Value) (an : Option Addr) (cdv ct : Value) (us : List Value) (hl : us.length = 3) : bindArgs (PySem.W.fnOf "take_number" "LineReader.take_number" (defArgs s_LineReader_take_number) (defBody s_LineReader_take_number) (defScope s_LineReader_take_number) .none kV doc pm an cdv ct) ⟨us, []⟩ = pure ((["self", "least", "most"] : List Str).zip us) := match us, hl with | [_, _, _], _ => rfl
theorem bb_LineReader_finish (kV doc pm : Value) (an : Option Addr) (cdv ct : Value) (us : List Value) (hl : us.length = 1) : bindArgs (PySem.W.fnOf "finish" "LineReader.finish" (defArgs s_LineReader_finish) (defBody s_LineReader_finish) (defScope s_LineReader_finish) .none kV doc pm an cdv ct) ⟨us, []⟩ = pure ((["self"] : List Str).zip us) := match us, hl with | [_], _ => rfl
theorem bb_read_stands (kV doc pm : Value) (an : Option Addr) (cdv ct : Value) (us : List Value) (hl : us.length = 1) : bindArgs (PySem.W.fnOf "_read_stands" "_read_stands" (defArgs s_read_stands) (defBody s_read_stands) (defScope s_read_stands) .none kV doc pm an cdv ct) ⟨us, []⟩ = pure ((["line"] : List Str).zip us) := match us, hl with | [_], _ => rfl
theorem bb_read_ends (kV doc pm : Value) (an : Option Addr) (cdv ct : Value) (us : List Value) (hl : us.length = 2) : bindArgs (PySem.W.fnOf "_read_ends" "_read_ends" (defArgs s_read_ends) (defBody s_read_ends) (defScope s_read_ends) .none kV doc pm an cdv ct) ⟨us, []⟩ = pure ((["line", "stands"] : List Str).zip us) := match us, hl with | [_, _], _ => rfl
theorem bb_read_step (kV doc pm : Value) (an : Option Addr) (cdv ct : Value) (us : List Value) (hl : us.length = 3) : bindArgs (PySem.W.fnOf "_read_step" "_read_step" (defArgs s_read_step) (defBody s_read_step) (defScope s_read_step) .none kV doc pm an cdv ct) ⟨us, []⟩ = pure ((["line", "stands", "ahead"] : List Str).zip us) := match us, hl with | [_, _, _], _ => rfl
theorem bb_read (kV doc pm : Value) (an : Option Addr) (cdv ct : Value) (us : List Value) (hl : us.length = 1) : bindArgs (PySem.W.fnOf "read" "read" (defArgs s_read) (defBody s_read) (defScope s_read) .none kV doc pm an cdv ct) ⟨us, []⟩ = pure ((["text"] : List Str).zip us) := match us, hl with | [_], _ => rfl
theorem bb_law_taken (kV doc pm : Value) (an : Option Addr) (cdv ct : Value) (us : List Value) (hl : us.length = 2) : bindArgs (PySem.W.fnOf "_law_taken" "_law_taken" (defArgs s_law_taken) (defBody s_law_taken) (defScope s_law_taken) .none kV doc pm an cdv ct) ⟨us, []⟩ = pure ((["_law_row", "_law_many"] : List Str).zip us) := match us, hl with | [_, _], _ => rfl
theorem bb_law_parts (kV doc pm : Value) (an : Option Addr) (cdv ct : Value) (us : List Value) (hl : us.length = 3) : bindArgs (PySem.W.fnOf "_law_parts" "_law_parts" (defArgs s_law_parts) (defBody s_law_parts) (defScope s_law_parts) .none kV doc pm an cdv ct) ⟨us, []⟩ = pure ((["_law_row", "_law_stands", "_law_size"] : List Str).zip us) := match us, hl with | [_, _, _], _ => rfl
theorem bb_law_text (kV doc pm : Value) (an : Option Addr) (cdv ct : Value) (us : List Value) (hl : us.length = 1) : bindArgs (PySem.W.fnOf "_law_text" "_law_text" (defArgs s_law_text) (defBody s_law_text) (defScope s_law_text) .none kV doc pm an cdv ct) ⟨us, []⟩ = pure ((["_law_d"] : List Str).zip us) := match us, hl with | [_], _ => rfl
theorem bb_law_gain (kV doc pm : Value) (an : Option Addr) (cdv ct : Value) (us : List Value) (hl : us.length = 1) : bindArgs (PySem.W.fnOf "_law_gain" "_law_gain" (defArgs s_law_gain) (defBody s_law_gain) (defScope s_law_gain) .none kV doc pm an cdv ct) ⟨us, []⟩ = pure ((["_law_word"] : List Str).zip us) := match us, hl with | [_], _ => rfl
theorem bb_law_step (kV doc pm : Value) (an : Option Addr) (cdv ct : Value) (us : List Value) (hl : us.length = 3) : bindArgs (PySem.W.fnOf "_law_step" "_law_step" (defArgs s_law_step) (defBody s_law_step) (defScope s_law_step) .none kV doc pm an cdv ct) ⟨us, []⟩ = pure ((["_law_words", "_law_stands", "_law_ahead"] : List Str).zip us) := match us, hl with | [_, _, _], _ => rfl
theorem bb_law_wrong (kV doc pm : Value) (an : Option Addr) (cdv ct : Value) (us : List Value) (hl : us.length = 1) : bindArgs (PySem.W.fnOf "_law_wrong" "_law_wrong" (defArgs s_law_wrong) (defBody s_law_wrong) (defScope s_law_wrong) .none kV doc pm an cdv ct) ⟨us, []⟩ = pure ((["_law_rows"] : List Str).zip us) := match us, hl with | [_], _ => rfl
theorem bb_law_refused (kV doc pm : Value) (an : Option Addr) (cdv ct : Value) (us : List Value) (hl : us.length = 1) : bindArgs (PySem.W.fnOf "_law_refused" "_law_refused" (defArgs s_law_refused) (defBody s_law_refused) (defScope s_law_refused) .none kV doc pm an cdv ct) ⟨us, []⟩ = pure ((["_law_text_here"] : List Str).zip us) := match us, hl with | [_], _ => rfl
theorem bb_law (kV doc pm : Value) (an : Option Addr) (cdv ct : Value) (us : List Value) (hl : us.length = 1) : bindArgs (PySem.W.fnOf "law" "law" (defArgs s_law) (defBody s_law) (defScope s_law) .none kV doc pm an cdv ct) ⟨us, []⟩ = pure ((["_law_script"] : List Str).zip us) := match us, hl with | [_], _ => rfl
set_option maxHeartbeats 0 in
def txt_mk {K : PySem.W.Frag} {h : Heap} {mg : Str → Option Value} (X : K.In h) (G : h.Ns mainGlobals mg)
    {a_InvalidText_init : Addr} {od_InvalidText_init an_InvalidText_init : Option Addr} {sl_InvalidText_init : Array (Option Value)} {oc_InvalidText_init kV_InvalidText_init dc_InvalidText_init pm_InvalidText_init cd_InvalidText_init ct_InvalidText_init : Value}
    {a_Machine_init : Addr} {od_Machine_init an_Machine_init : Option Addr} {sl_Machine_init : Array (Option Value)} {oc_Machine_init kV_Machine_init dc_Machine_init pm_Machine_init cd_Machine_init ct_Machine_init : Value}
    {a_is_whole_number : Addr} {od_is_whole_number an_is_whole_number : Option Addr} {sl_is_whole_number : Array (Option Value)} {oc_is_whole_number kV_is_whole_number dc_is_whole_number pm_is_whole_number cd_is_whole_number ct_is_whole_number : Value}
    {a_is_integer_between : Addr} {od_is_integer_between an_is_integer_between : Option Addr} {sl_is_integer_between : Array (Option Value)} {oc_is_integer_between kV_is_integer_between dc_is_integer_between pm_is_integer_between cd_is_integer_between ct_is_integer_between : Value}
    {a_is_stand : Addr} {od_is_stand an_is_stand : Option Addr} {sl_is_stand : Array (Option Value)} {oc_is_stand kV_is_stand dc_is_stand pm_is_stand cd_is_stand ct_is_stand : Value}
    {a_check_stands : Addr} {od_check_stands an_check_stands : Option Addr} {sl_check_stands : Array (Option Value)} {oc_check_stands kV_check_stands dc_check_stands pm_check_stands cd_check_stands ct_check_stands : Value}
    {a_is_step : Addr} {od_is_step an_is_step : Option Addr} {sl_is_step : Array (Option Value)} {oc_is_step kV_is_step dc_is_step pm_is_step cd_is_step ct_is_step : Value}
    {a_check_steps : Addr} {od_check_steps an_check_steps : Option Addr} {sl_check_steps : Array (Option Value)} {oc_check_steps kV_check_steps dc_check_steps pm_check_steps cd_check_steps ct_check_steps : Value}
    {a_is_ascending : Addr} {od_is_ascending an_is_ascending : Option Addr} {sl_is_ascending : Array (Option Value)} {oc_is_ascending kV_is_ascending dc_is_ascending pm_is_ascending cd_is_ascending ct_is_ascending : Value}
    {a_check_ends : Addr} {od_check_ends an_check_ends : Option Addr} {sl_check_ends : Array (Option Value)} {oc_check_ends kV_check_ends dc_check_ends pm_check_ends cd_check_ends ct_check_ends : Value}
    {a_number : Addr} {od_number an_number : Option Addr} {sl_number : Array (Option Value)} {oc_number kV_number dc_number pm_number cd_number ct_number : Value}
    {a_LineReader_init : Addr} {od_LineReader_init an_LineReader_init : Option Addr} {sl_LineReader_init : Array (Option Value)} {oc_LineReader_init kV_LineReader_init dc_LineReader_init pm_LineReader_init cd_LineReader_init ct_LineReader_init : Value}
    {a_LineReader_is_over : Addr} {od_LineReader_is_over an_LineReader_is_over : Option Addr} {sl_LineReader_is_over : Array (Option Value)} {oc_LineReader_is_over kV_LineReader_is_over dc_LineReader_is_over pm_LineReader_is_over cd_LineReader_is_over ct_LineReader_is_over : Value}
    {a_LineReader_fail : Addr} {od_LineReader_fail an_LineReader_fail : Option Addr} {sl_LineReader_fail : Array (Option Value)} {oc_LineReader_fail kV_LineReader_fail dc_LineReader_fail pm_LineReader_fail cd_LineReader_fail ct_LineReader_fail : Value}
    {a_LineReader_take : Addr} {od_LineReader_take an_LineReader_take : Option Addr} {sl_LineReader_take : Array (Option Value)} {oc_LineReader_take kV_LineReader_take dc_LineReader_take pm_LineReader_take cd_LineReader_take ct_LineReader_take : Value}
    {a_LineReader_take_number : Addr} {od_LineReader_take_number an_LineReader_take_number : Option Addr} {sl_LineReader_take_number : Array (Option Value)} {oc_LineReader_take_number kV_LineReader_take_number dc_LineReader_take_number pm_LineReader_take_number cd_LineReader_take_number ct_LineReader_take_number : Value}
    {a_LineReader_finish : Addr} {od_LineReader_finish an_LineReader_finish : Option Addr} {sl_LineReader_finish : Array (Option Value)} {oc_LineReader_finish kV_LineReader_finish dc_LineReader_finish pm_LineReader_finish cd_LineReader_finish ct_LineReader_finish : Value}
    {a_read_stands : Addr} {od_read_stands an_read_stands : Option Addr} {sl_read_stands : Array (Option Value)} {oc_read_stands kV_read_stands dc_read_stands pm_read_stands cd_read_stands ct_read_stands : Value}
    {a_read_ends : Addr} {od_read_ends an_read_ends : Option Addr} {sl_read_ends : Array (Option Value)} {oc_read_ends kV_read_ends dc_read_ends pm_read_ends cd_read_ends ct_read_ends : Value}
    {a_read_step : Addr} {od_read_step an_read_step : Option Addr} {sl_read_step : Array (Option Value)} {oc_read_step kV_read_step dc_read_step pm_read_step cd_read_step ct_read_step : Value}
    {a_read : Addr} {od_read an_read : Option Addr} {sl_read : Array (Option Value)} {oc_read kV_read dc_read pm_read cd_read ct_read : Value}
    {a_law_taken : Addr} {od_law_taken an_law_taken : Option Addr} {sl_law_taken : Array (Option Value)} {oc_law_taken kV_law_taken dc_law_taken pm_law_taken cd_law_taken ct_law_taken : Value}
    {a_law_parts : Addr} {od_law_parts an_law_parts : Option Addr} {sl_law_parts : Array (Option Value)} {oc_law_parts kV_law_parts dc_law_parts pm_law_parts cd_law_parts ct_law_parts : Value}
    {a_law_text : Addr} {od_law_text an_law_text : Option Addr} {sl_law_text : Array (Option Value)} {oc_law_text kV_law_text dc_law_text pm_law_text cd_law_text ct_law_text : Value}
    {a_law_gain : Addr} {od_law_gain an_law_gain : Option Addr} {sl_law_gain : Array (Option Value)} {oc_law_gain kV_law_gain dc_law_gain pm_law_gain cd_law_gain ct_law_gain : Value}
    {a_law_step : Addr} {od_law_step an_law_step : Option Addr} {sl_law_step : Array (Option Value)} {oc_law_step kV_law_step dc_law_step pm_law_step cd_law_step ct_law_step : Value}
    {a_law_wrong : Addr} {od_law_wrong an_law_wrong : Option Addr} {sl_law_wrong : Array (Option Value)} {oc_law_wrong kV_law_wrong dc_law_wrong pm_law_wrong cd_law_wrong ct_law_wrong : Value}
    {a_law_refused : Addr} {od_law_refused an_law_refused : Option Addr} {sl_law_refused : Array (Option Value)} {oc_law_refused kV_law_refused dc_law_refused pm_law_refused cd_law_refused ct_law_refused : Value}
    {a_law : Addr} {od_law an_law : Option Addr} {sl_law : Array (Option Value)} {oc_law kV_law dc_law pm_law cd_law ct_law : Value}
    {c_Machine : Addr}
    {c_LineReader : Addr}
    {c_InvalidText : Addr}
    {c_TallyError : Addr}
    {t_MOST_STANDS : Tok}
    {t_MOST_GAIN : Tok}
    {a_LETTERS : Addr}
    (g_is_whole_number : PySem.W.nsIn K mainGlobals "is_whole_number" = some (some (.ref a_is_whole_number)))
    (g_is_integer_between : PySem.W.nsIn K mainGlobals "is_integer_between" = some (some (.ref a_is_integer_between)))
    (g_is_stand : PySem.W.nsIn K mainGlobals "_is_stand" = some (some (.ref a_is_stand)))
    (g_check_stands : PySem.W.nsIn K mainGlobals "_check_stands" = some (some (.ref a_check_stands)))
    (g_is_step : PySem.W.nsIn K mainGlobals "_is_step" = some (some (.ref a_is_step)))
    (g_check_steps : PySem.W.nsIn K mainGlobals "_check_steps" = some (some (.ref a_check_steps)))
    (g_is_ascending : PySem.W.nsIn K mainGlobals "is_ascending" = some (some (.ref a_is_ascending)))
    (g_check_ends : PySem.W.nsIn K mainGlobals "_check_ends" = some (some (.ref a_check_ends)))
    (g_number : PySem.W.nsIn K mainGlobals "_number" = some (some (.ref a_number)))
    (g_read_stands : PySem.W.nsIn K mainGlobals "_read_stands" = some (some (.ref a_read_stands)))
    (g_read_ends : PySem.W.nsIn K mainGlobals "_read_ends" = some (some (.ref a_read_ends)))
    (g_read_step : PySem.W.nsIn K mainGlobals "_read_step" = some (some (.ref a_read_step)))
    (g_read : PySem.W.nsIn K mainGlobals "read" = some (some (.ref a_read)))
    (g_law_taken : PySem.W.nsIn K mainGlobals "_law_taken" = some (some (.ref a_law_taken)))
    (g_law_parts : PySem.W.nsIn K mainGlobals "_law_parts" = some (some (.ref a_law_parts)))
    (g_law_text : PySem.W.nsIn K mainGlobals "_law_text" = some (some (.ref a_law_text)))
    (g_law_gain : PySem.W.nsIn K mainGlobals "_law_gain" = some (some (.ref a_law_gain)))
    (g_law_step : PySem.W.nsIn K mainGlobals "_law_step" = some (some (.ref a_law_step)))
    (g_law_wrong : PySem.W.nsIn K mainGlobals "_law_wrong" = some (some (.ref a_law_wrong)))
    (g_law_refused : PySem.W.nsIn K mainGlobals "_law_refused" = some (some (.ref a_law_refused)))
    (g_law : PySem.W.nsIn K mainGlobals "law" = some (some (.ref a_law)))
    (g_Machine : PySem.W.nsIn K mainGlobals "Machine" = some (some (.ref c_Machine)))
    (g_LineReader : PySem.W.nsIn K mainGlobals "LineReader" = some (some (.ref c_LineReader)))
    (g_InvalidText : PySem.W.nsIn K mainGlobals "InvalidText" = some (some (.ref c_InvalidText)))
    (g_TallyError : PySem.W.nsIn K mainGlobals "TallyError" = some (some (.ref c_TallyError)))
    (g_MOST_STANDS : PySem.W.nsIn K mainGlobals "MOST_STANDS" = some (some (.int 8 t_MOST_STANDS)))
    (g_MOST_GAIN : PySem.W.nsIn K mainGlobals "MOST_GAIN" = some (some (.int 1000000000000000000000000000000 t_MOST_GAIN)))
    (g_LETTERS : PySem.W.nsIn K mainGlobals "LETTERS" = some (some (.ref a_LETTERS)))
    (zz_all : PySem.W.nsIn K mainGlobals "all" = some none)
    (zz_bool : PySem.W.nsIn K mainGlobals "bool" = some none)
    (zz_enumerate : PySem.W.nsIn K mainGlobals "enumerate" = some none)
    (zz_int : PySem.W.nsIn K mainGlobals "int" = some none)
    (zz_isinstance : PySem.W.nsIn K mainGlobals "isinstance" = some none)
    (zz_len : PySem.W.nsIn K mainGlobals "len" = some none)
    (zz_list : PySem.W.nsIn K mainGlobals "list" = some none)
    (zz_range : PySem.W.nsIn K mainGlobals "range" = some none)
    (zz_str : PySem.W.nsIn K mainGlobals "str" = some none)
    (zz_tuple : PySem.W.nsIn K mainGlobals "tuple" = some none)
    (l_InvalidText_init : K.lookup a_InvalidText_init = some ⟨oc_InvalidText_init, od_InvalidText_init, .func (PySem.W.fnOf "__init__" "InvalidText.__init__" (defArgs s_InvalidText_init) (defBody s_InvalidText_init) (defScope s_InvalidText_init) .none kV_InvalidText_init dc_InvalidText_init pm_InvalidText_init an_InvalidText_init cd_InvalidText_init ct_InvalidText_init), sl_InvalidText_init⟩)
    (c_InvalidText_init : PySem.W.codeIn K cd_InvalidText_init "InvalidText.__init__" = true)
    (kk_InvalidText_init : PySem.W.keepIn K (.ref a_InvalidText_init) = true)
    (l_Machine_init : K.lookup a_Machine_init = some ⟨oc_Machine_init, od_Machine_init, .func (PySem.W.fnOf "__init__" "Machine.__init__" (defArgs s_Machine_init) (defBody s_Machine_init) (defScope s_Machine_init) .none kV_Machine_init dc_Machine_init pm_Machine_init an_Machine_init cd_Machine_init ct_Machine_init), sl_Machine_init⟩)
    (c_Machine_init : PySem.W.codeIn K cd_Machine_init "Machine.__init__" = true)
    (kk_Machine_init : PySem.W.keepIn K (.ref a_Machine_init) = true)
    (l_is_whole_number : K.lookup a_is_whole_number = some ⟨oc_is_whole_number, od_is_whole_number, .func (PySem.W.fnOf "is_whole_number" "is_whole_number" (defArgs s_is_whole_number) (defBody s_is_whole_number) (defScope s_is_whole_number) .none kV_is_whole_number dc_is_whole_number pm_is_whole_number an_is_whole_number cd_is_whole_number ct_is_whole_number), sl_is_whole_number⟩)
    (c_is_whole_number : PySem.W.codeIn K cd_is_whole_number "is_whole_number" = true)
    (kk_is_whole_number : PySem.W.keepIn K (.ref a_is_whole_number) = true)
    (l_is_integer_between : K.lookup a_is_integer_between = some ⟨oc_is_integer_between, od_is_integer_between, .func (PySem.W.fnOf "is_integer_between" "is_integer_between" (defArgs s_is_integer_between) (defBody s_is_integer_between) (defScope s_is_integer_between) .none kV_is_integer_between dc_is_integer_between pm_is_integer_between an_is_integer_between cd_is_integer_between ct_is_integer_between), sl_is_integer_between⟩)
    (c_is_integer_between : PySem.W.codeIn K cd_is_integer_between "is_integer_between" = true)
    (kk_is_integer_between : PySem.W.keepIn K (.ref a_is_integer_between) = true)
    (l_is_stand : K.lookup a_is_stand = some ⟨oc_is_stand, od_is_stand, .func (PySem.W.fnOf "_is_stand" "_is_stand" (defArgs s_is_stand) (defBody s_is_stand) (defScope s_is_stand) .none kV_is_stand dc_is_stand pm_is_stand an_is_stand cd_is_stand ct_is_stand), sl_is_stand⟩)
    (c_is_stand : PySem.W.codeIn K cd_is_stand "_is_stand" = true)
    (kk_is_stand : PySem.W.keepIn K (.ref a_is_stand) = true)
    (l_check_stands : K.lookup a_check_stands = some ⟨oc_check_stands, od_check_stands, .func (PySem.W.fnOf "_check_stands" "_check_stands" (defArgs s_check_stands) (defBody s_check_stands) (defScope s_check_stands) .none kV_check_stands dc_check_stands pm_check_stands an_check_stands cd_check_stands ct_check_stands), sl_check_stands⟩)
    (c_check_stands : PySem.W.codeIn K cd_check_stands "_check_stands" = true)
    (kk_check_stands : PySem.W.keepIn K (.ref a_check_stands) = true)
    (l_is_step : K.lookup a_is_step = some ⟨oc_is_step, od_is_step, .func (PySem.W.fnOf "_is_step" "_is_step" (defArgs s_is_step) (defBody s_is_step) (defScope s_is_step) .none kV_is_step dc_is_step pm_is_step an_is_step cd_is_step ct_is_step), sl_is_step⟩)
    (c_is_step : PySem.W.codeIn K cd_is_step "_is_step" = true)
    (kk_is_step : PySem.W.keepIn K (.ref a_is_step) = true)
    (l_check_steps : K.lookup a_check_steps = some ⟨oc_check_steps, od_check_steps, .func (PySem.W.fnOf "_check_steps" "_check_steps" (defArgs s_check_steps) (defBody s_check_steps) (defScope s_check_steps) .none kV_check_steps dc_check_steps pm_check_steps an_check_steps cd_check_steps ct_check_steps), sl_check_steps⟩)
    (c_check_steps : PySem.W.codeIn K cd_check_steps "_check_steps" = true)
    (kk_check_steps : PySem.W.keepIn K (.ref a_check_steps) = true)
    (l_is_ascending : K.lookup a_is_ascending = some ⟨oc_is_ascending, od_is_ascending, .func (PySem.W.fnOf "is_ascending" "is_ascending" (defArgs s_is_ascending) (defBody s_is_ascending) (defScope s_is_ascending) .none kV_is_ascending dc_is_ascending pm_is_ascending an_is_ascending cd_is_ascending ct_is_ascending), sl_is_ascending⟩)
    (c_is_ascending : PySem.W.codeIn K cd_is_ascending "is_ascending" = true)
    (kk_is_ascending : PySem.W.keepIn K (.ref a_is_ascending) = true)
    (l_check_ends : K.lookup a_check_ends = some ⟨oc_check_ends, od_check_ends, .func (PySem.W.fnOf "_check_ends" "_check_ends" (defArgs s_check_ends) (defBody s_check_ends) (defScope s_check_ends) .none kV_check_ends dc_check_ends pm_check_ends an_check_ends cd_check_ends ct_check_ends), sl_check_ends⟩)
    (c_check_ends : PySem.W.codeIn K cd_check_ends "_check_ends" = true)
    (kk_check_ends : PySem.W.keepIn K (.ref a_check_ends) = true)
    (l_number : K.lookup a_number = some ⟨oc_number, od_number, .func (PySem.W.fnOf "_number" "_number" (defArgs s_number) (defBody s_number) (defScope s_number) .none kV_number dc_number pm_number an_number cd_number ct_number), sl_number⟩)
    (c_number : PySem.W.codeIn K cd_number "_number" = true)
    (kk_number : PySem.W.keepIn K (.ref a_number) = true)
    (l_LineReader_init : K.lookup a_LineReader_init = some ⟨oc_LineReader_init, od_LineReader_init, .func (PySem.W.fnOf "__init__" "LineReader.__init__" (defArgs s_LineReader_init) (defBody s_LineReader_init) (defScope s_LineReader_init) .none kV_LineReader_init dc_LineReader_init pm_LineReader_init an_LineReader_init cd_LineReader_init ct_LineReader_init), sl_LineReader_init⟩)
    (c_LineReader_init : PySem.W.codeIn K cd_LineReader_init "LineReader.__init__" = true)
    (kk_LineReader_init : PySem.W.keepIn K (.ref a_LineReader_init) = true)
    (l_LineReader_is_over : K.lookup a_LineReader_is_over = some ⟨oc_LineReader_is_over, od_LineReader_is_over, .func (PySem.W.fnOf "is_over" "LineReader.is_over" (defArgs s_LineReader_is_over) (defBody s_LineReader_is_over) (defScope s_LineReader_is_over) .none kV_LineReader_is_over dc_LineReader_is_over pm_LineReader_is_over an_LineReader_is_over cd_LineReader_is_over ct_LineReader_is_over), sl_LineReader_is_over⟩)
    (c_LineReader_is_over : PySem.W.codeIn K cd_LineReader_is_over "LineReader.is_over" = true)
    (kk_LineReader_is_over : PySem.W.keepIn K (.ref a_LineReader_is_over) = true)
    (l_LineReader_fail : K.lookup a_LineReader_fail = some ⟨oc_LineReader_fail, od_LineReader_fail, .func (PySem.W.fnOf "fail" "LineReader.fail" (defArgs s_LineReader_fail) (defBody s_LineReader_fail) (defScope s_LineReader_fail) .none kV_LineReader_fail dc_LineReader_fail pm_LineReader_fail an_LineReader_fail cd_LineReader_fail ct_LineReader_fail), sl_LineReader_fail⟩)
    (c_LineReader_fail : PySem.W.codeIn K cd_LineReader_fail "LineReader.fail" = true)
    (kk_LineReader_fail : PySem.W.keepIn K (.ref a_LineReader_fail) = true)
    (l_LineReader_take : K.lookup a_LineReader_take = some ⟨oc_LineReader_take, od_LineReader_take, .func (PySem.W.fnOf "take" "LineReader.take" (defArgs s_LineReader_take) (defBody s_LineReader_take) (defScope s_LineReader_take) .none kV_LineReader_take dc_LineReader_take pm_LineReader_take an_LineReader_take cd_LineReader_take ct_LineReader_take), sl_LineReader_take⟩)
    (c_LineReader_take : PySem.W.codeIn K cd_LineReader_take "LineReader.take" = true)
    (kk_LineReader_take : PySem.W.keepIn K (.ref a_LineReader_take) = true)
    (l_LineReader_take_number : K.lookup a_LineReader_take_number = some ⟨oc_LineReader_take_number, od_LineReader_take_number, .func (PySem.W.fnOf "take_number" "LineReader.take_number" (defArgs s_LineReader_take_number) (defBody s_LineReader_take_number) (defScope s_LineReader_take_number) .none kV_LineReader_take_number dc_LineReader_take_number pm_LineReader_take_number an_LineReader_take_number cd_LineReader_take_number ct_LineReader_take_number), sl_LineReader_take_number⟩)
    (c_LineReader_take_number : PySem.W.codeIn K cd_LineReader_take_number "LineReader.take_number" = true)
    (kk_LineReader_take_number : PySem.W.keepIn K (.ref a_LineReader_take_number) = true)
    (l_LineReader_finish : K.lookup a_LineReader_finish = some ⟨oc_LineReader_finish, od_LineReader_finish, .func (PySem.W.fnOf "finish" "LineReader.finish" (defArgs s_LineReader_finish) (defBody s_LineReader_finish) (defScope s_LineReader_finish) .none kV_LineReader_finish dc_LineReader_finish pm_LineReader_finish an_LineReader_finish cd_LineReader_finish ct_LineReader_finish), sl_LineReader_finish⟩)
    (c_LineReader_finish : PySem.W.codeIn K cd_LineReader_finish "LineReader.finish" = true)
    (kk_LineReader_finish : PySem.W.keepIn K (.ref a_LineReader_finish) = true)
    (l_read_stands : K.lookup a_read_stands = some ⟨oc_read_stands, od_read_stands, .func (PySem.W.fnOf "_read_stands" "_read_stands" (defArgs s_read_stands) (defBody s_read_stands) (defScope s_read_stands) .none kV_read_stands dc_read_stands pm_read_stands an_read_stands cd_read_stands ct_read_stands), sl_read_stands⟩)
    (c_read_stands : PySem.W.codeIn K cd_read_stands "_read_stands" = true)
    (kk_read_stands : PySem.W.keepIn K (.ref a_read_stands) = true)
    (l_read_ends : K.lookup a_read_ends = some ⟨oc_read_ends, od_read_ends, .func (PySem.W.fnOf "_read_ends" "_read_ends" (defArgs s_read_ends) (defBody s_read_ends) (defScope s_read_ends) .none kV_read_ends dc_read_ends pm_read_ends an_read_ends cd_read_ends ct_read_ends), sl_read_ends⟩)
    (c_read_ends : PySem.W.codeIn K cd_read_ends "_read_ends" = true)
    (kk_read_ends : PySem.W.keepIn K (.ref a_read_ends) = true)
    (l_read_step : K.lookup a_read_step = some ⟨oc_read_step, od_read_step, .func (PySem.W.fnOf "_read_step" "_read_step" (defArgs s_read_step) (defBody s_read_step) (defScope s_read_step) .none kV_read_step dc_read_step pm_read_step an_read_step cd_read_step ct_read_step), sl_read_step⟩)
    (c_read_step : PySem.W.codeIn K cd_read_step "_read_step" = true)
    (kk_read_step : PySem.W.keepIn K (.ref a_read_step) = true)
    (l_read : K.lookup a_read = some ⟨oc_read, od_read, .func (PySem.W.fnOf "read" "read" (defArgs s_read) (defBody s_read) (defScope s_read) .none kV_read dc_read pm_read an_read cd_read ct_read), sl_read⟩)
    (c_read : PySem.W.codeIn K cd_read "read" = true)
    (kk_read : PySem.W.keepIn K (.ref a_read) = true)
    (l_law_taken : K.lookup a_law_taken = some ⟨oc_law_taken, od_law_taken, .func (PySem.W.fnOf "_law_taken" "_law_taken" (defArgs s_law_taken) (defBody s_law_taken) (defScope s_law_taken) .none kV_law_taken dc_law_taken pm_law_taken an_law_taken cd_law_taken ct_law_taken), sl_law_taken⟩)
    (c_law_taken : PySem.W.codeIn K cd_law_taken "_law_taken" = true)
    (kk_law_taken : PySem.W.keepIn K (.ref a_law_taken) = true)
    (l_law_parts : K.lookup a_law_parts = some ⟨oc_law_parts, od_law_parts, .func (PySem.W.fnOf "_law_parts" "_law_parts" (defArgs s_law_parts) (defBody s_law_parts) (defScope s_law_parts) .none kV_law_parts dc_law_parts pm_law_parts an_law_parts cd_law_parts ct_law_parts), sl_law_parts⟩)
    (c_law_parts : PySem.W.codeIn K cd_law_parts "_law_parts" = true)
    (kk_law_parts : PySem.W.keepIn K (.ref a_law_parts) = true)
    (l_law_text : K.lookup a_law_text = some ⟨oc_law_text, od_law_text, .func (PySem.W.fnOf "_law_text" "_law_text" (defArgs s_law_text) (defBody s_law_text) (defScope s_law_text) .none kV_law_text dc_law_text pm_law_text an_law_text cd_law_text ct_law_text), sl_law_text⟩)
    (c_law_text : PySem.W.codeIn K cd_law_text "_law_text" = true)
    (kk_law_text : PySem.W.keepIn K (.ref a_law_text) = true)
    (l_law_gain : K.lookup a_law_gain = some ⟨oc_law_gain, od_law_gain, .func (PySem.W.fnOf "_law_gain" "_law_gain" (defArgs s_law_gain) (defBody s_law_gain) (defScope s_law_gain) .none kV_law_gain dc_law_gain pm_law_gain an_law_gain cd_law_gain ct_law_gain), sl_law_gain⟩)
    (c_law_gain : PySem.W.codeIn K cd_law_gain "_law_gain" = true)
    (kk_law_gain : PySem.W.keepIn K (.ref a_law_gain) = true)
    (l_law_step : K.lookup a_law_step = some ⟨oc_law_step, od_law_step, .func (PySem.W.fnOf "_law_step" "_law_step" (defArgs s_law_step) (defBody s_law_step) (defScope s_law_step) .none kV_law_step dc_law_step pm_law_step an_law_step cd_law_step ct_law_step), sl_law_step⟩)
    (c_law_step : PySem.W.codeIn K cd_law_step "_law_step" = true)
    (kk_law_step : PySem.W.keepIn K (.ref a_law_step) = true)
    (l_law_wrong : K.lookup a_law_wrong = some ⟨oc_law_wrong, od_law_wrong, .func (PySem.W.fnOf "_law_wrong" "_law_wrong" (defArgs s_law_wrong) (defBody s_law_wrong) (defScope s_law_wrong) .none kV_law_wrong dc_law_wrong pm_law_wrong an_law_wrong cd_law_wrong ct_law_wrong), sl_law_wrong⟩)
    (c_law_wrong : PySem.W.codeIn K cd_law_wrong "_law_wrong" = true)
    (kk_law_wrong : PySem.W.keepIn K (.ref a_law_wrong) = true)
    (l_law_refused : K.lookup a_law_refused = some ⟨oc_law_refused, od_law_refused, .func (PySem.W.fnOf "_law_refused" "_law_refused" (defArgs s_law_refused) (defBody s_law_refused) (defScope s_law_refused) .none kV_law_refused dc_law_refused pm_law_refused an_law_refused cd_law_refused ct_law_refused), sl_law_refused⟩)
    (c_law_refused : PySem.W.codeIn K cd_law_refused "_law_refused" = true)
    (kk_law_refused : PySem.W.keepIn K (.ref a_law_refused) = true)
    (l_law : K.lookup a_law = some ⟨oc_law, od_law, .func (PySem.W.fnOf "law" "law" (defArgs s_law) (defBody s_law) (defScope s_law) .none kV_law dc_law pm_law an_law cd_law ct_law), sl_law⟩)
    (c_law : PySem.W.codeIn K cd_law "law" = true)
    (kk_law : PySem.W.keepIn K (.ref a_law) = true)
    (pg_Machine : PySem.W.plainGet K c_Machine Str.empty = true)
    (hd_Machine : PySem.W.hasDictIn K c_Machine = true)
    (po_Machine : PySem.W.plainOver K c_Machine = true)
    (sa_Machine : PySem.W.findIn K (.ref c_Machine) "__setattr__" = some (some (.builtin "object.__setattr__")))
    (mi_Machine : PySem.W.makesIn K c_Machine = true)
    (kc_Machine : PySem.W.keepIn K (.ref c_Machine) = true)
    (fi_Machine : PySem.W.findIn K (.ref c_Machine) "__init__" = some (some (.ref a_Machine_init)))
    (if_Machine : PySem.W.isFn K (.ref a_Machine_init) = true)
    (nf_stands : PySem.W.findIn K (.ref c_Machine) "_stands" = some none)
    (nf_steps : PySem.W.findIn K (.ref c_Machine) "_steps" = some none)
    (nf_ends : PySem.W.findIn K (.ref c_Machine) "_ends" = some none)
    (x_i1_Machine : PySem.W.findIn K (.ref c_Machine) "__class__" = some (some (.builtin "object.__class__")))
    (x_i2_Machine : PySem.W.specialIn K (.builtin "object.__class__") "__get__" = some (some (.builtin "getset_descriptor.__get__")))
    (x_i3_Machine : PySem.W.takesIn K (.builtin "object.__class__") = some true)
    (x_i4_Machine : PySem.W.mroIn K c_Machine (.type "object") = some true)
    (pg_LineReader : PySem.W.plainGet K c_LineReader Str.empty = true)
    (hd_LineReader : PySem.W.hasDictIn K c_LineReader = true)
    (po_LineReader : PySem.W.plainOver K c_LineReader = true)
    (sa_LineReader : PySem.W.findIn K (.ref c_LineReader) "__setattr__" = some (some (.builtin "object.__setattr__")))
    (mi_LineReader : PySem.W.makesIn K c_LineReader = true)
    (kc_LineReader : PySem.W.keepIn K (.ref c_LineReader) = true)
    (fi_LineReader : PySem.W.findIn K (.ref c_LineReader) "__init__" = some (some (.ref a_LineReader_init)))
    (if_LineReader : PySem.W.isFn K (.ref a_LineReader_init) = true)
    (nf_place : PySem.W.findIn K (.ref c_LineReader) "_place" = some none)
    (nf_words : PySem.W.findIn K (.ref c_LineReader) "_words" = some none)
    (nf_taken : PySem.W.findIn K (.ref c_LineReader) "_taken" = some none)
    (hm_LineReader_is_over : PySem.W.findIn K (.ref c_LineReader) "is_over" = some (some (.ref a_LineReader_is_over)))
    (hn_LineReader_is_over : PySem.W.isFn K (.ref a_LineReader_is_over) = true)
    (hm_LineReader_fail : PySem.W.findIn K (.ref c_LineReader) "fail" = some (some (.ref a_LineReader_fail)))
    (hn_LineReader_fail : PySem.W.isFn K (.ref a_LineReader_fail) = true)
    (hm_LineReader_take : PySem.W.findIn K (.ref c_LineReader) "take" = some (some (.ref a_LineReader_take)))
    (hn_LineReader_take : PySem.W.isFn K (.ref a_LineReader_take) = true)
    (hm_LineReader_take_number : PySem.W.findIn K (.ref c_LineReader) "take_number" = some (some (.ref a_LineReader_take_number)))
    (hn_LineReader_take_number : PySem.W.isFn K (.ref a_LineReader_take_number) = true)
    (hm_LineReader_finish : PySem.W.findIn K (.ref c_LineReader) "finish" = some (some (.ref a_LineReader_finish)))
    (hn_LineReader_finish : PySem.W.isFn K (.ref a_LineReader_finish) = true)
    (lk_InvalidText : ∃ nm q N bs bm sn sub ab col dd k0 k1 k2 k3 k5, K.lookup c_InvalidText = some (excClassObj nm q c_InvalidText N bs bm true sn sub ab col dd k0 k1 k2 k3 k5 "ValueError.__new__") ∧ PySem.HandSPX.refsVE bm = true)
    (sa_InvalidText : PySem.W.findIn K (.ref c_InvalidText) "__setattr__" = some (some (.builtin "object.__setattr__")))
    (xk_InvalidText : PySem.W.keepIn K (.ref c_InvalidText) = true)
    (xb_InvalidText : PySem.W.subIn K (.ref c_InvalidText) (.type "BaseException") = some true)
    (xt_InvalidText : PySem.W.typeIn K (.ref c_InvalidText) = some (.type "type"))
    (xi_InvalidText : PySem.W.isClsIn K c_InvalidText = true)
    (xs_InvalidText : PySem.W.subIn K (.ref c_InvalidText) (.ref c_InvalidText) = some true)
    (ga_InvalidText : PySem.W.findIn K (.ref c_InvalidText) "__getattribute__" = some (some (.builtin "BaseException.__getattribute__")))
    (gg_InvalidText : PySem.W.findIn K (.ref c_InvalidText) "__getattr__" = some none)
    (hx_InvalidText : PySem.W.hasDictIn K c_InvalidText = true)
    (ie_InvalidText : PySem.W.findIn K (.ref c_InvalidText) "__init__" = some (some (.ref a_InvalidText_init)))
    (ti_InvalidText : PySem.W.typeIn K (.ref a_InvalidText_init) = some (.type "function"))
    (no_InvalidText_line : PySem.W.findIn K (.ref c_InvalidText) "line" = some none)
    (no_InvalidText_word : PySem.W.findIn K (.ref c_InvalidText) "word" = some none)
    (rd_TallyError : PySem.W.readsIn K c_TallyError (.type "type") = true)
    (fv_TallyError : PySem.W.findCls K (.ref c_TallyError) (.type "type") "__init__" = some (.val (.builtin "ValueError.__init__")))
    (sg_TallyError : PySem.W.specialIn K (.ref c_TallyError) "__getattribute__" = some (some (.builtin "type.__getattribute__")))
    (l_LETTERS : ∀ H : Hp, SqT K H a_LETTERS [V.str "a", V.str "b", V.str "c", V.str "d"]) : Txt K mg :=
  Txt.mk (K := K) (mg := mg)
    (a_InvalidText_init)
    (_)
    (fun_mk (st := s_InvalidText_init) l_InvalidText_init c_InvalidText_init kk_InvalidText_init)
    ((fun_mk (st := s_InvalidText_init) l_InvalidText_init c_InvalidText_init kk_InvalidText_init).binds (ps := ["self", "line", "word"]) bb_InvalidText_init)
    (kk_InvalidText_init)
    (a_Machine_init)
    (_)
    (fun_mk (st := s_Machine_init) l_Machine_init c_Machine_init kk_Machine_init)
    ((fun_mk (st := s_Machine_init) l_Machine_init c_Machine_init kk_Machine_init).binds (ps := ["self", "stands", "steps", "ends"]) bb_Machine_init)
    (kk_Machine_init)
    (a_is_whole_number)
    (_)
    (fun_mk (st := s_is_whole_number) l_is_whole_number c_is_whole_number kk_is_whole_number)
    ((fun_mk (st := s_is_whole_number) l_is_whole_number c_is_whole_number kk_is_whole_number).binds (ps := ["value"]) bb_is_whole_number)
    (kk_is_whole_number)
    (PySem.W.mg_of X G g_is_whole_number)
    (a_is_integer_between)
    (_)
    (fun_mk (st := s_is_integer_between) l_is_integer_between c_is_integer_between kk_is_integer_between)
    ((fun_mk (st := s_is_integer_between) l_is_integer_between c_is_integer_between kk_is_integer_between).binds (ps := ["value", "least", "most"]) bb_is_integer_between)
    (kk_is_integer_between)
    (PySem.W.mg_of X G g_is_integer_between)
    (a_is_stand)
    (_)
    (fun_mk (st := s_is_stand) l_is_stand c_is_stand kk_is_stand)
    ((fun_mk (st := s_is_stand) l_is_stand c_is_stand kk_is_stand).binds (ps := ["stands", "value"]) bb_is_stand)
    (kk_is_stand)
    (PySem.W.mg_of X G g_is_stand)
    (a_check_stands)
    (_)
    (fun_mk (st := s_check_stands) l_check_stands c_check_stands kk_check_stands)
    ((fun_mk (st := s_check_stands) l_check_stands c_check_stands kk_check_stands).binds (ps := ["stands"]) bb_check_stands)
    (kk_check_stands)
    (PySem.W.mg_of X G g_check_stands)
    (a_is_step)
    (_)
    (fun_mk (st := s_is_step) l_is_step c_is_step kk_is_step)
    ((fun_mk (st := s_is_step) l_is_step c_is_step kk_is_step).binds (ps := ["stands", "value"]) bb_is_step)
    (kk_is_step)
    (PySem.W.mg_of X G g_is_step)
    (a_check_steps)
    (_)
    (fun_mk (st := s_check_steps) l_check_steps c_check_steps kk_check_steps)
    ((fun_mk (st := s_check_steps) l_check_steps c_check_steps kk_check_steps).binds (ps := ["stands", "steps"]) bb_check_steps)
    (kk_check_steps)
    (PySem.W.mg_of X G g_check_steps)
    (a_is_ascending)
    (_)
    (fun_mk (st := s_is_ascending) l_is_ascending c_is_ascending kk_is_ascending)
    ((fun_mk (st := s_is_ascending) l_is_ascending c_is_ascending kk_is_ascending).binds (ps := ["value", "many"]) bb_is_ascending)
    (kk_is_ascending)
    (PySem.W.mg_of X G g_is_ascending)
    (a_check_ends)
    (_)
    (fun_mk (st := s_check_ends) l_check_ends c_check_ends kk_check_ends)
    ((fun_mk (st := s_check_ends) l_check_ends c_check_ends kk_check_ends).binds (ps := ["stands", "ends"]) bb_check_ends)
    (kk_check_ends)
    (PySem.W.mg_of X G g_check_ends)
    (a_number)
    (_)
    (fun_mk (st := s_number) l_number c_number kk_number)
    ((fun_mk (st := s_number) l_number c_number kk_number).binds (ps := ["word", "least", "most"]) bb_number)
    (kk_number)
    (PySem.W.mg_of X G g_number)
    (a_LineReader_init)
    (_)
    (fun_mk (st := s_LineReader_init) l_LineReader_init c_LineReader_init kk_LineReader_init)
    ((fun_mk (st := s_LineReader_init) l_LineReader_init c_LineReader_init kk_LineReader_init).binds (ps := ["self", "place", "words"]) bb_LineReader_init)
    (kk_LineReader_init)
    (a_LineReader_is_over)
    (_)
    (fun_mk (st := s_LineReader_is_over) l_LineReader_is_over c_LineReader_is_over kk_LineReader_is_over)
    ((fun_mk (st := s_LineReader_is_over) l_LineReader_is_over c_LineReader_is_over kk_LineReader_is_over).binds (ps := ["self"]) bb_LineReader_is_over)
    (kk_LineReader_is_over)
    (a_LineReader_fail)
    (_)
    (fun_mk (st := s_LineReader_fail) l_LineReader_fail c_LineReader_fail kk_LineReader_fail)
    ((fun_mk (st := s_LineReader_fail) l_LineReader_fail c_LineReader_fail kk_LineReader_fail).binds (ps := ["self"]) bb_LineReader_fail)
    (kk_LineReader_fail)
    (a_LineReader_take)
    (_)
    (fun_mk (st := s_LineReader_take) l_LineReader_take c_LineReader_take kk_LineReader_take)
    ((fun_mk (st := s_LineReader_take) l_LineReader_take c_LineReader_take kk_LineReader_take).binds (ps := ["self", "words"]) bb_LineReader_take)
    (kk_LineReader_take)
    (a_LineReader_take_number)
    (_)
    (fun_mk (st := s_LineReader_take_number) l_LineReader_take_number c_LineReader_take_number kk_LineReader_take_number)
    ((fun_mk (st := s_LineReader_take_number) l_LineReader_take_number c_LineReader_take_number kk_LineReader_take_number).binds (ps := ["self", "least", "most"]) bb_LineReader_take_number)
    (kk_LineReader_take_number)
    (a_LineReader_finish)
    (_)
    (fun_mk (st := s_LineReader_finish) l_LineReader_finish c_LineReader_finish kk_LineReader_finish)
    ((fun_mk (st := s_LineReader_finish) l_LineReader_finish c_LineReader_finish kk_LineReader_finish).binds (ps := ["self"]) bb_LineReader_finish)
    (kk_LineReader_finish)
    (a_read_stands)
    (_)
    (fun_mk (st := s_read_stands) l_read_stands c_read_stands kk_read_stands)
    ((fun_mk (st := s_read_stands) l_read_stands c_read_stands kk_read_stands).binds (ps := ["line"]) bb_read_stands)
    (kk_read_stands)
    (PySem.W.mg_of X G g_read_stands)
    (a_read_ends)
    (_)
    (fun_mk (st := s_read_ends) l_read_ends c_read_ends kk_read_ends)
    ((fun_mk (st := s_read_ends) l_read_ends c_read_ends kk_read_ends).binds (ps := ["line", "stands"]) bb_read_ends)
    (kk_read_ends)
    (PySem.W.mg_of X G g_read_ends)
    (a_read_step)
    (_)
    (fun_mk (st := s_read_step) l_read_step c_read_step kk_read_step)
    ((fun_mk (st := s_read_step) l_read_step c_read_step kk_read_step).binds (ps := ["line", "stands", "ahead"]) bb_read_step)
    (kk_read_step)
    (PySem.W.mg_of X G g_read_step)
    (a_read)
    (_)
    (fun_mk (st := s_read) l_read c_read kk_read)
    ((fun_mk (st := s_read) l_read c_read kk_read).binds (ps := ["text"]) bb_read)
    (kk_read)
    (PySem.W.mg_of X G g_read)
    (a_law_taken)
    (_)
    (fun_mk (st := s_law_taken) l_law_taken c_law_taken kk_law_taken)
    ((fun_mk (st := s_law_taken) l_law_taken c_law_taken kk_law_taken).binds (ps := ["_law_row", "_law_many"]) bb_law_taken)
    (kk_law_taken)
    (PySem.W.mg_of X G g_law_taken)
    (a_law_parts)
    (_)
    (fun_mk (st := s_law_parts) l_law_parts c_law_parts kk_law_parts)
    ((fun_mk (st := s_law_parts) l_law_parts c_law_parts kk_law_parts).binds (ps := ["_law_row", "_law_stands", "_law_size"]) bb_law_parts)
    (kk_law_parts)
    (PySem.W.mg_of X G g_law_parts)
    (a_law_text)
    (_)
    (fun_mk (st := s_law_text) l_law_text c_law_text kk_law_text)
    ((fun_mk (st := s_law_text) l_law_text c_law_text kk_law_text).binds (ps := ["_law_d"]) bb_law_text)
    (kk_law_text)
    (PySem.W.mg_of X G g_law_text)
    (a_law_gain)
    (_)
    (fun_mk (st := s_law_gain) l_law_gain c_law_gain kk_law_gain)
    ((fun_mk (st := s_law_gain) l_law_gain c_law_gain kk_law_gain).binds (ps := ["_law_word"]) bb_law_gain)
    (kk_law_gain)
    (PySem.W.mg_of X G g_law_gain)
    (a_law_step)
    (_)
    (fun_mk (st := s_law_step) l_law_step c_law_step kk_law_step)
    ((fun_mk (st := s_law_step) l_law_step c_law_step kk_law_step).binds (ps := ["_law_words", "_law_stands", "_law_ahead"]) bb_law_step)
    (kk_law_step)
    (PySem.W.mg_of X G g_law_step)
    (a_law_wrong)
    (_)
    (fun_mk (st := s_law_wrong) l_law_wrong c_law_wrong kk_law_wrong)
    ((fun_mk (st := s_law_wrong) l_law_wrong c_law_wrong kk_law_wrong).binds (ps := ["_law_rows"]) bb_law_wrong)
    (kk_law_wrong)
    (PySem.W.mg_of X G g_law_wrong)
    (a_law_refused)
    (_)
    (fun_mk (st := s_law_refused) l_law_refused c_law_refused kk_law_refused)
    ((fun_mk (st := s_law_refused) l_law_refused c_law_refused kk_law_refused).binds (ps := ["_law_text_here"]) bb_law_refused)
    (kk_law_refused)
    (PySem.W.mg_of X G g_law_refused)
    (a_law)
    (_)
    (fun_mk (st := s_law) l_law c_law kk_law)
    ((fun_mk (st := s_law) l_law c_law kk_law).binds (ps := ["_law_script"]) bb_law)
    (kk_law)
    (PySem.W.mg_of X G g_law)
    (c_Machine)
    (⟨pg_Machine, hd_Machine, po_Machine, sa_Machine⟩)
    (PySem.W.mg_of X G g_Machine)
    (⟨mi_Machine, fi_Machine, if_Machine, kc_Machine⟩)
    (nf_stands)
    (nf_steps)
    (nf_ends)
    (x_i1_Machine)
    (x_i2_Machine)
    (x_i3_Machine)
    (x_i4_Machine)
    (c_LineReader)
    (⟨pg_LineReader, hd_LineReader, po_LineReader, sa_LineReader⟩)
    (PySem.W.mg_of X G g_LineReader)
    (⟨mi_LineReader, fi_LineReader, if_LineReader, kc_LineReader⟩)
    (nf_place)
    (nf_words)
    (nf_taken)
    (⟨hm_LineReader_is_over, hn_LineReader_is_over, kk_LineReader_is_over⟩)
    (⟨hm_LineReader_fail, hn_LineReader_fail, kk_LineReader_fail⟩)
    (⟨hm_LineReader_take, hn_LineReader_take, kk_LineReader_take⟩)
    (⟨hm_LineReader_take_number, hn_LineReader_take_number, kk_LineReader_take_number⟩)
    (⟨hm_LineReader_finish, hn_LineReader_finish, kk_LineReader_finish⟩)
    (c_InvalidText)
    (PySem.W.mg_of X G g_InvalidText)
    (⟨lk_InvalidText, sa_InvalidText, xb_InvalidText, xt_InvalidText, xk_InvalidText⟩)
    (⟨ga_InvalidText, gg_InvalidText, xb_InvalidText, hx_InvalidText⟩)
    (ie_InvalidText)
    (ti_InvalidText)
    (exc_self xb_InvalidText xi_InvalidText xt_InvalidText xs_InvalidText)
    (no_InvalidText_line)
    (no_InvalidText_word)
    (c_TallyError)
    (PySem.W.mg_of X G g_TallyError)
    (rd_TallyError)
    (fv_TallyError)
    (sg_TallyError)
    (.int 8 t_MOST_STANDS)
    (PySem.W.mg_of X G g_MOST_STANDS)
    (⟨_, rfl⟩)
    (.int 1000000000000000000000000000000 t_MOST_GAIN)
    (PySem.W.mg_of X G g_MOST_GAIN)
    (⟨_, rfl⟩)
    (a_LETTERS)
    (PySem.W.mg_of X G g_LETTERS)
    (rfl)
    (l_LETTERS)
    (PySem.W.mg_none_of X G zz_all)
    (PySem.W.mg_none_of X G zz_bool)
    (PySem.W.mg_none_of X G zz_enumerate)
    (PySem.W.mg_none_of X G zz_int)
    (PySem.W.mg_none_of X G zz_isinstance)
    (PySem.W.mg_none_of X G zz_len)
    (PySem.W.mg_none_of X G zz_list)
    (PySem.W.mg_none_of X G zz_range)
    (PySem.W.mg_none_of X G zz_str)
    (PySem.W.mg_none_of X G zz_tuple)
    (fun s v => .of_eq rfl)
theorem all_mk {l : PySem.W.OpenLaw} {w : World} {K : PySem.W.Frag} {mg : Str → Option Value} {fa : Addr} (T : Txt K mg) (hfa : mg "law" = some (.ref fa)) :
    ∃ fd : FuncData, (∀ (s : Shared) (v : Value), BindsTo s fd ⟨[v], []⟩ [("_law_script", v)]) ∧ ∀ base : Heap, K.In base → base.Ns mainGlobals mg → FnOk l.prog w K mg base (L2.CX l.prog w) 40 fa fd ["_law_script"] (sp_law K) := by
  have e := hfa.symm.trans T.m_law
  cases e
  exact ⟨T.fd_law, T.bs_law, fun _ _ _ => ok_law T⟩
/-! ### the head by facts: the names that the law comes to, read off the run's end -/
section
open He
theorem map_join {α β γ δ : Type} {o : Option α} {a : α → β} {b : α → γ} {c : α → δ} {A : β} {B : γ} {C : δ} (h1 : o.map (fun x => a x) = some A) (h2 : o.map (fun x => b x) = some B) (h3 : o.map (fun x => c x) = some C) : o.map (fun x => (a x, b x, c x)) = some (A, B, C) := by
  cases o with
  | none => cases h1
  | some x =>
    have e1 : a x = A := Option.some.inj h1
    have e2 : b x = B := Option.some.inj h2
    have e3 : c x = C := Option.some.inj h3
    show some (a x, b x, c x) = _
    rw [e1, e2, e3]
def asN (g : Addr → Option Obj) (names : List Str) : List Addr := names.filterMap fun x => match PySem.W.nsIn (frG g [mainGlobals]) mainGlobals x with
  | some (some (.ref a)) => some a
  | _ => none
/-- what a function, a class, a table, a property names: a code object's own things are not looked at -/
def refsS (o : Obj) : List Addr := match o.data with
  | .seq its _ => its.toList.flatMap refV
  | .dict es _ => es.toList.flatMap fun e => refV e.val
  | .func fd => refV fd.code
  | .cls cd => cd.ns :: cd.mro.flatMap refV
  | .fields vs => (match o.cls with
    | .type c => (match decide (c = "property") with
      | true => vs.toList.flatMap refV
      | false => [])
    | _ => [])
  | _ => []
def newS (g : Addr → Option Obj) (as : List Addr) : List Addr := as.flatMap fun a => match g a with
  | some o => refsS o
  | none => []
/-- what is new at each step alone goes on -/
def grN (g : Addr → Option Obj) : Nat → List Addr → List Addr
  | 0, as => as
  | n + 1, as => as ++ grN g n (newS g as)
def frK (names : List Str) (n : Nat) (g : Addr → Option Obj) : PySem.W.Frag := frG g (mainGlobals :: cStatics :: grN g n (asN g names))
/-- a def of the text: its function's address as the written part tells it, what it must hold -/
structure FnA where
  ad : PySem.W.Frag → Addr
  name : Str
  qual : Str
  params : Arguments
  body : List Stmt
  scope : Scope
def FnSaid (K : PySem.W.Frag) (d : FnA) : Prop := ∃ oc od osl kV doc pm an cdv ct, K.lookup (d.ad K) = some ⟨oc, od, .func (PySem.W.fnOf d.name d.qual d.params d.body d.scope .none kV doc pm an cdv ct), osl⟩ ∧ PySem.W.codeIn K cdv d.qual = true
abbrev FnT : Type := Str × Str × Arguments × FuncBody × Scope × Addr × List (Str × Addr) × Value × Addr × Bool
def seenA (K : PySem.W.Frag) (d : FnA) : Option FnT := (K.lookup (d.ad K)).bind fun o => match o.data with
  | .func u => some (u.name, u.qualname, u.params, u.body, u.scope, u.globals, u.closure, u.defaults, u.builtins, PySem.W.codeIn K u.code d.qual)
  | _ => none
def wishA (d : FnA) : Option FnT := some (d.name, d.qual, d.params, .stmts d.body, d.scope, mainGlobals, [], .none, builtinsNs, true)
theorem seenA_ok {K : PySem.W.Frag} {d : FnA} (e : seenA K d = wishA d) : FnSaid K d := by
  obtain ⟨o, ho, e2⟩ := Option.bind_eq_some_iff.mp e
  obtain ⟨oc, od, dt, osl⟩ := o
  cases dt with
  | func u =>
    obtain ⟨u1, u2, u3, u4, u5, u6, u7, u8, u9, u10, u11, u12, u13, u14, u15⟩ := u
    have e3 := Option.some.inj e2
    simp only [Prod.mk.injEq] at e3
    obtain ⟨h1, h2, h3, h4, h5, h6, h7, h8, h9, h10⟩ := e3
    subst h1 h2 h3 h4 h5 h6 h7 h8 h9
    exact ⟨oc, od, osl, u9, u10, u11, u12, u13, u14, ho, h10⟩
  | _ => cases e2
abbrev AlF : Type := Bool × List (Option FnT)
def obsF (names : List Str) (n : Nat) (fn : List FnA) (ex : PySem.W.Frag → List Bool) (g : Addr → Option Obj) : AlF := ((ex (frK names n g)).all (fun b => b), fn.map (seenA (frK names n g)))
def valF (fn : List FnA) : AlF := (true, fn.map wishA)
theorem said_of {names : List Str} {n : Nat} {fn : List FnA} {ex : PySem.W.Frag → List Bool} {g : Addr → Option Obj} (e : obsF names n fn ex g = valF fn) : (ex (frK names n g)).all (fun b => b) = true ∧ ∀ (i : Nat) (d : FnA), fn[i]? = some d → FnSaid (frK names n g) d := by
  refine ⟨congrArg (fun z : AlF => z.1) e, fun i d h => ?_⟩
  have e3 : fn.map (seenA (frK names n g)) = fn.map wishA := congrArg (fun z : AlF => z.2) e
  have e2 : (fn.map (seenA (frK names n g)))[i]? = (fn.map wishA)[i]? := by rw [e3]
  rw [List.getElem?_map, List.getElem?_map, h] at e2
  exact seenA_ok (Option.some.inj e2)
def hookF (names : List Str) (n : Nat) (fn : List FnA) (ex : PySem.W.Frag → List Bool) : PySem.W.Hook where
  α := AlF
  obs := fun s => obsF names n fn ex s.heap.get?
  val := fun _ => valF fn
  says := fun _ h => ∃ K : PySem.W.Frag, K.In h ∧ (ex K).all (fun b => b) = true ∧ ∀ (i : Nat) (d : FnA), fn[i]? = some d → FnSaid K d
  of := fun _ _ e => ⟨_, frG_in, said_of e⟩
  keeps := fun _ _ _ ⟨K, hK, c⟩ k => ⟨K, PySem.W.Frag.In.keeps hK k, c⟩
theorem row_ok {l : List Bool} (h : l.all (fun b => b) = true) (i : Nat) {b : Bool} (e : l[i]? = some b) : b = true := List.all_eq_true.mp h b (List.mem_of_getElem? e)
theorem int_k {K : PySem.W.Frag} {x : Str} {i : Int} (c : (Fa.int x i).ok K = true) : ∃ t, PySem.W.nsIn K mainGlobals x = some (some (.int i t)) := by
  have c2 : (match PySem.W.nsIn K mainGlobals x with
    | some (some (.int j _)) => decide (j = i)
    | _ => false) = true := c
  cases e : PySem.W.nsIn K mainGlobals x with
  | none => rw [e] at c2; cases c2
  | some o =>
    rw [e] at c2
    cases o with
    | none => cases c2
    | some v =>
      cases v with
      | int j t =>
        have ej : j = i := of_decide_eq_true c2
        rw [ej]
        exact ⟨t, rfl⟩
      | _ => cases c2
theorem str_k {K : PySem.W.Frag} {x z : Str} (c : (Fa.str x z).ok K = true) : ∃ t, PySem.W.nsIn K mainGlobals x = some (some (.str z t)) := by
  have c2 : (match PySem.W.nsIn K mainGlobals x with
    | some (some (.str y _)) => decide (y = z)
    | _ => false) = true := c
  cases e : PySem.W.nsIn K mainGlobals x with
  | none => rw [e] at c2; cases c2
  | some o =>
    rw [e] at c2
    cases o with
    | none => cases c2
    | some v =>
      cases v with
      | str y t =>
        have ej : y = z := of_decide_eq_true c2
        rw [ej]
        exact ⟨t, rfl⟩
      | _ => cases c2
/-- the getter's function of a property, the base behind an exception's class -/
def pgA (K : PySem.W.Frag) (C p : Str) : Addr := match PySem.W.recIn K (ma K (ga K C) p) "property" with
  | some (.ref a :: _) => a
  | _ => 0
def pgB (K : PySem.W.Frag) (C p : Str) : Bool := match PySem.W.recIn K (ma K (ga K C) p) "property" with
  | some (.ref _ :: _) => true
  | _ => false
theorem pgB_ok {K : PySem.W.Frag} {C p : Str} (h : pgB K C p = true) : ∃ rest, PySem.W.recIn K (ma K (ga K C) p) "property" = some (.ref (pgA K C p) :: rest) := by
  unfold pgB at h
  unfold pgA
  cases e : PySem.W.recIn K (ma K (ga K C) p) "property" with
  | none => rw [e] at h; cases h
  | some l =>
    cases l with
    | nil => rw [e] at h; cases h
    | cons v r =>
      cases v with
      | ref a => exact ⟨r, rfl⟩
      | _ => rw [e] at h; cases h
def fvB (K : PySem.W.Frag) (C : Addr) : Bool := match PySem.W.findCls K (.ref C) (.type "type") "__init__" with
  | some (.val (.builtin b)) => decide (b = "ValueError.__init__")
  | _ => false
theorem fvB_ok {K : PySem.W.Frag} {C : Addr} (h : fvB K C = true) : PySem.W.findCls K (.ref C) (.type "type") "__init__" = some (.val (.builtin "ValueError.__init__")) := by
  unfold fvB at h
  split at h
  · rename_i b e
    rw [e, of_decide_eq_true h]
  · cases h
def exclB (K : PySem.W.Frag) (C : Addr) : Bool := match K.lookup C with
  | some ⟨.type t, _, .cls cd, sl⟩ => (match cd.mro, sl.toList with
    | .ref D :: bm, [_, _, _, _, some (.builtin b), _] => decide (t = "type") && (decide (D = C) && (decide (b = "ValueError.__new__") && (decide (cd.hasDel = false) && (decide (cd.hasDict = true) && PySem.HandSPX.refsVE bm))))
    | _, _ => false)
  | _ => false
theorem exclB_ok {K : PySem.W.Frag} {C : Addr} (h : exclB K C = true) : ∃ nm q N bs bm sn sub ab col dd k0 k1 k2 k3 k5, K.lookup C = some (excClassObj nm q C N bs bm true sn sub ab col dd k0 k1 k2 k3 k5 "ValueError.__new__") ∧ PySem.HandSPX.refsVE bm = true := by
  unfold exclB at h
  split at h
  · rename_i t dd cd sl ho
    split at h
    · rename_i D bm k0 k1 k2 k3 b k5 hm hs
      obtain ⟨h1, h⟩ := ba h
      obtain ⟨h2, h⟩ := ba h
      obtain ⟨h3, h⟩ := ba h
      obtain ⟨h4, h⟩ := ba h
      obtain ⟨h5, h6⟩ := ba h
      obtain ⟨nm, bs, mro, ns, qn, hd, sn, sub, ab, col, del⟩ := cd
      have q1 := of_decide_eq_true h1
      have q2 := of_decide_eq_true h2
      have q3 := of_decide_eq_true h3
      have q4 : del = false := of_decide_eq_true h4
      have q5 : hd = true := of_decide_eq_true h5
      have q6 : mro = .ref D :: bm := hm
      clear h1 h2 h3 h4 h5 hm
      have hsl : sl = #[k0, k1, k2, k3, some (.builtin b), k5] := by
        obtain ⟨l⟩ := sl
        have hs : l = [k0, k1, k2, k3, some (.builtin b), k5] := hs
        rw [hs]
      clear hs
      subst q1 q2 q3 q4 q5 q6 hsl
      exact ⟨nm, qn, ns, bs, bm, sn, sub, ab, col, dd, k0, k1, k2, k3, k5, ho, h6⟩
    · cases h
  · cases h
def nm_0 : List Str := ["is_whole_number", "is_integer_between", "_is_stand", "_check_stands", "_is_step", "_check_steps", "is_ascending", "_check_ends", "_number", "_read_stands", "_read_ends", "_read_step", "read", "_law_taken", "_law_parts", "_law_text", "_law_gain", "_law_step", "_law_wrong", "_law_refused", "law", "Machine", "LineReader", "InvalidText", "TallyError", "LETTERS"]
def nms : List Str := nm_0
def fd_InvalidText_init : FnA := ⟨fun K => fAd K ("InvalidText", some "__init__"), "__init__", "InvalidText.__init__", defArgs s_InvalidText_init, defBody s_InvalidText_init, defScope s_InvalidText_init⟩
def fd_Machine_init : FnA := ⟨fun K => fAd K ("Machine", some "__init__"), "__init__", "Machine.__init__", defArgs s_Machine_init, defBody s_Machine_init, defScope s_Machine_init⟩
def fd_is_whole_number : FnA := ⟨fun K => fAd K ("is_whole_number", none), "is_whole_number", "is_whole_number", defArgs s_is_whole_number, defBody s_is_whole_number, defScope s_is_whole_number⟩
def fd_is_integer_between : FnA := ⟨fun K => fAd K ("is_integer_between", none), "is_integer_between", "is_integer_between", defArgs s_is_integer_between, defBody s_is_integer_between, defScope s_is_integer_between⟩
def fd_is_stand : FnA := ⟨fun K => fAd K ("_is_stand", none), "_is_stand", "_is_stand", defArgs s_is_stand, defBody s_is_stand, defScope s_is_stand⟩
def fd_check_stands : FnA := ⟨fun K => fAd K ("_check_stands", none), "_check_stands", "_check_stands", defArgs s_check_stands, defBody s_check_stands, defScope s_check_stands⟩
def fd_is_step : FnA := ⟨fun K => fAd K ("_is_step", none), "_is_step", "_is_step", defArgs s_is_step, defBody s_is_step, defScope s_is_step⟩
def fd_check_steps : FnA := ⟨fun K => fAd K ("_check_steps", none), "_check_steps", "_check_steps", defArgs s_check_steps, defBody s_check_steps, defScope s_check_steps⟩
def fd_is_ascending : FnA := ⟨fun K => fAd K ("is_ascending", none), "is_ascending", "is_ascending", defArgs s_is_ascending, defBody s_is_ascending, defScope s_is_ascending⟩
def fd_check_ends : FnA := ⟨fun K => fAd K ("_check_ends", none), "_check_ends", "_check_ends", defArgs s_check_ends, defBody s_check_ends, defScope s_check_ends⟩
def fd_number : FnA := ⟨fun K => fAd K ("_number", none), "_number", "_number", defArgs s_number, defBody s_number, defScope s_number⟩
def fd_LineReader_init : FnA := ⟨fun K => fAd K ("LineReader", some "__init__"), "__init__", "LineReader.__init__", defArgs s_LineReader_init, defBody s_LineReader_init, defScope s_LineReader_init⟩
def fd_LineReader_is_over : FnA := ⟨fun K => fAd K ("LineReader", some "is_over"), "is_over", "LineReader.is_over", defArgs s_LineReader_is_over, defBody s_LineReader_is_over, defScope s_LineReader_is_over⟩
def fd_LineReader_fail : FnA := ⟨fun K => fAd K ("LineReader", some "fail"), "fail", "LineReader.fail", defArgs s_LineReader_fail, defBody s_LineReader_fail, defScope s_LineReader_fail⟩
def fd_LineReader_take : FnA := ⟨fun K => fAd K ("LineReader", some "take"), "take", "LineReader.take", defArgs s_LineReader_take, defBody s_LineReader_take, defScope s_LineReader_take⟩
def fd_LineReader_take_number : FnA := ⟨fun K => fAd K ("LineReader", some "take_number"), "take_number", "LineReader.take_number", defArgs s_LineReader_take_number, defBody s_LineReader_take_number, defScope s_LineReader_take_number⟩
def fd_LineReader_finish : FnA := ⟨fun K => fAd K ("LineReader", some "finish"), "finish", "LineReader.finish", defArgs s_LineReader_finish, defBody s_LineReader_finish, defScope s_LineReader_finish⟩
def fd_read_stands : FnA := ⟨fun K => fAd K ("_read_stands", none), "_read_stands", "_read_stands", defArgs s_read_stands, defBody s_read_stands, defScope s_read_stands⟩
def fd_read_ends : FnA := ⟨fun K => fAd K ("_read_ends", none), "_read_ends", "_read_ends", defArgs s_read_ends, defBody s_read_ends, defScope s_read_ends⟩
def fd_read_step : FnA := ⟨fun K => fAd K ("_read_step", none), "_read_step", "_read_step", defArgs s_read_step, defBody s_read_step, defScope s_read_step⟩
def fd_read : FnA := ⟨fun K => fAd K ("read", none), "read", "read", defArgs s_read, defBody s_read, defScope s_read⟩
def fd_law_taken : FnA := ⟨fun K => fAd K ("_law_taken", none), "_law_taken", "_law_taken", defArgs s_law_taken, defBody s_law_taken, defScope s_law_taken⟩
def fd_law_parts : FnA := ⟨fun K => fAd K ("_law_parts", none), "_law_parts", "_law_parts", defArgs s_law_parts, defBody s_law_parts, defScope s_law_parts⟩
def fd_law_text : FnA := ⟨fun K => fAd K ("_law_text", none), "_law_text", "_law_text", defArgs s_law_text, defBody s_law_text, defScope s_law_text⟩
def fd_law_gain : FnA := ⟨fun K => fAd K ("_law_gain", none), "_law_gain", "_law_gain", defArgs s_law_gain, defBody s_law_gain, defScope s_law_gain⟩
def fd_law_step : FnA := ⟨fun K => fAd K ("_law_step", none), "_law_step", "_law_step", defArgs s_law_step, defBody s_law_step, defScope s_law_step⟩
def fd_law_wrong : FnA := ⟨fun K => fAd K ("_law_wrong", none), "_law_wrong", "_law_wrong", defArgs s_law_wrong, defBody s_law_wrong, defScope s_law_wrong⟩
def fd_law_refused : FnA := ⟨fun K => fAd K ("_law_refused", none), "_law_refused", "_law_refused", defArgs s_law_refused, defBody s_law_refused, defScope s_law_refused⟩
def fd_law : FnA := ⟨fun K => fAd K ("law", none), "law", "law", defArgs s_law, defBody s_law, defScope s_law⟩
def fn_0 : List FnA := [fd_InvalidText_init, fd_Machine_init, fd_is_whole_number, fd_is_integer_between, fd_is_stand, fd_check_stands, fd_is_step, fd_check_steps, fd_is_ascending, fd_check_ends, fd_number, fd_LineReader_init, fd_LineReader_is_over, fd_LineReader_fail, fd_LineReader_take, fd_LineReader_take_number, fd_LineReader_finish, fd_read_stands, fd_read_ends, fd_read_step, fd_read, fd_law_taken, fd_law_parts, fd_law_text, fd_law_gain, fd_law_step, fd_law_wrong, fd_law_refused, fd_law]
def fns : List FnA := fn_0
def ex_0 (K : PySem.W.Frag) : List Bool := [
    decide (PySem.W.nsIn K mainGlobals "is_whole_number" = some (some (.ref (fAd K ("is_whole_number", none))))),
    decide (PySem.W.nsIn K mainGlobals "is_integer_between" = some (some (.ref (fAd K ("is_integer_between", none))))),
    decide (PySem.W.nsIn K mainGlobals "_is_stand" = some (some (.ref (fAd K ("_is_stand", none))))),
    decide (PySem.W.nsIn K mainGlobals "_check_stands" = some (some (.ref (fAd K ("_check_stands", none))))),
    decide (PySem.W.nsIn K mainGlobals "_is_step" = some (some (.ref (fAd K ("_is_step", none))))),
    decide (PySem.W.nsIn K mainGlobals "_check_steps" = some (some (.ref (fAd K ("_check_steps", none))))),
    decide (PySem.W.nsIn K mainGlobals "is_ascending" = some (some (.ref (fAd K ("is_ascending", none))))),
    decide (PySem.W.nsIn K mainGlobals "_check_ends" = some (some (.ref (fAd K ("_check_ends", none))))),
    decide (PySem.W.nsIn K mainGlobals "_number" = some (some (.ref (fAd K ("_number", none))))),
    decide (PySem.W.nsIn K mainGlobals "_read_stands" = some (some (.ref (fAd K ("_read_stands", none))))),
    decide (PySem.W.nsIn K mainGlobals "_read_ends" = some (some (.ref (fAd K ("_read_ends", none))))),
    decide (PySem.W.nsIn K mainGlobals "_read_step" = some (some (.ref (fAd K ("_read_step", none))))),
    decide (PySem.W.nsIn K mainGlobals "read" = some (some (.ref (fAd K ("read", none))))),
    decide (PySem.W.nsIn K mainGlobals "_law_taken" = some (some (.ref (fAd K ("_law_taken", none))))),
    decide (PySem.W.nsIn K mainGlobals "_law_parts" = some (some (.ref (fAd K ("_law_parts", none))))),
    decide (PySem.W.nsIn K mainGlobals "_law_text" = some (some (.ref (fAd K ("_law_text", none))))),
    decide (PySem.W.nsIn K mainGlobals "_law_gain" = some (some (.ref (fAd K ("_law_gain", none))))),
    decide (PySem.W.nsIn K mainGlobals "_law_step" = some (some (.ref (fAd K ("_law_step", none))))),
    decide (PySem.W.nsIn K mainGlobals "_law_wrong" = some (some (.ref (fAd K ("_law_wrong", none))))),
    decide (PySem.W.nsIn K mainGlobals "_law_refused" = some (some (.ref (fAd K ("_law_refused", none))))),
    decide (PySem.W.nsIn K mainGlobals "law" = some (some (.ref (fAd K ("law", none))))),
    decide (PySem.W.nsIn K mainGlobals "Machine" = some (some (.ref (ga K "Machine")))),
    decide (PySem.W.nsIn K mainGlobals "LineReader" = some (some (.ref (ga K "LineReader")))),
    decide (PySem.W.nsIn K mainGlobals "InvalidText" = some (some (.ref (ga K "InvalidText")))),
    decide (PySem.W.nsIn K mainGlobals "TallyError" = some (some (.ref (ga K "TallyError"))))]
def ex_1 (K : PySem.W.Frag) : List Bool := [
    (Fa.int "MOST_STANDS" (8)).ok K,
    (Fa.int "MOST_GAIN" (1000000000000000000000000000000)).ok K,
    decide (PySem.W.nsIn K mainGlobals "LETTERS" = some (some (.ref (ga K "LETTERS")))),
    decide (PySem.W.nsIn K mainGlobals "all" = some none),
    decide (PySem.W.nsIn K mainGlobals "bool" = some none),
    decide (PySem.W.nsIn K mainGlobals "enumerate" = some none),
    decide (PySem.W.nsIn K mainGlobals "int" = some none),
    decide (PySem.W.nsIn K mainGlobals "isinstance" = some none),
    decide (PySem.W.nsIn K mainGlobals "len" = some none),
    decide (PySem.W.nsIn K mainGlobals "list" = some none),
    decide (PySem.W.nsIn K mainGlobals "range" = some none),
    decide (PySem.W.nsIn K mainGlobals "str" = some none),
    decide (PySem.W.nsIn K mainGlobals "tuple" = some none),
    decide (PySem.W.keepIn K (.ref (fAd K ("InvalidText", some "__init__"))) = true),
    decide (PySem.W.keepIn K (.ref (fAd K ("Machine", some "__init__"))) = true),
    decide (PySem.W.keepIn K (.ref (fAd K ("is_whole_number", none))) = true),
    decide (PySem.W.keepIn K (.ref (fAd K ("is_integer_between", none))) = true),
    decide (PySem.W.keepIn K (.ref (fAd K ("_is_stand", none))) = true),
    decide (PySem.W.keepIn K (.ref (fAd K ("_check_stands", none))) = true),
    decide (PySem.W.keepIn K (.ref (fAd K ("_is_step", none))) = true),
    decide (PySem.W.keepIn K (.ref (fAd K ("_check_steps", none))) = true),
    decide (PySem.W.keepIn K (.ref (fAd K ("is_ascending", none))) = true),
    decide (PySem.W.keepIn K (.ref (fAd K ("_check_ends", none))) = true),
    decide (PySem.W.keepIn K (.ref (fAd K ("_number", none))) = true),
    decide (PySem.W.keepIn K (.ref (fAd K ("LineReader", some "__init__"))) = true)]
def ex_2 (K : PySem.W.Frag) : List Bool := [
    decide (PySem.W.keepIn K (.ref (fAd K ("LineReader", some "is_over"))) = true),
    decide (PySem.W.keepIn K (.ref (fAd K ("LineReader", some "fail"))) = true),
    decide (PySem.W.keepIn K (.ref (fAd K ("LineReader", some "take"))) = true),
    decide (PySem.W.keepIn K (.ref (fAd K ("LineReader", some "take_number"))) = true),
    decide (PySem.W.keepIn K (.ref (fAd K ("LineReader", some "finish"))) = true),
    decide (PySem.W.keepIn K (.ref (fAd K ("_read_stands", none))) = true),
    decide (PySem.W.keepIn K (.ref (fAd K ("_read_ends", none))) = true),
    decide (PySem.W.keepIn K (.ref (fAd K ("_read_step", none))) = true),
    decide (PySem.W.keepIn K (.ref (fAd K ("read", none))) = true),
    decide (PySem.W.keepIn K (.ref (fAd K ("_law_taken", none))) = true),
    decide (PySem.W.keepIn K (.ref (fAd K ("_law_parts", none))) = true),
    decide (PySem.W.keepIn K (.ref (fAd K ("_law_text", none))) = true),
    decide (PySem.W.keepIn K (.ref (fAd K ("_law_gain", none))) = true),
    decide (PySem.W.keepIn K (.ref (fAd K ("_law_step", none))) = true),
    decide (PySem.W.keepIn K (.ref (fAd K ("_law_wrong", none))) = true),
    decide (PySem.W.keepIn K (.ref (fAd K ("_law_refused", none))) = true),
    decide (PySem.W.keepIn K (.ref (fAd K ("law", none))) = true),
    decide (PySem.W.plainGet K (ga K "Machine") Str.empty = true),
    decide (PySem.W.hasDictIn K (ga K "Machine") = true),
    decide (PySem.W.plainOver K (ga K "Machine") = true),
    decide (PySem.W.findIn K (.ref (ga K "Machine")) "__setattr__" = some (some (.builtin "object.__setattr__"))),
    decide (PySem.W.makesIn K (ga K "Machine") = true),
    decide (PySem.W.keepIn K (.ref (ga K "Machine")) = true),
    decide (PySem.W.findIn K (.ref (ga K "Machine")) "__init__" = some (some (.ref (fAd K ("Machine", some "__init__"))))),
    decide (PySem.W.isFn K (.ref (fAd K ("Machine", some "__init__"))) = true)]
def ex_3 (K : PySem.W.Frag) : List Bool := [
    decide (PySem.W.findIn K (.ref (ga K "Machine")) "_stands" = some none),
    decide (PySem.W.findIn K (.ref (ga K "Machine")) "_steps" = some none),
    decide (PySem.W.findIn K (.ref (ga K "Machine")) "_ends" = some none),
    decide (PySem.W.findIn K (.ref (ga K "Machine")) "__class__" = some (some (.builtin "object.__class__"))),
    decide (PySem.W.specialIn K (.builtin "object.__class__") "__get__" = some (some (.builtin "getset_descriptor.__get__"))),
    decide (PySem.W.takesIn K (.builtin "object.__class__") = some true),
    decide (PySem.W.mroIn K (ga K "Machine") (.type "object") = some true),
    decide (PySem.W.plainGet K (ga K "LineReader") Str.empty = true),
    decide (PySem.W.hasDictIn K (ga K "LineReader") = true),
    decide (PySem.W.plainOver K (ga K "LineReader") = true),
    decide (PySem.W.findIn K (.ref (ga K "LineReader")) "__setattr__" = some (some (.builtin "object.__setattr__"))),
    decide (PySem.W.makesIn K (ga K "LineReader") = true),
    decide (PySem.W.keepIn K (.ref (ga K "LineReader")) = true),
    decide (PySem.W.findIn K (.ref (ga K "LineReader")) "__init__" = some (some (.ref (fAd K ("LineReader", some "__init__"))))),
    decide (PySem.W.isFn K (.ref (fAd K ("LineReader", some "__init__"))) = true),
    decide (PySem.W.findIn K (.ref (ga K "LineReader")) "_place" = some none),
    decide (PySem.W.findIn K (.ref (ga K "LineReader")) "_words" = some none),
    decide (PySem.W.findIn K (.ref (ga K "LineReader")) "_taken" = some none),
    decide (PySem.W.findIn K (.ref (ga K "LineReader")) "is_over" = some (some (.ref (fAd K ("LineReader", some "is_over"))))),
    decide (PySem.W.isFn K (.ref (fAd K ("LineReader", some "is_over"))) = true),
    decide (PySem.W.findIn K (.ref (ga K "LineReader")) "fail" = some (some (.ref (fAd K ("LineReader", some "fail"))))),
    decide (PySem.W.isFn K (.ref (fAd K ("LineReader", some "fail"))) = true),
    decide (PySem.W.findIn K (.ref (ga K "LineReader")) "take" = some (some (.ref (fAd K ("LineReader", some "take"))))),
    decide (PySem.W.isFn K (.ref (fAd K ("LineReader", some "take"))) = true),
    decide (PySem.W.findIn K (.ref (ga K "LineReader")) "take_number" = some (some (.ref (fAd K ("LineReader", some "take_number")))))]
def ex_4 (K : PySem.W.Frag) : List Bool := [
    decide (PySem.W.isFn K (.ref (fAd K ("LineReader", some "take_number"))) = true),
    decide (PySem.W.findIn K (.ref (ga K "LineReader")) "finish" = some (some (.ref (fAd K ("LineReader", some "finish"))))),
    decide (PySem.W.isFn K (.ref (fAd K ("LineReader", some "finish"))) = true),
    exclB K (ga K "InvalidText"),
    decide (PySem.W.findIn K (.ref (ga K "InvalidText")) "__setattr__" = some (some (.builtin "object.__setattr__"))),
    decide (PySem.W.keepIn K (.ref (ga K "InvalidText")) = true),
    decide (PySem.W.subIn K (.ref (ga K "InvalidText")) (.type "BaseException") = some true),
    decide (PySem.W.typeIn K (.ref (ga K "InvalidText")) = some (.type "type")),
    decide (PySem.W.isClsIn K (ga K "InvalidText") = true),
    decide (PySem.W.subIn K (.ref (ga K "InvalidText")) (.ref (ga K "InvalidText")) = some true),
    decide (PySem.W.findIn K (.ref (ga K "InvalidText")) "__getattribute__" = some (some (.builtin "BaseException.__getattribute__"))),
    decide (PySem.W.findIn K (.ref (ga K "InvalidText")) "__getattr__" = some none),
    decide (PySem.W.hasDictIn K (ga K "InvalidText") = true),
    decide (PySem.W.findIn K (.ref (ga K "InvalidText")) "__init__" = some (some (.ref (fAd K ("InvalidText", some "__init__"))))),
    decide (PySem.W.typeIn K (.ref (fAd K ("InvalidText", some "__init__"))) = some (.type "function")),
    decide (PySem.W.findIn K (.ref (ga K "InvalidText")) "line" = some none),
    decide (PySem.W.findIn K (.ref (ga K "InvalidText")) "word" = some none),
    decide (PySem.W.readsIn K (ga K "TallyError") (.type "type") = true),
    fvB K (ga K "TallyError"),
    decide (PySem.W.specialIn K (.ref (ga K "TallyError")) "__getattribute__" = some (some (.builtin "type.__getattribute__"))),
    tupB K "LETTERS" [.str "a", .str "b", .str "c", .str "d"]]
def exs (K : PySem.W.Frag) : List Bool := [(ex_0 K).all fun b => b, (ex_1 K).all fun b => b, (ex_2 K).all fun b => b, (ex_3 K).all fun b => b, (ex_4 K).all fun b => b]
theorem txt_of {K : PySem.W.Frag} {h : Heap} {mg : Str → Option Value} (X : K.In h) (G : h.Ns mainGlobals mg) (he : (exs K).all (fun b => b) = true) (hf : ∀ (i : Nat) (d : FnA), fns[i]? = some d → FnSaid K d) : Nonempty (Txt K mg) := by
  have e0 := row_ok he 0 (b := (ex_0 K).all fun b => b) rfl
  have e1 := row_ok he 1 (b := (ex_1 K).all fun b => b) rfl
  have e2 := row_ok he 2 (b := (ex_2 K).all fun b => b) rfl
  have e3 := row_ok he 3 (b := (ex_3 K).all fun b => b) rfl
  have e4 := row_ok he 4 (b := (ex_4 K).all fun b => b) rfl
  obtain ⟨oc_InvalidText_init, od_InvalidText_init, sl_InvalidText_init, kV_InvalidText_init, dc_InvalidText_init, pm_InvalidText_init, an_InvalidText_init, cd_InvalidText_init, ct_InvalidText_init, l_InvalidText_init, c_InvalidText_init⟩ := hf 0 fd_InvalidText_init rfl
  obtain ⟨oc_Machine_init, od_Machine_init, sl_Machine_init, kV_Machine_init, dc_Machine_init, pm_Machine_init, an_Machine_init, cd_Machine_init, ct_Machine_init, l_Machine_init, c_Machine_init⟩ := hf 1 fd_Machine_init rfl
  obtain ⟨oc_is_whole_number, od_is_whole_number, sl_is_whole_number, kV_is_whole_number, dc_is_whole_number, pm_is_whole_number, an_is_whole_number, cd_is_whole_number, ct_is_whole_number, l_is_whole_number, c_is_whole_number⟩ := hf 2 fd_is_whole_number rfl
  obtain ⟨oc_is_integer_between, od_is_integer_between, sl_is_integer_between, kV_is_integer_between, dc_is_integer_between, pm_is_integer_between, an_is_integer_between, cd_is_integer_between, ct_is_integer_between, l_is_integer_between, c_is_integer_between⟩ := hf 3 fd_is_integer_between rfl
  obtain ⟨oc_is_stand, od_is_stand, sl_is_stand, kV_is_stand, dc_is_stand, pm_is_stand, an_is_stand, cd_is_stand, ct_is_stand, l_is_stand, c_is_stand⟩ := hf 4 fd_is_stand rfl
  obtain ⟨oc_check_stands, od_check_stands, sl_check_stands, kV_check_stands, dc_check_stands, pm_check_stands, an_check_stands, cd_check_stands, ct_check_stands, l_check_stands, c_check_stands⟩ := hf 5 fd_check_stands rfl
  obtain ⟨oc_is_step, od_is_step, sl_is_step, kV_is_step, dc_is_step, pm_is_step, an_is_step, cd_is_step, ct_is_step, l_is_step, c_is_step⟩ := hf 6 fd_is_step rfl
  obtain ⟨oc_check_steps, od_check_steps, sl_check_steps, kV_check_steps, dc_check_steps, pm_check_steps, an_check_steps, cd_check_steps, ct_check_steps, l_check_steps, c_check_steps⟩ := hf 7 fd_check_steps rfl
  obtain ⟨oc_is_ascending, od_is_ascending, sl_is_ascending, kV_is_ascending, dc_is_ascending, pm_is_ascending, an_is_ascending, cd_is_ascending, ct_is_ascending, l_is_ascending, c_is_ascending⟩ := hf 8 fd_is_ascending rfl
  obtain ⟨oc_check_ends, od_check_ends, sl_check_ends, kV_check_ends, dc_check_ends, pm_check_ends, an_check_ends, cd_check_ends, ct_check_ends, l_check_ends, c_check_ends⟩ := hf 9 fd_check_ends rfl
  obtain ⟨oc_number, od_number, sl_number, kV_number, dc_number, pm_number, an_number, cd_number, ct_number, l_number, c_number⟩ := hf 10 fd_number rfl
  obtain ⟨oc_LineReader_init, od_LineReader_init, sl_LineReader_init, kV_LineReader_init, dc_LineReader_init, pm_LineReader_init, an_LineReader_init, cd_LineReader_init, ct_LineReader_init, l_LineReader_init, c_LineReader_init⟩ := hf 11 fd_LineReader_init rfl
  obtain ⟨oc_LineReader_is_over, od_LineReader_is_over, sl_LineReader_is_over, kV_LineReader_is_over, dc_LineReader_is_over, pm_LineReader_is_over, an_LineReader_is_over, cd_LineReader_is_over, ct_LineReader_is_over, l_LineReader_is_over, c_LineReader_is_over⟩ := hf 12 fd_LineReader_is_over rfl
  obtain ⟨oc_LineReader_fail, od_LineReader_fail, sl_LineReader_fail, kV_LineReader_fail, dc_LineReader_fail, pm_LineReader_fail, an_LineReader_fail, cd_LineReader_fail, ct_LineReader_fail, l_LineReader_fail, c_LineReader_fail⟩ := hf 13 fd_LineReader_fail rfl
  obtain ⟨oc_LineReader_take, od_LineReader_take, sl_LineReader_take, kV_LineReader_take, dc_LineReader_take, pm_LineReader_take, an_LineReader_take, cd_LineReader_take, ct_LineReader_take, l_LineReader_take, c_LineReader_take⟩ := hf 14 fd_LineReader_take rfl
  obtain ⟨oc_LineReader_take_number, od_LineReader_take_number, sl_LineReader_take_number, kV_LineReader_take_number, dc_LineReader_take_number, pm_LineReader_take_number, an_LineReader_take_number, cd_LineReader_take_number, ct_LineReader_take_number, l_LineReader_take_number, c_LineReader_take_number⟩ := hf 15 fd_LineReader_take_number rfl
  obtain ⟨oc_LineReader_finish, od_LineReader_finish, sl_LineReader_finish, kV_LineReader_finish, dc_LineReader_finish, pm_LineReader_finish, an_LineReader_finish, cd_LineReader_finish, ct_LineReader_finish, l_LineReader_finish, c_LineReader_finish⟩ := hf 16 fd_LineReader_finish rfl
  obtain ⟨oc_read_stands, od_read_stands, sl_read_stands, kV_read_stands, dc_read_stands, pm_read_stands, an_read_stands, cd_read_stands, ct_read_stands, l_read_stands, c_read_stands⟩ := hf 17 fd_read_stands rfl
  obtain ⟨oc_read_ends, od_read_ends, sl_read_ends, kV_read_ends, dc_read_ends, pm_read_ends, an_read_ends, cd_read_ends, ct_read_ends, l_read_ends, c_read_ends⟩ := hf 18 fd_read_ends rfl
  obtain ⟨oc_read_step, od_read_step, sl_read_step, kV_read_step, dc_read_step, pm_read_step, an_read_step, cd_read_step, ct_read_step, l_read_step, c_read_step⟩ := hf 19 fd_read_step rfl
  obtain ⟨oc_read, od_read, sl_read, kV_read, dc_read, pm_read, an_read, cd_read, ct_read, l_read, c_read⟩ := hf 20 fd_read rfl
  obtain ⟨oc_law_taken, od_law_taken, sl_law_taken, kV_law_taken, dc_law_taken, pm_law_taken, an_law_taken, cd_law_taken, ct_law_taken, l_law_taken, c_law_taken⟩ := hf 21 fd_law_taken rfl
  obtain ⟨oc_law_parts, od_law_parts, sl_law_parts, kV_law_parts, dc_law_parts, pm_law_parts, an_law_parts, cd_law_parts, ct_law_parts, l_law_parts, c_law_parts⟩ := hf 22 fd_law_parts rfl
  obtain ⟨oc_law_text, od_law_text, sl_law_text, kV_law_text, dc_law_text, pm_law_text, an_law_text, cd_law_text, ct_law_text, l_law_text, c_law_text⟩ := hf 23 fd_law_text rfl
  obtain ⟨oc_law_gain, od_law_gain, sl_law_gain, kV_law_gain, dc_law_gain, pm_law_gain, an_law_gain, cd_law_gain, ct_law_gain, l_law_gain, c_law_gain⟩ := hf 24 fd_law_gain rfl
  obtain ⟨oc_law_step, od_law_step, sl_law_step, kV_law_step, dc_law_step, pm_law_step, an_law_step, cd_law_step, ct_law_step, l_law_step, c_law_step⟩ := hf 25 fd_law_step rfl
  obtain ⟨oc_law_wrong, od_law_wrong, sl_law_wrong, kV_law_wrong, dc_law_wrong, pm_law_wrong, an_law_wrong, cd_law_wrong, ct_law_wrong, l_law_wrong, c_law_wrong⟩ := hf 26 fd_law_wrong rfl
  obtain ⟨oc_law_refused, od_law_refused, sl_law_refused, kV_law_refused, dc_law_refused, pm_law_refused, an_law_refused, cd_law_refused, ct_law_refused, l_law_refused, c_law_refused⟩ := hf 27 fd_law_refused rfl
  obtain ⟨oc_law, od_law, sl_law, kV_law, dc_law, pm_law, an_law, cd_law, ct_law, l_law, c_law⟩ := hf 28 fd_law rfl
  obtain ⟨t_MOST_STANDS, g_MOST_STANDS⟩ := int_k (row_ok e1 0 (b := (Fa.int "MOST_STANDS" (8)).ok K) rfl)
  obtain ⟨t_MOST_GAIN, g_MOST_GAIN⟩ := int_k (row_ok e1 1 (b := (Fa.int "MOST_GAIN" (1000000000000000000000000000000)).ok K) rfl)
  exact ⟨txt_mk X G
    (of_decide_eq_true (row_ok e0 0 (b := decide (PySem.W.nsIn K mainGlobals "is_whole_number" = some (some (.ref (fAd K ("is_whole_number", none)))))) rfl))
    (of_decide_eq_true (row_ok e0 1 (b := decide (PySem.W.nsIn K mainGlobals "is_integer_between" = some (some (.ref (fAd K ("is_integer_between", none)))))) rfl))
    (of_decide_eq_true (row_ok e0 2 (b := decide (PySem.W.nsIn K mainGlobals "_is_stand" = some (some (.ref (fAd K ("_is_stand", none)))))) rfl))
    (of_decide_eq_true (row_ok e0 3 (b := decide (PySem.W.nsIn K mainGlobals "_check_stands" = some (some (.ref (fAd K ("_check_stands", none)))))) rfl))
    (of_decide_eq_true (row_ok e0 4 (b := decide (PySem.W.nsIn K mainGlobals "_is_step" = some (some (.ref (fAd K ("_is_step", none)))))) rfl))
    (of_decide_eq_true (row_ok e0 5 (b := decide (PySem.W.nsIn K mainGlobals "_check_steps" = some (some (.ref (fAd K ("_check_steps", none)))))) rfl))
    (of_decide_eq_true (row_ok e0 6 (b := decide (PySem.W.nsIn K mainGlobals "is_ascending" = some (some (.ref (fAd K ("is_ascending", none)))))) rfl))
    (of_decide_eq_true (row_ok e0 7 (b := decide (PySem.W.nsIn K mainGlobals "_check_ends" = some (some (.ref (fAd K ("_check_ends", none)))))) rfl))
    (of_decide_eq_true (row_ok e0 8 (b := decide (PySem.W.nsIn K mainGlobals "_number" = some (some (.ref (fAd K ("_number", none)))))) rfl))
    (of_decide_eq_true (row_ok e0 9 (b := decide (PySem.W.nsIn K mainGlobals "_read_stands" = some (some (.ref (fAd K ("_read_stands", none)))))) rfl))
    (of_decide_eq_true (row_ok e0 10 (b := decide (PySem.W.nsIn K mainGlobals "_read_ends" = some (some (.ref (fAd K ("_read_ends", none)))))) rfl))
    (of_decide_eq_true (row_ok e0 11 (b := decide (PySem.W.nsIn K mainGlobals "_read_step" = some (some (.ref (fAd K ("_read_step", none)))))) rfl))
    (of_decide_eq_true (row_ok e0 12 (b := decide (PySem.W.nsIn K mainGlobals "read" = some (some (.ref (fAd K ("read", none)))))) rfl))
    (of_decide_eq_true (row_ok e0 13 (b := decide (PySem.W.nsIn K mainGlobals "_law_taken" = some (some (.ref (fAd K ("_law_taken", none)))))) rfl))
    (of_decide_eq_true (row_ok e0 14 (b := decide (PySem.W.nsIn K mainGlobals "_law_parts" = some (some (.ref (fAd K ("_law_parts", none)))))) rfl))
    (of_decide_eq_true (row_ok e0 15 (b := decide (PySem.W.nsIn K mainGlobals "_law_text" = some (some (.ref (fAd K ("_law_text", none)))))) rfl))
    (of_decide_eq_true (row_ok e0 16 (b := decide (PySem.W.nsIn K mainGlobals "_law_gain" = some (some (.ref (fAd K ("_law_gain", none)))))) rfl))
    (of_decide_eq_true (row_ok e0 17 (b := decide (PySem.W.nsIn K mainGlobals "_law_step" = some (some (.ref (fAd K ("_law_step", none)))))) rfl))
    (of_decide_eq_true (row_ok e0 18 (b := decide (PySem.W.nsIn K mainGlobals "_law_wrong" = some (some (.ref (fAd K ("_law_wrong", none)))))) rfl))
    (of_decide_eq_true (row_ok e0 19 (b := decide (PySem.W.nsIn K mainGlobals "_law_refused" = some (some (.ref (fAd K ("_law_refused", none)))))) rfl))
    (of_decide_eq_true (row_ok e0 20 (b := decide (PySem.W.nsIn K mainGlobals "law" = some (some (.ref (fAd K ("law", none)))))) rfl))
    (of_decide_eq_true (row_ok e0 21 (b := decide (PySem.W.nsIn K mainGlobals "Machine" = some (some (.ref (ga K "Machine"))))) rfl))
    (of_decide_eq_true (row_ok e0 22 (b := decide (PySem.W.nsIn K mainGlobals "LineReader" = some (some (.ref (ga K "LineReader"))))) rfl))
    (of_decide_eq_true (row_ok e0 23 (b := decide (PySem.W.nsIn K mainGlobals "InvalidText" = some (some (.ref (ga K "InvalidText"))))) rfl))
    (of_decide_eq_true (row_ok e0 24 (b := decide (PySem.W.nsIn K mainGlobals "TallyError" = some (some (.ref (ga K "TallyError"))))) rfl))
    g_MOST_STANDS
    g_MOST_GAIN
    (of_decide_eq_true (row_ok e1 2 (b := decide (PySem.W.nsIn K mainGlobals "LETTERS" = some (some (.ref (ga K "LETTERS"))))) rfl))
    (of_decide_eq_true (row_ok e1 3 (b := decide (PySem.W.nsIn K mainGlobals "all" = some none)) rfl))
    (of_decide_eq_true (row_ok e1 4 (b := decide (PySem.W.nsIn K mainGlobals "bool" = some none)) rfl))
    (of_decide_eq_true (row_ok e1 5 (b := decide (PySem.W.nsIn K mainGlobals "enumerate" = some none)) rfl))
    (of_decide_eq_true (row_ok e1 6 (b := decide (PySem.W.nsIn K mainGlobals "int" = some none)) rfl))
    (of_decide_eq_true (row_ok e1 7 (b := decide (PySem.W.nsIn K mainGlobals "isinstance" = some none)) rfl))
    (of_decide_eq_true (row_ok e1 8 (b := decide (PySem.W.nsIn K mainGlobals "len" = some none)) rfl))
    (of_decide_eq_true (row_ok e1 9 (b := decide (PySem.W.nsIn K mainGlobals "list" = some none)) rfl))
    (of_decide_eq_true (row_ok e1 10 (b := decide (PySem.W.nsIn K mainGlobals "range" = some none)) rfl))
    (of_decide_eq_true (row_ok e1 11 (b := decide (PySem.W.nsIn K mainGlobals "str" = some none)) rfl))
    (of_decide_eq_true (row_ok e1 12 (b := decide (PySem.W.nsIn K mainGlobals "tuple" = some none)) rfl))
    l_InvalidText_init
    c_InvalidText_init
    (of_decide_eq_true (row_ok e1 13 (b := decide (PySem.W.keepIn K (.ref (fAd K ("InvalidText", some "__init__"))) = true)) rfl))
    l_Machine_init
    c_Machine_init
    (of_decide_eq_true (row_ok e1 14 (b := decide (PySem.W.keepIn K (.ref (fAd K ("Machine", some "__init__"))) = true)) rfl))
    l_is_whole_number
    c_is_whole_number
    (of_decide_eq_true (row_ok e1 15 (b := decide (PySem.W.keepIn K (.ref (fAd K ("is_whole_number", none))) = true)) rfl))
    l_is_integer_between
    c_is_integer_between
    (of_decide_eq_true (row_ok e1 16 (b := decide (PySem.W.keepIn K (.ref (fAd K ("is_integer_between", none))) = true)) rfl))
    l_is_stand
    c_is_stand
    (of_decide_eq_true (row_ok e1 17 (b := decide (PySem.W.keepIn K (.ref (fAd K ("_is_stand", none))) = true)) rfl))
    l_check_stands
    c_check_stands
    (of_decide_eq_true (row_ok e1 18 (b := decide (PySem.W.keepIn K (.ref (fAd K ("_check_stands", none))) = true)) rfl))
    l_is_step
    c_is_step
    (of_decide_eq_true (row_ok e1 19 (b := decide (PySem.W.keepIn K (.ref (fAd K ("_is_step", none))) = true)) rfl))
    l_check_steps
    c_check_steps
    (of_decide_eq_true (row_ok e1 20 (b := decide (PySem.W.keepIn K (.ref (fAd K ("_check_steps", none))) = true)) rfl))
    l_is_ascending
    c_is_ascending
    (of_decide_eq_true (row_ok e1 21 (b := decide (PySem.W.keepIn K (.ref (fAd K ("is_ascending", none))) = true)) rfl))
    l_check_ends
    c_check_ends
    (of_decide_eq_true (row_ok e1 22 (b := decide (PySem.W.keepIn K (.ref (fAd K ("_check_ends", none))) = true)) rfl))
    l_number
    c_number
    (of_decide_eq_true (row_ok e1 23 (b := decide (PySem.W.keepIn K (.ref (fAd K ("_number", none))) = true)) rfl))
    l_LineReader_init
    c_LineReader_init
    (of_decide_eq_true (row_ok e1 24 (b := decide (PySem.W.keepIn K (.ref (fAd K ("LineReader", some "__init__"))) = true)) rfl))
    l_LineReader_is_over
    c_LineReader_is_over
    (of_decide_eq_true (row_ok e2 0 (b := decide (PySem.W.keepIn K (.ref (fAd K ("LineReader", some "is_over"))) = true)) rfl))
    l_LineReader_fail
    c_LineReader_fail
    (of_decide_eq_true (row_ok e2 1 (b := decide (PySem.W.keepIn K (.ref (fAd K ("LineReader", some "fail"))) = true)) rfl))
    l_LineReader_take
    c_LineReader_take
    (of_decide_eq_true (row_ok e2 2 (b := decide (PySem.W.keepIn K (.ref (fAd K ("LineReader", some "take"))) = true)) rfl))
    l_LineReader_take_number
    c_LineReader_take_number
    (of_decide_eq_true (row_ok e2 3 (b := decide (PySem.W.keepIn K (.ref (fAd K ("LineReader", some "take_number"))) = true)) rfl))
    l_LineReader_finish
    c_LineReader_finish
    (of_decide_eq_true (row_ok e2 4 (b := decide (PySem.W.keepIn K (.ref (fAd K ("LineReader", some "finish"))) = true)) rfl))
    l_read_stands
    c_read_stands
    (of_decide_eq_true (row_ok e2 5 (b := decide (PySem.W.keepIn K (.ref (fAd K ("_read_stands", none))) = true)) rfl))
    l_read_ends
    c_read_ends
    (of_decide_eq_true (row_ok e2 6 (b := decide (PySem.W.keepIn K (.ref (fAd K ("_read_ends", none))) = true)) rfl))
    l_read_step
    c_read_step
    (of_decide_eq_true (row_ok e2 7 (b := decide (PySem.W.keepIn K (.ref (fAd K ("_read_step", none))) = true)) rfl))
    l_read
    c_read
    (of_decide_eq_true (row_ok e2 8 (b := decide (PySem.W.keepIn K (.ref (fAd K ("read", none))) = true)) rfl))
    l_law_taken
    c_law_taken
    (of_decide_eq_true (row_ok e2 9 (b := decide (PySem.W.keepIn K (.ref (fAd K ("_law_taken", none))) = true)) rfl))
    l_law_parts
    c_law_parts
    (of_decide_eq_true (row_ok e2 10 (b := decide (PySem.W.keepIn K (.ref (fAd K ("_law_parts", none))) = true)) rfl))
    l_law_text
    c_law_text
    (of_decide_eq_true (row_ok e2 11 (b := decide (PySem.W.keepIn K (.ref (fAd K ("_law_text", none))) = true)) rfl))
    l_law_gain
    c_law_gain
    (of_decide_eq_true (row_ok e2 12 (b := decide (PySem.W.keepIn K (.ref (fAd K ("_law_gain", none))) = true)) rfl))
    l_law_step
    c_law_step
    (of_decide_eq_true (row_ok e2 13 (b := decide (PySem.W.keepIn K (.ref (fAd K ("_law_step", none))) = true)) rfl))
    l_law_wrong
    c_law_wrong
    (of_decide_eq_true (row_ok e2 14 (b := decide (PySem.W.keepIn K (.ref (fAd K ("_law_wrong", none))) = true)) rfl))
    l_law_refused
    c_law_refused
    (of_decide_eq_true (row_ok e2 15 (b := decide (PySem.W.keepIn K (.ref (fAd K ("_law_refused", none))) = true)) rfl))
    l_law
    c_law
    (of_decide_eq_true (row_ok e2 16 (b := decide (PySem.W.keepIn K (.ref (fAd K ("law", none))) = true)) rfl))
    (of_decide_eq_true (row_ok e2 17 (b := decide (PySem.W.plainGet K (ga K "Machine") Str.empty = true)) rfl))
    (of_decide_eq_true (row_ok e2 18 (b := decide (PySem.W.hasDictIn K (ga K "Machine") = true)) rfl))
    (of_decide_eq_true (row_ok e2 19 (b := decide (PySem.W.plainOver K (ga K "Machine") = true)) rfl))
    (of_decide_eq_true (row_ok e2 20 (b := decide (PySem.W.findIn K (.ref (ga K "Machine")) "__setattr__" = some (some (.builtin "object.__setattr__")))) rfl))
    (of_decide_eq_true (row_ok e2 21 (b := decide (PySem.W.makesIn K (ga K "Machine") = true)) rfl))
    (of_decide_eq_true (row_ok e2 22 (b := decide (PySem.W.keepIn K (.ref (ga K "Machine")) = true)) rfl))
    (of_decide_eq_true (row_ok e2 23 (b := decide (PySem.W.findIn K (.ref (ga K "Machine")) "__init__" = some (some (.ref (fAd K ("Machine", some "__init__")))))) rfl))
    (of_decide_eq_true (row_ok e2 24 (b := decide (PySem.W.isFn K (.ref (fAd K ("Machine", some "__init__"))) = true)) rfl))
    (of_decide_eq_true (row_ok e3 0 (b := decide (PySem.W.findIn K (.ref (ga K "Machine")) "_stands" = some none)) rfl))
    (of_decide_eq_true (row_ok e3 1 (b := decide (PySem.W.findIn K (.ref (ga K "Machine")) "_steps" = some none)) rfl))
    (of_decide_eq_true (row_ok e3 2 (b := decide (PySem.W.findIn K (.ref (ga K "Machine")) "_ends" = some none)) rfl))
    (of_decide_eq_true (row_ok e3 3 (b := decide (PySem.W.findIn K (.ref (ga K "Machine")) "__class__" = some (some (.builtin "object.__class__")))) rfl))
    (of_decide_eq_true (row_ok e3 4 (b := decide (PySem.W.specialIn K (.builtin "object.__class__") "__get__" = some (some (.builtin "getset_descriptor.__get__")))) rfl))
    (of_decide_eq_true (row_ok e3 5 (b := decide (PySem.W.takesIn K (.builtin "object.__class__") = some true)) rfl))
    (of_decide_eq_true (row_ok e3 6 (b := decide (PySem.W.mroIn K (ga K "Machine") (.type "object") = some true)) rfl))
    (of_decide_eq_true (row_ok e3 7 (b := decide (PySem.W.plainGet K (ga K "LineReader") Str.empty = true)) rfl))
    (of_decide_eq_true (row_ok e3 8 (b := decide (PySem.W.hasDictIn K (ga K "LineReader") = true)) rfl))
    (of_decide_eq_true (row_ok e3 9 (b := decide (PySem.W.plainOver K (ga K "LineReader") = true)) rfl))
    (of_decide_eq_true (row_ok e3 10 (b := decide (PySem.W.findIn K (.ref (ga K "LineReader")) "__setattr__" = some (some (.builtin "object.__setattr__")))) rfl))
    (of_decide_eq_true (row_ok e3 11 (b := decide (PySem.W.makesIn K (ga K "LineReader") = true)) rfl))
    (of_decide_eq_true (row_ok e3 12 (b := decide (PySem.W.keepIn K (.ref (ga K "LineReader")) = true)) rfl))
    (of_decide_eq_true (row_ok e3 13 (b := decide (PySem.W.findIn K (.ref (ga K "LineReader")) "__init__" = some (some (.ref (fAd K ("LineReader", some "__init__")))))) rfl))
    (of_decide_eq_true (row_ok e3 14 (b := decide (PySem.W.isFn K (.ref (fAd K ("LineReader", some "__init__"))) = true)) rfl))
    (of_decide_eq_true (row_ok e3 15 (b := decide (PySem.W.findIn K (.ref (ga K "LineReader")) "_place" = some none)) rfl))
    (of_decide_eq_true (row_ok e3 16 (b := decide (PySem.W.findIn K (.ref (ga K "LineReader")) "_words" = some none)) rfl))
    (of_decide_eq_true (row_ok e3 17 (b := decide (PySem.W.findIn K (.ref (ga K "LineReader")) "_taken" = some none)) rfl))
    (of_decide_eq_true (row_ok e3 18 (b := decide (PySem.W.findIn K (.ref (ga K "LineReader")) "is_over" = some (some (.ref (fAd K ("LineReader", some "is_over")))))) rfl))
    (of_decide_eq_true (row_ok e3 19 (b := decide (PySem.W.isFn K (.ref (fAd K ("LineReader", some "is_over"))) = true)) rfl))
    (of_decide_eq_true (row_ok e3 20 (b := decide (PySem.W.findIn K (.ref (ga K "LineReader")) "fail" = some (some (.ref (fAd K ("LineReader", some "fail")))))) rfl))
    (of_decide_eq_true (row_ok e3 21 (b := decide (PySem.W.isFn K (.ref (fAd K ("LineReader", some "fail"))) = true)) rfl))
    (of_decide_eq_true (row_ok e3 22 (b := decide (PySem.W.findIn K (.ref (ga K "LineReader")) "take" = some (some (.ref (fAd K ("LineReader", some "take")))))) rfl))
    (of_decide_eq_true (row_ok e3 23 (b := decide (PySem.W.isFn K (.ref (fAd K ("LineReader", some "take"))) = true)) rfl))
    (of_decide_eq_true (row_ok e3 24 (b := decide (PySem.W.findIn K (.ref (ga K "LineReader")) "take_number" = some (some (.ref (fAd K ("LineReader", some "take_number")))))) rfl))
    (of_decide_eq_true (row_ok e4 0 (b := decide (PySem.W.isFn K (.ref (fAd K ("LineReader", some "take_number"))) = true)) rfl))
    (of_decide_eq_true (row_ok e4 1 (b := decide (PySem.W.findIn K (.ref (ga K "LineReader")) "finish" = some (some (.ref (fAd K ("LineReader", some "finish")))))) rfl))
    (of_decide_eq_true (row_ok e4 2 (b := decide (PySem.W.isFn K (.ref (fAd K ("LineReader", some "finish"))) = true)) rfl))
    (exclB_ok (row_ok e4 3 (b := exclB K (ga K "InvalidText")) rfl))
    (of_decide_eq_true (row_ok e4 4 (b := decide (PySem.W.findIn K (.ref (ga K "InvalidText")) "__setattr__" = some (some (.builtin "object.__setattr__")))) rfl))
    (of_decide_eq_true (row_ok e4 5 (b := decide (PySem.W.keepIn K (.ref (ga K "InvalidText")) = true)) rfl))
    (of_decide_eq_true (row_ok e4 6 (b := decide (PySem.W.subIn K (.ref (ga K "InvalidText")) (.type "BaseException") = some true)) rfl))
    (of_decide_eq_true (row_ok e4 7 (b := decide (PySem.W.typeIn K (.ref (ga K "InvalidText")) = some (.type "type"))) rfl))
    (of_decide_eq_true (row_ok e4 8 (b := decide (PySem.W.isClsIn K (ga K "InvalidText") = true)) rfl))
    (of_decide_eq_true (row_ok e4 9 (b := decide (PySem.W.subIn K (.ref (ga K "InvalidText")) (.ref (ga K "InvalidText")) = some true)) rfl))
    (of_decide_eq_true (row_ok e4 10 (b := decide (PySem.W.findIn K (.ref (ga K "InvalidText")) "__getattribute__" = some (some (.builtin "BaseException.__getattribute__")))) rfl))
    (of_decide_eq_true (row_ok e4 11 (b := decide (PySem.W.findIn K (.ref (ga K "InvalidText")) "__getattr__" = some none)) rfl))
    (of_decide_eq_true (row_ok e4 12 (b := decide (PySem.W.hasDictIn K (ga K "InvalidText") = true)) rfl))
    (of_decide_eq_true (row_ok e4 13 (b := decide (PySem.W.findIn K (.ref (ga K "InvalidText")) "__init__" = some (some (.ref (fAd K ("InvalidText", some "__init__")))))) rfl))
    (of_decide_eq_true (row_ok e4 14 (b := decide (PySem.W.typeIn K (.ref (fAd K ("InvalidText", some "__init__"))) = some (.type "function"))) rfl))
    (of_decide_eq_true (row_ok e4 15 (b := decide (PySem.W.findIn K (.ref (ga K "InvalidText")) "line" = some none)) rfl))
    (of_decide_eq_true (row_ok e4 16 (b := decide (PySem.W.findIn K (.ref (ga K "InvalidText")) "word" = some none)) rfl))
    (of_decide_eq_true (row_ok e4 17 (b := decide (PySem.W.readsIn K (ga K "TallyError") (.type "type") = true)) rfl))
    (fvB_ok (row_ok e4 18 (b := fvB K (ga K "TallyError")) rfl))
    (of_decide_eq_true (row_ok e4 19 (b := decide (PySem.W.specialIn K (.ref (ga K "TallyError")) "__getattribute__" = some (some (.builtin "type.__getattribute__")))) rfl))
    (fun H => tupB_ok (row_ok e4 20 (b := tupB K "LETTERS" [.str "a", .str "b", .str "c", .str "d"]) rfl) H)⟩
end
/-! ### the run of the top -/
open PySem.W PySem.Calls PyProof.Rows in
abbrev R : PySem.W.OpenRow := PySem.W.OpenLaw.row PySem.Challenge.rw_staytallies_k29_texts_refused
abbrev qv : Program := PySem.W.view R.prog [34]
def lo_0 : List Str := ["TallyError", "BadStands", "BadSteps", "BadEnds", "InvalidText", "MOST_STANDS", "MOST_GAIN", "LETTERS", "Machine", "is_whole_number", "is_integer_between", "_is_stand", "_check_stands", "_is_step", "_check_steps", "is_ascending", "_check_ends", "_number", "LineReader", "_read_stands", "_read_ends", "_read_step", "read", "_law_taken", "_law_parts", "_law_text", "_law_gain", "_law_step", "_law_wrong", "_law_refused"]
def los : List Str := lo_0
abbrev hk : PySem.W.Hook := hookF nms 4 fns exs
def ob (s : PySem.W.SharedT) : AlF := obsF nms 4 fns exs (HandSHeadRun.getT s)
theorem ob_eq (s : PySem.W.SharedT) : ob s = hk.obs s.abs := by
  have e : HandSHeadRun.getT s = s.abs.heap.get? := funext (HandSHeadRun.getT_eq s)
  show obsF nms 4 fns exs (HandSHeadRun.getT s) = obsF nms 4 fns exs s.abs.heap.get?
  rw [e]
set_option maxHeartbeats 0 in
theorem run_at1 (w : World) : (HandSHeadRun.wholeF (fun p => HandSHeadRun.stepQ (HandSHeadRun.denQ HandSHeadRun.tabQ) p w) HandSHeadRun.fenceQ 20000 R.prog).map (fun x => HandSHeadRun.looksF R.prog x.1.heap x.2.abs) = some true := by
  kernel_rfl
set_option maxHeartbeats 0 in
theorem run_at2 (w : World) : (HandSHeadRun.wholeF (fun p => HandSHeadRun.stepQ (HandSHeadRun.denQ HandSHeadRun.tabQ) p w) HandSHeadRun.fenceQ 20000 R.prog).map (fun x => HandSHeadRun.seenQ qv los (PySem.importedModules R.prog.main.body) (fun s => PySem.W.xlAt qv [] s && PySem.W.recOk R.toRowW.records s) x.2.abs) = some (PySem.W.openGood qv los) := by
  kernel_rfl
set_option maxHeartbeats 0 in
theorem run_at3 (w : World) : (HandSHeadRun.wholeF (fun p => HandSHeadRun.stepQ (HandSHeadRun.denQ HandSHeadRun.tabQ) p w) HandSHeadRun.fenceQ 20000 R.prog).map (fun x => ob x.2) = some (valF fns) := by
  kernel_rfl
theorem run_at (w : World) : HandSHeadRun.RunEqI R qv hk ob 20000 los w := by
  delta HandSHeadRun.RunEqI
  exact map_join (run_at1 w) (run_at2 w) (run_at3 w)
theorem walkH {l : PySem.W.OpenLaw} {q : Program} {loose : List Str} {XP : (Str → Option Value) → Heap → Prop} {YP : World → Heap → Prop} {d : DefRec} (hn : l.most = some 63) (hdf : d.params.defaults = [])
    (F : ∀ (w : World) (mg : Str → Option Value) (fa : Addr) (h : Heap), YP w h → h.Ns mainGlobals mg → mg d.name = some (.ref fa) → ∃ K : PySem.W.Frag, K.In h ∧
      ∃ fd : FuncData, (∀ (s : Shared) (u : Value), BindsTo s fd ⟨[u], []⟩ [("_law_script", u)]) ∧ ∀ base : Heap, K.In base → base.Ns mainGlobals mg → FnOk l.prog w K mg base (L2.CX l.prog w) 40 fa fd ["_law_script"] (sp_law K)) :
    PySem.W.WalkO q loose XP YP l.row.toRowW d [] (fun f vs => PySem.call f vs) := by
  refine Att.attach_call hn hdf fun w s₀ s₁ mg mb fa o pm cd doc a vs ns G Y ho hd hcd hmg hobj hints hlen hg => ?_
  obtain ⟨K, KX, fd, hb, hF⟩ := F w mg fa _ Y G.T.g hmg
  refine law_call KX G.T.g G.T.b G.T.builtins G.T.nolimit hg hobj hints (Nat.le_trans hlen (by decide)) ⟨rfl, by decide, by decide⟩ hF hb (fun H hO hS => ⟨a, ns, rfl, by
      rcases hS with (e | ⟨o, e⟩) | h
      · rcases hO a with z | ⟨_, _, z⟩
        · rw [e] at z; cases z
        · rw [e] at z; cases z
      · exact .inl ⟨o, e⟩
      · exact .inr fun _ => .inr h, hlen, fun _ => rfl⟩) fun H e s' h => ?_
  obtain ⟨_, _, _, _, _, _, _, _, _, _, _, _, z⟩ := h
  exact z.elim
end Sv
open PySem PySem.W PySem.Calls PyProof.Rows in
set_option maxRecDepth 100000 in
set_option maxHeartbeats 0 in
theorem PySem.Challenge.cw_staytallies_k29_texts_refused_holds : PySem.Challenge.rw_staytallies_k29_texts_refused.Holds := by
  w_on; o_law
  refine HandSHeadRun.head_imp (r := Sv.R) (q := Sv.qv) (H := Sv.hk) (ob := Sv.ob) (M := 20000) (loose := Sv.los) (d := HandSHeadRun.topDef Sv.R.prog 34) (kwd := []) Sv.ob_eq Sv.run_at (by kernel_rfl) (by kernel_rfl) (by kernel_rfl) (by rfl) (by first | assumption | decide +kernel) (by decide +kernel) ⟨rfl, rfl, rfl, rfl, rfl, by decide +kernel⟩ ?hw ?hc
  case hw => w_witness2
  case hc =>
    refine Sv.walkH (l := PySem.Challenge.rw_staytallies_k29_texts_refused) rfl (by kernel_rfl) ?F
    intro w mg fa h Y G hmg
    obtain ⟨K, KX, he, hf⟩ := Y
    have hmg2 : mg "law" = some (.ref fa) := by
      have e : (HandSHeadRun.topDef Sv.R.prog 34).name = ("law" : PySem.Str) := by kernel_rfl
      rw [← e]
      exact hmg
    obtain ⟨T⟩ := Sv.txt_of KX G he hf
    exact ⟨K, KX, Sv.all_mk T hmg2⟩
#print axioms PySem.Challenge.cw_staytallies_k29_texts_refused_holds
