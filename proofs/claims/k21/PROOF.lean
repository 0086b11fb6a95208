import PyProof.Rows.All
import Wide.All
import OpenK.AllK
import Wide.FinOn
import HandS.ForMost
import HandS.ForExc
import HandS.Wide
import HandS.Property
import HandS.IsInst
import HandS.TupAny
import HandS.TupLe
import HandS.Style
import HandS.Flow
import HandS.ExcInit
import HandS.ExcField
import HandS.FStr
import HandS.OwnEq
import KE.GoesMore
import HandS.Codes
import HandS.DictComp
import HandS.Walk
import HandS.SortInts
import HandS.TupMul
import HandS.Gcd
import HandS.Head3
import HandS.HeadHook2
import HandS.SetKeys
import HandS.Conv
import HandS.SetFor
import HandS.Strs
import PySem.Challenge.RW_staytallies_k21_whole_tallies
set_option Elab.async false
set_option linter.all false
set_option maxRecDepth 100000
set_option maxHeartbeats 4000000
namespace Sv
open PySem L2
def top (i : Nat) : Stmt := PySem.Challenge.pw_staytallies_k21_whole_tallies.main.body.getD i (.Pass ⟨0, 0, 0, 0⟩)
abbrev s_Machine_init : Stmt := (inClass (top 12) 0)
abbrev s_Machine_stands : Stmt := (inClass (top 12) 1)
abbrev s_Machine_steps : Stmt := (inClass (top 12) 2)
abbrev s_Machine_ends : Stmt := (inClass (top 12) 3)
abbrev s_is_whole_number : Stmt := (top 13)
abbrev s_is_integer_between : Stmt := (top 14)
abbrev s_is_stand : Stmt := (top 15)
abbrev s_check_stands : Stmt := (top 16)
abbrev s_is_step : Stmt := (top 17)
abbrev s_check_steps : Stmt := (top 18)
abbrev s_is_ascending : Stmt := (top 19)
abbrev s_check_ends : Stmt := (top 20)
abbrev s_check_machine : Stmt := (top 21)
abbrev s_check_number : Stmt := (top 22)
abbrev s_longer : Stmt := (top 25)
abbrev s_numbers : Stmt := (top 26)
abbrev s_tallies : Stmt := (top 27)
abbrev s_count : Stmt := (top 28)
abbrev s_law_taken : Stmt := (top 30)
abbrev s_law_parts : Stmt := (top 31)
abbrev s_law_machine : Stmt := (top 32)
abbrev s_law_next : Stmt := (top 33)
abbrev s_law_rows : Stmt := (top 34)
abbrev s_law : Stmt := (top 35)
theorem sc_Machine_init : FnScope ["self", "stands", "steps", "ends"] ["self", "stands", "steps", "ends"] (defScope s_Machine_init) := ⟨rfl, rfl, rfl, by decide +kernel, rfl, by decide +kernel, by decide +kernel⟩
theorem sc_Machine_stands : FnScope ["self"] ["self"] (defScope s_Machine_stands) := ⟨rfl, rfl, rfl, by decide +kernel, rfl, by decide +kernel, by decide +kernel⟩
theorem sc_Machine_steps : FnScope ["self"] ["self"] (defScope s_Machine_steps) := ⟨rfl, rfl, rfl, by decide +kernel, rfl, by decide +kernel, by decide +kernel⟩
theorem sc_Machine_ends : FnScope ["self"] ["self"] (defScope s_Machine_ends) := ⟨rfl, rfl, rfl, by decide +kernel, rfl, by decide +kernel, by decide +kernel⟩
theorem sc_is_whole_number : FnScope ["value"] ["value"] (defScope s_is_whole_number) := ⟨rfl, rfl, rfl, by decide +kernel, rfl, by decide +kernel, by decide +kernel⟩
theorem sc_is_integer_between : FnScope ["value", "least", "most"] ["value", "least", "most"] (defScope s_is_integer_between) := ⟨rfl, rfl, rfl, by decide +kernel, rfl, by decide +kernel, by decide +kernel⟩
theorem sc_is_stand : FnScope ["stands", "value"] ["stands", "value"] (defScope s_is_stand) := ⟨rfl, rfl, rfl, by decide +kernel, rfl, by decide +kernel, by decide +kernel⟩
theorem sc_check_stands : FnScope ["stands"] ["stands"] (defScope s_check_stands) := ⟨rfl, rfl, rfl, by decide +kernel, rfl, by decide +kernel, by decide +kernel⟩
theorem sc_is_step : FnScope ["stands", "value", "begun", "letter", "end", "gain"] ["stands", "value"] (defScope s_is_step) := ⟨rfl, rfl, rfl, by decide +kernel, rfl, by decide +kernel, by decide +kernel⟩
theorem sc_check_steps : FnScope ["stands", "steps", "index", "step"] ["stands", "steps"] (defScope s_check_steps) := ⟨rfl, rfl, rfl, by decide +kernel, rfl, by decide +kernel, by decide +kernel⟩
theorem sc_is_ascending : FnScope ["value", "many", "least", "number"] ["value", "many"] (defScope s_is_ascending) := ⟨rfl, rfl, rfl, by decide +kernel, rfl, by decide +kernel, by decide +kernel⟩
theorem sc_check_ends : FnScope ["stands", "ends"] ["stands", "ends"] (defScope s_check_ends) := ⟨rfl, rfl, rfl, by decide +kernel, rfl, by decide +kernel, by decide +kernel⟩
theorem sc_check_machine : FnScope ["value"] ["value"] (defScope s_check_machine) := ⟨rfl, rfl, rfl, by decide +kernel, rfl, by decide +kernel, by decide +kernel⟩
theorem sc_check_number : FnScope ["value", "least", "most"] ["value", "least", "most"] (defScope s_check_number) := ⟨rfl, rfl, rfl, by decide +kernel, rfl, by decide +kernel, by decide +kernel⟩
theorem sc_longer : FnScope ["steps", "numbers", "low", "high", "longer", "begun", "_", "end", "gain", "there", "tally", "number"] ["steps", "numbers", "low", "high"] (defScope s_longer) := ⟨rfl, rfl, rfl, by decide +kernel, rfl, by decide +kernel, by decide +kernel⟩
theorem sc_numbers : FnScope ["machine", "length", "low", "high", "numbers", "_", "found", "end", "tally", "number"] ["machine", "length", "low", "high"] (defScope s_numbers) := ⟨rfl, rfl, rfl, by decide +kernel, rfl, by decide +kernel, by decide +kernel⟩
theorem sc_tallies : FnScope ["machine", "length", "numbers", "tally"] ["machine", "length"] (defScope s_tallies) := ⟨rfl, rfl, rfl, by decide +kernel, rfl, by decide +kernel, by decide +kernel⟩
theorem sc_count : FnScope ["machine", "length", "tally"] ["machine", "length", "tally"] (defScope s_count) := ⟨rfl, rfl, rfl, by decide +kernel, rfl, by decide +kernel, by decide +kernel⟩
theorem sc_law_taken : FnScope ["_law_row", "_law_many", "_law_found", "_law_cell"] ["_law_row", "_law_many"] (defScope s_law_taken) := ⟨rfl, rfl, rfl, by decide +kernel, rfl, by decide +kernel, by decide +kernel⟩
theorem sc_law_parts : FnScope ["_law_row", "_law_stands", "_law_size", "_law_many", "_law_kind", "_law_heights", "_law_steps", "_law_letters", "_law_begun", "_law_letter", "_law_end", "_law_gain", "_law_ends", "_law_stand"] ["_law_row", "_law_stands", "_law_size"] (defScope s_law_parts) := ⟨rfl, rfl, rfl, by decide +kernel, rfl, by decide +kernel, by decide +kernel⟩
theorem sc_law_machine : FnScope ["_law_d"] ["_law_d"] (defScope s_law_machine) := ⟨rfl, rfl, rfl, by decide +kernel, rfl, by decide +kernel, by decide +kernel⟩
theorem sc_law_next : FnScope ["_law_d", "_law_stand", "_law_begun", "_law_letter", "_law_end", "_law_gain"] ["_law_d", "_law_stand"] (defScope s_law_next) := ⟨rfl, rfl, rfl, by decide +kernel, rfl, by decide +kernel, by decide +kernel⟩
theorem sc_law_rows : FnScope ["_law_d", "_law_length", "_law_found", "_law_turn", "_law_longer", "_law_word", "_law_stand", "_law_tallies_told", "_law_letter", "_law_end", "_law_gain"] ["_law_d", "_law_length"] (defScope s_law_rows) := ⟨rfl, rfl, rfl, by decide +kernel, rfl, by decide +kernel, by decide +kernel⟩
theorem sc_law : FnScope ["_law_script", "_law_row", "_law_d", "_law_machine_here", "_law_length", "_law_sums", "_law_due", "_law_tally", "_law_word", "_law_stand", "_law_told"] ["_law_script"] (defScope s_law) := ⟨rfl, rfl, rfl, by decide +kernel, rfl, by decide +kernel, by decide +kernel⟩
structure Txt (K : PySem.W.Frag) (mg : Str → Option Value) : Type where
  a_Machine_init : Addr
  fd_Machine_init : FuncData
  F_Machine_init : Fun K "__init__" "Machine.__init__" s_Machine_init a_Machine_init fd_Machine_init
  b_Machine_init : Binds K fd_Machine_init ["self", "stands", "steps", "ends"] []
  k_Machine_init : PySem.W.keepIn K (.ref a_Machine_init) = true
  a_Machine_stands : Addr
  fd_Machine_stands : FuncData
  F_Machine_stands : Fun K "stands" "Machine.stands" s_Machine_stands a_Machine_stands fd_Machine_stands
  b_Machine_stands : Binds K fd_Machine_stands ["self"] []
  k_Machine_stands : PySem.W.keepIn K (.ref a_Machine_stands) = true
  a_Machine_steps : Addr
  fd_Machine_steps : FuncData
  F_Machine_steps : Fun K "steps" "Machine.steps" s_Machine_steps a_Machine_steps fd_Machine_steps
  b_Machine_steps : Binds K fd_Machine_steps ["self"] []
  k_Machine_steps : PySem.W.keepIn K (.ref a_Machine_steps) = true
  a_Machine_ends : Addr
  fd_Machine_ends : FuncData
  F_Machine_ends : Fun K "ends" "Machine.ends" s_Machine_ends a_Machine_ends fd_Machine_ends
  b_Machine_ends : Binds K fd_Machine_ends ["self"] []
  k_Machine_ends : PySem.W.keepIn K (.ref a_Machine_ends) = true
  a_is_whole_number : Addr
  fd_is_whole_number : FuncData
  F_is_whole_number : Fun K "is_whole_number" "is_whole_number" s_is_whole_number a_is_whole_number fd_is_whole_number
  b_is_whole_number : Binds K fd_is_whole_number ["value"] []
  k_is_whole_number : PySem.W.keepIn K (.ref a_is_whole_number) = true
  m_is_whole_number : mg "is_whole_number" = some (.ref a_is_whole_number)
  a_is_integer_between : Addr
  fd_is_integer_between : FuncData
  F_is_integer_between : Fun K "is_integer_between" "is_integer_between" s_is_integer_between a_is_integer_between fd_is_integer_between
  b_is_integer_between : Binds K fd_is_integer_between ["value", "least", "most"] []
  k_is_integer_between : PySem.W.keepIn K (.ref a_is_integer_between) = true
  m_is_integer_between : mg "is_integer_between" = some (.ref a_is_integer_between)
  a_is_stand : Addr
  fd_is_stand : FuncData
  F_is_stand : Fun K "_is_stand" "_is_stand" s_is_stand a_is_stand fd_is_stand
  b_is_stand : Binds K fd_is_stand ["stands", "value"] []
  k_is_stand : PySem.W.keepIn K (.ref a_is_stand) = true
  m_is_stand : mg "_is_stand" = some (.ref a_is_stand)
  a_check_stands : Addr
  fd_check_stands : FuncData
  F_check_stands : Fun K "_check_stands" "_check_stands" s_check_stands a_check_stands fd_check_stands
  b_check_stands : Binds K fd_check_stands ["stands"] []
  k_check_stands : PySem.W.keepIn K (.ref a_check_stands) = true
  m_check_stands : mg "_check_stands" = some (.ref a_check_stands)
  a_is_step : Addr
  fd_is_step : FuncData
  F_is_step : Fun K "_is_step" "_is_step" s_is_step a_is_step fd_is_step
  b_is_step : Binds K fd_is_step ["stands", "value"] []
  k_is_step : PySem.W.keepIn K (.ref a_is_step) = true
  m_is_step : mg "_is_step" = some (.ref a_is_step)
  a_check_steps : Addr
  fd_check_steps : FuncData
  F_check_steps : Fun K "_check_steps" "_check_steps" s_check_steps a_check_steps fd_check_steps
  b_check_steps : Binds K fd_check_steps ["stands", "steps"] []
  k_check_steps : PySem.W.keepIn K (.ref a_check_steps) = true
  m_check_steps : mg "_check_steps" = some (.ref a_check_steps)
  a_is_ascending : Addr
  fd_is_ascending : FuncData
  F_is_ascending : Fun K "is_ascending" "is_ascending" s_is_ascending a_is_ascending fd_is_ascending
  b_is_ascending : Binds K fd_is_ascending ["value", "many"] []
  k_is_ascending : PySem.W.keepIn K (.ref a_is_ascending) = true
  m_is_ascending : mg "is_ascending" = some (.ref a_is_ascending)
  a_check_ends : Addr
  fd_check_ends : FuncData
  F_check_ends : Fun K "_check_ends" "_check_ends" s_check_ends a_check_ends fd_check_ends
  b_check_ends : Binds K fd_check_ends ["stands", "ends"] []
  k_check_ends : PySem.W.keepIn K (.ref a_check_ends) = true
  m_check_ends : mg "_check_ends" = some (.ref a_check_ends)
  a_check_machine : Addr
  fd_check_machine : FuncData
  F_check_machine : Fun K "check_machine" "check_machine" s_check_machine a_check_machine fd_check_machine
  b_check_machine : Binds K fd_check_machine ["value"] []
  k_check_machine : PySem.W.keepIn K (.ref a_check_machine) = true
  m_check_machine : mg "check_machine" = some (.ref a_check_machine)
  a_check_number : Addr
  fd_check_number : FuncData
  F_check_number : Fun K "check_number" "check_number" s_check_number a_check_number fd_check_number
  b_check_number : Binds K fd_check_number ["value", "least", "most"] []
  k_check_number : PySem.W.keepIn K (.ref a_check_number) = true
  m_check_number : mg "check_number" = some (.ref a_check_number)
  a_longer : Addr
  fd_longer : FuncData
  F_longer : Fun K "_longer" "_longer" s_longer a_longer fd_longer
  b_longer : Binds K fd_longer ["steps", "numbers", "low", "high"] []
  k_longer : PySem.W.keepIn K (.ref a_longer) = true
  m_longer : mg "_longer" = some (.ref a_longer)
  a_numbers : Addr
  fd_numbers : FuncData
  F_numbers : Fun K "_numbers" "_numbers" s_numbers a_numbers fd_numbers
  b_numbers : Binds K fd_numbers ["machine", "length", "low", "high"] []
  k_numbers : PySem.W.keepIn K (.ref a_numbers) = true
  m_numbers : mg "_numbers" = some (.ref a_numbers)
  a_tallies : Addr
  fd_tallies : FuncData
  F_tallies : Fun K "tallies" "tallies" s_tallies a_tallies fd_tallies
  b_tallies : Binds K fd_tallies ["machine", "length"] []
  k_tallies : PySem.W.keepIn K (.ref a_tallies) = true
  m_tallies : mg "tallies" = some (.ref a_tallies)
  a_count : Addr
  fd_count : FuncData
  F_count : Fun K "count" "count" s_count a_count fd_count
  b_count : Binds K fd_count ["machine", "length", "tally"] []
  k_count : PySem.W.keepIn K (.ref a_count) = true
  m_count : mg "count" = some (.ref a_count)
  a_law_taken : Addr
  fd_law_taken : FuncData
  F_law_taken : Fun K "_law_taken" "_law_taken" s_law_taken a_law_taken fd_law_taken
  b_law_taken : Binds K fd_law_taken ["_law_row", "_law_many"] []
  k_law_taken : PySem.W.keepIn K (.ref a_law_taken) = true
  m_law_taken : mg "_law_taken" = some (.ref a_law_taken)
  a_law_parts : Addr
  fd_law_parts : FuncData
  F_law_parts : Fun K "_law_parts" "_law_parts" s_law_parts a_law_parts fd_law_parts
  b_law_parts : Binds K fd_law_parts ["_law_row", "_law_stands", "_law_size"] []
  k_law_parts : PySem.W.keepIn K (.ref a_law_parts) = true
  m_law_parts : mg "_law_parts" = some (.ref a_law_parts)
  a_law_machine : Addr
  fd_law_machine : FuncData
  F_law_machine : Fun K "_law_machine" "_law_machine" s_law_machine a_law_machine fd_law_machine
  b_law_machine : Binds K fd_law_machine ["_law_d"] []
  k_law_machine : PySem.W.keepIn K (.ref a_law_machine) = true
  m_law_machine : mg "_law_machine" = some (.ref a_law_machine)
  a_law_next : Addr
  fd_law_next : FuncData
  F_law_next : Fun K "_law_next" "_law_next" s_law_next a_law_next fd_law_next
  b_law_next : Binds K fd_law_next ["_law_d", "_law_stand"] []
  k_law_next : PySem.W.keepIn K (.ref a_law_next) = true
  m_law_next : mg "_law_next" = some (.ref a_law_next)
  a_law_rows : Addr
  fd_law_rows : FuncData
  F_law_rows : Fun K "_law_rows" "_law_rows" s_law_rows a_law_rows fd_law_rows
  b_law_rows : Binds K fd_law_rows ["_law_d", "_law_length"] []
  k_law_rows : PySem.W.keepIn K (.ref a_law_rows) = true
  m_law_rows : mg "_law_rows" = some (.ref a_law_rows)
  a_law : Addr
  fd_law : FuncData
  F_law : Fun K "law" "law" s_law a_law fd_law
  b_law : Binds K fd_law ["_law_script"] []
  k_law : PySem.W.keepIn K (.ref a_law) = true
  m_law : mg "law" = some (.ref a_law)
  c_Machine : Addr
  cl_Machine : Cls K c_Machine
  m_Machine : mg "Machine" = some (.ref c_Machine)
  mk_Machine : Mk K c_Machine a_Machine_init
  n__stands : NoAttr K c_Machine "_stands"
  n__steps : NoAttr K c_Machine "_steps"
  n__ends : NoAttr K c_Machine "_ends"
  q_stands : Addr
  p_stands : PropOf K c_Machine "stands" q_stands a_Machine_stands
  q_steps : Addr
  p_steps : PropOf K c_Machine "steps" q_steps a_Machine_steps
  q_ends : Addr
  p_ends : PropOf K c_Machine "ends" q_ends a_Machine_ends
  i1_Machine : PySem.W.findIn K (.ref c_Machine) "__class__" = some (some (.builtin "object.__class__"))
  i2_Machine : PySem.W.specialIn K (.builtin "object.__class__") "__get__" = some (some (.builtin "getset_descriptor.__get__"))
  i3_Machine : PySem.W.takesIn K (.builtin "object.__class__") = some true
  i4_Machine : PySem.W.mroIn K c_Machine (.type "object") = some true
  u_MOST_STANDS : Value
  m_MOST_STANDS : mg "MOST_STANDS" = some u_MOST_STANDS
  r_MOST_STANDS : RelV (V.int 8) u_MOST_STANDS
  u_MOST_GAIN : Value
  m_MOST_GAIN : mg "MOST_GAIN" = some u_MOST_GAIN
  r_MOST_GAIN : RelV (V.int 1000000000000000000000000000000) u_MOST_GAIN
  a_LETTERS : Addr
  m_LETTERS : mg "LETTERS" = some (.ref a_LETTERS)
  r_LETTERS : RelV (V.ref a_LETTERS) (.ref a_LETTERS)
  s_LETTERS : ∀ H : Hp, SqT K H a_LETTERS [V.str "a", V.str "b", V.str "c", V.str "d"]
  u_MOST_NUMBER : Value
  m_MOST_NUMBER : mg "MOST_NUMBER" = some u_MOST_NUMBER
  r_MOST_NUMBER : RelV (V.int 10000000000000000000000000000000000000000) u_MOST_NUMBER
  u_MOST_LENGTH : Value
  m_MOST_LENGTH : mg "MOST_LENGTH" = some u_MOST_LENGTH
  r_MOST_LENGTH : RelV (V.int 12) u_MOST_LENGTH
  z_bool : mg "bool" = none
  z_enumerate : mg "enumerate" = none
  z_int : mg "int" = none
  z_isinstance : mg "isinstance" = none
  z_len : mg "len" = none
  z_list : mg "list" = none
  z_max : mg "max" = none
  z_min : mg "min" = none
  z_range : mg "range" = none
  z_set : mg "set" = none
  z_sorted : mg "sorted" = none
  z_str : mg "str" = none
  z_sum : mg "sum" = none
  z_tuple : mg "tuple" = none
  bs_law : ∀ (s : Shared) (v : Value), BindsTo s fd_law ⟨[v], []⟩ [("_law_script", v)]
/-! ### heaps -/
/-- all but a stands as it was -/
def Keep (a : Addr) (H H' : Hp) : Prop := ∀ b o, b ≠ a → H b = some o → H' b = some o
theorem Keep.refl (a : Addr) (H : Hp) : Keep a H H := fun _ _ _ h => h
theorem Keep.trans {a : Addr} {H H1 H2 : Hp} (x : Keep a H H1) (y : Keep a H1 H2) : Keep a H H2 := fun b o n h => y b o n (x b o n h)
theorem Keep.at_ {a : Addr} {H : Hp} {o : HO} : Keep a H (upd H a o) := fun b u n h => by rw [upd_ne n]; exact h
theorem Keep.new {a p : Addr} {H : Hp} {o : HO} (hp : H p = none) : Keep a H (upd H p o) := fun b u _ h => by rw [upd_ne (ne_of_none h hp)]; exact h
theorem Keep.of_same {a : Addr} {H H' : Hp} (x : Same H H') : Keep a H H' := fun b o _ h => x b o h
theorem Same.new {p : Addr} {H : Hp} {o : HO} (hp : H p = none) : Same H (upd H p o) := fun b u h => by rw [upd_ne (ne_of_none h hp)]; exact h
theorem Keep.free {a p : Addr} {H H' : Hp} (x : Keep a H H') (n : p ≠ a) (h : H' p = none) : H p = none := by
  cases q : H p with
  | none => rfl
  | some o => rw [x p o n q] at h; cases h
/-- what H does not know may change -/
theorem Keep.mut {a p : Addr} {H H' : Hp} {o : HO} (x : Keep a H H') (hp : H p = none) : Keep a H (upd H' p o) := fun b u n h => by rw [upd_ne (ne_of_none h hp)]; exact x b u n h
theorem Keep.tup {K : PySem.W.Frag} {a b : Addr} {H H' : Hp} {xs : List V} (x : Keep a H H') (ha : ∃ l, H a = some (.lst l)) (h : SqT K H b xs) : SqT K H' b xs := by
  obtain ⟨l, ha⟩ := ha
  rcases h with (h | ⟨o, h⟩) | h
  · exact .inl (.inl (x _ _ (fun e => by rw [e, ha] at h; cases h) h))
  · exact .inl (.inr ⟨o, x _ _ (fun e => by rw [e, ha] at h; cases h) h⟩)
  · exact .inr h
theorem Keep.lst {K : PySem.W.Frag} {a b : Addr} {H H' : Hp} {xs : List V} (x : Keep a H H') (n : b ≠ a) (h : SqL K H b xs) : SqL K H' b xs := by
  rcases h with (h | ⟨o, h⟩) | h
  · exact .inl (.inl (x _ _ n h))
  · exact .inl (.inr ⟨o, x _ _ n h⟩)
  · exact .inr h
/-- the script: known to the object, or of the written part -/
def ScAt (K : PySem.W.Frag) (H : Hp) (b : Addr) (xs : List V) : Prop := (∃ o, H b = some (.frz o (.lst xs))) ∨ ∀ H', SqL K H' b xs
theorem ScAt.sq {K : PySem.W.Frag} {H : Hp} {b : Addr} {xs : List V} (h : ScAt K H b xs) : SqL K H b xs := by
  rcases h with ⟨o, h⟩ | h
  · exact .inl (.inr ⟨o, h⟩)
  · exact h H
theorem ScAt.keep {K : PySem.W.Frag} {a b : Addr} {H H' : Hp} {xs l : List V} (h : ScAt K H b xs) (k : Keep a H H') (ha : H a = some (.lst l)) : ScAt K H' b xs := by
  rcases h with ⟨o, h⟩ | h
  · exact .inl ⟨o, k _ _ (fun z => by rw [z, ha] at h; cases h) h⟩
  · exact .inr h
theorem ScAt.same {K : PySem.W.Frag} {b : Addr} {H H' : Hp} {xs : List V} (h : ScAt K H b xs) (k : Same H H') : ScAt K H' b xs := by
  rcases h with ⟨o, h⟩ | h
  · exact .inl ⟨o, k _ _ h⟩
  · exact .inr h
/-- the draws' row at a: the script, how many were read, the mixed number, the rest -/
def RowOk (K : PySem.W.Frag) (H : Hp) (a : Addr) : Prop := ∃ (sc : Addr) (ns : List Int) (i z r : Int), H a = some (.lst [.ref sc, .int i, .int z, .int r]) ∧ ScAt K H sc (ns.map V.int) ∧ ns.length ≤ 63 ∧ 0 ≤ i ∧ 0 ≤ z ∧ z < 2147483647
theorem RowOk.lst {K : PySem.W.Frag} {H : Hp} {a : Addr} (h : RowOk K H a) : ∃ l, H a = some (.lst l) := by
  obtain ⟨_, _, _, _, _, e, _⟩ := h; exact ⟨_, e⟩
/-- behind a step that leaves the row and the script as they were -/
theorem RowOk.same {K : PySem.W.Frag} {H H' : Hp} {a : Addr} (h : RowOk K H a) (s : Same H H') : RowOk K H' a := by
  obtain ⟨sc, ns, i, z, r, e, q, rest⟩ := h
  exact ⟨sc, ns, i, z, r, s _ _ e, q.same s, rest⟩
theorem RowOk.keep {K : PySem.W.Frag} {H H' : Hp} {a l : Addr} {xs : List V} (h : RowOk K H a) (n : a ≠ l) (e : H l = some (.lst xs)) (k : Keep l H H') : RowOk K H' a := by
  obtain ⟨sc, is, i, z, r, ea, q, rest⟩ := h
  exact ⟨sc, is, i, z, r, k _ _ n ea, q.keep k e, rest⟩
theorem RowOk.ne {K : PySem.W.Frag} {H : Hp} {a p : Addr} (h : RowOk K H a) (e : H p = none) : a ≠ p := by
  obtain ⟨l, q⟩ := h.lst
  exact ne_of_none q e
theorem tupl_upd {H : Hp} {F x : Addr} {o : HO} {ys : List V} (hF : ∀ xs, H F ≠ some (.tup xs)) (h : H x = some (.tup ys)) : (upd H F o) x = some (.tup ys) := by
  rw [upd_ne (fun e => hF ys (by rw [← e]; exact h))]
  exact h
theorem free_of {H H' : Hp} {q : Addr} (z : Same H H') (hq : H' q = none) : H q = none := by
  cases e : H q with
  | none => rfl
  | some ob => rw [z _ _ e] at hq; cases hq
theorem unlock_same {H2 H' : Hp} {e : Addr} {od : _} {kvs : List (Key × V)} (he : H2 e = some (.dK kvs)) (z : Same (upd H2 e (.frz od (.dK kvs))) H') : Same H2 (upd H' e (.dK kvs)) := fun b o eb => by
  by_cases c : b = e
  · rw [c, he] at eb
    rw [c, upd_same]
    exact eb
  · rw [upd_ne c]
    exact z _ _ (by rw [upd_ne c]; exact eb)
/-! ### steps: one a combinator -/
section
variable {K : PySem.W.Frag} {σ : L2.St} {H : Hp} {D : Ends} {Q : VK}
theorem k_seq {t u : TS} (h : t { D with nx := u D } σ H) : tSeq t u D σ H := h
theorem k_ifS {c : TT} {t u : TS} (h : c σ H fun b H1 => if b = true then t D σ H1 else u D σ H1) : tIfS c t u D σ H := h
theorem k_asg {te : TE} {g : TG} (h : te σ H fun x H1 => g x σ H1 D.nx) : tAsg te g D σ H := h
theorem k_ret {te : TE} (h : te σ H D.rt) : tRet te D σ H := h
theorem k_retN (h : D.rt .non H) : tRetN D σ H := h
theorem k_next (h : D.nx σ H) : tNext D σ H := h
theorem k_cont (h : D.ct σ H) : tCont D σ H := h
theorem k_break (h : D.bk σ H) : tBreak D σ H := h
theorem k_drop {te : TE} (h : te σ H fun _ H1 => D.nx σ H1) : tDrop te D σ H := h
theorem k_par {i j : Nat} {ta : TA} (h : ta σ H fun vs H1 => ∃ v w, vs = [v, w] ∧ D.nx ((σ.set i (some v)).set j (some w)) H1) : tPar i j ta D σ H := h
theorem k_two {p : V → V → Prop} {a b : V} (h : p a b) : ∃ v w, [a, b] = [v, w] ∧ p v w := ⟨a, b, rfl, h⟩
theorem k_var {i : Nat} {v : V} (e : σ[i]? = some (some v)) (h : Q v H) : tVar i σ H Q := ⟨v, e, h⟩
theorem k_c {v : V} (h : Q v H) : tC v σ H Q := h
theorem k_op {r : R2} {ta tb : TE} (h : ta σ H fun x H1 => tb σ H1 fun y H2 => r x y H2 Q) : tOp r ta tb σ H Q := h
theorem k_un {r : V → Hp → VK → Prop} {ta : TE} (h : ta σ H fun x H1 => r x H1 Q) : tUn r ta σ H Q := h
theorem k_cb {r : List V → Hp → VK → Prop} {t : TA} (h : t σ H fun vs H1 => r vs H1 Q) : tCB r t σ H Q := h
theorem k_cons {ta : TE} {tr : TA} {R : List V → Hp → Prop} (h : ta σ H fun x H1 => tr σ H1 fun xs H2 => R (x :: xs) H2) : tCons ta tr σ H R := h
theorem k_nil {R : List V → Hp → Prop} (h : R [] H) : tNil σ H R := h
theorem k_call {sp : Sp} {dvs : List V} {E : XK} {t : TA} (h : t σ H fun vs H1 => sp (vs ++ dvs) H1 Q E) : tCall sp dvs E t σ H Q := h
theorem k_make {C : Addr} {sp : Sp} {dvs : List V} {E : XK} {t : TA} (h : t σ H fun vs H1 => ∀ x dx, H1 x = none → H1 dx = none → dx ≠ x →
  sp (.ref x :: (vs ++ dvs)) (upd (upd H1 dx (.own x)) x (.ins C dx [])) (fun v H2 => v = .non ∧ Q (.ref x) H2) E) : tMake C sp dvs E t σ H Q := h
theorem k_test {t : TE} {R : Bool → Hp → Prop} (h : t σ H fun x H' => ∃ k, x = .bl k ∧ R k H') : tTest t σ H R := h
theorem k_tB {t : TE} {R : Bool → Hp → Prop} (h : t σ H fun x H' => ∃ k, x = .bl k ∧ R k H') : tB t σ H R := h
theorem k_bl {b : Bool} {R : Bool → Prop} (h : R b) : ∃ k, V.bl b = .bl k ∧ R k := ⟨b, rfl, h⟩
theorem k_and {t u : TT} {R : Bool → Hp → Prop} (h : t σ H fun c H1 => if c = true then u σ H1 R else R false H1) : tAnd t u σ H R := h
theorem k_or {t u : TT} {R : Bool → Hp → Prop} (h : t σ H fun c H1 => if c = true then R true H1 else u σ H1 R) : tOr t u σ H R := h
theorem k_not {t : TT} {R : Bool → Hp → Prop} (h : t σ H fun c H1 => R (!c) H1) : tNot t σ H R := h
theorem k_andV {ta tb : TE} (h : ta σ H fun x H1 => ∃ c, x = .bl c ∧ if c = true then tb σ H1 Q else Q (.bl false) H1) : tAndV ta tb σ H Q := h
theorem k_orV {ta tb : TE} (h : ta σ H fun x H1 => ∃ c, x = .bl c ∧ if c = true then Q (.bl true) H1 else tb σ H1 Q) : tOrV ta tb σ H Q := h
theorem k_notV {ta : TE} (h : ta σ H fun x H1 => ∃ c, x = .bl c ∧ Q (.bl (!c)) H1) : tNotV ta σ H Q := h
theorem k_ifE {t : TT} {ta tb : TE} (h : t σ H fun c H1 => if c = true then ta σ H1 Q else tb σ H1 Q) : tIf t ta tb σ H Q := h
theorem k_isN {ta : TE} (h : ta σ H fun x H1 => Q (.bl (decide (x = .non))) H1) : tIsN ta σ H Q := h
theorem k_notN {ta : TE} (h : ta σ H fun x H1 => Q (.bl (!decide (x = .non))) H1) : tNotN ta σ H Q := h
theorem k_name {i : Nat} {v : V} {R : L2.St → Hp → Prop} (h : R (σ.set i (some v)) H) : gName i v σ H R := h
theorem k_sub {to ti : TE} {t : TSet} {v : V} {R : L2.St → Hp → Prop} (h : to σ H fun o H1 => ti σ H1 fun i H2 => t o i v H2 fun H3 => R σ H3) : gSub to ti t v σ H R := h
theorem k_gt {n : Nat} {t : TGs} {R : L2.St → Hp → Prop} {a : Addr} {xs : List V} (h : SqT K H a xs) (e : xs.length = n) (q : t xs σ H R) : gTup K n t (.ref a) σ H R := ⟨a, xs, rfl, h, e, q⟩
theorem k_gn {R : L2.St → Hp → Prop} (h : R σ H) : gNil [] σ H R := ⟨rfl, h⟩
theorem k_gc {t : TG} {u : TGs} {v : V} {vs : List V} {R : L2.St → Hp → Prop} (h : t v σ H fun σ' H' => u vs σ' H' R) : gCons t u (v :: vs) σ H R := ⟨v, vs, rfl, h⟩
theorem k_I0 {g : Int → Int → V} {i j : Int} (h : Q (g i j) H) : rI0 g (.int i) (.int j) H Q := ⟨i, j, rfl, rfl, h⟩
theorem k_I {C : Int → Int → Prop} {g : Int → Int → V} {i j : Int} (c : C i j) (h : Q (g i j) H) : rI C g (.int i) (.int j) H Q := ⟨i, j, rfl, rfl, c, h⟩
theorem k_U {g : Int → V} {i : Int} (h : Q (g i) H) : rU g (.int i) H Q := ⟨i, rfl, h⟩
theorem k_eq {x y : V} (e : scal x y = true) (h : Q (.bl (decide (x = y))) H) : rEq x y H Q := ⟨e, h⟩
theorem k_ne {x y : V} (e : scal x y = true) (h : Q (.bl (!decide (x = y))) H) : rNe x y H Q := ⟨e, h⟩
theorem k_ixL {p : Addr} {xs : List V} {i : Int} {v : V} (h : SqL K H p xs) (e : atI xs i = some v) (q : Q v H) : rIxL K (.ref p) (.int i) H Q := ⟨p, xs, i, v, rfl, rfl, h, e, q⟩
theorem k_ixT {p : Addr} {xs : List V} {i : Int} {v : V} (h : SqT K H p xs) (e : atI xs i = some v) (q : Q v H) : rIxT K (.ref p) (.int i) H Q := ⟨p, xs, i, v, rfl, rfl, h, e, q⟩
theorem k_setL {p : Addr} {xs : List V} {k : Int} {j : Nat} {v : V} {R : Hp → Prop} (h : H p = some (.lst xs)) (e : ixN xs.length k = some j) (q : R (upd H p (.lst (xs.set j v)))) : rSetL (.ref p) (.int k) v H R := ⟨p, xs, k, j, rfl, rfl, h, e, q⟩
theorem k_tup {t : TA} (h : t σ H fun xs H1 => xs.length ≤ sizeLine ∧ ∀ p, H1 p = none → Q (.ref p) (upd H1 p (.tup xs))) : tTup t σ H Q := h
theorem k_lst {t : TA} (h : t σ H fun xs H1 => xs.length ≤ sizeLine ∧ ∀ p, H1 p = none → Q (.ref p) (upd H1 p (.lst xs))) : tLst t σ H Q := h
theorem k_bm {T : String} {r : V → List V → Hp → VK → Prop} {to : TE} {t : TA} (h : to σ H fun x H1 => tyV K T x H1 ∧ t σ H1 fun xs H2 => r x xs H2 Q) : tBM K T r to t σ H Q := h
theorem k_append {l : Addr} {xs : List V} {y : V} (h : H l = some (.lst xs)) (e : xs.length < sizeLine) (q : Q .non (upd H l (.lst (xs ++ [y])))) : rAppend (.ref l) [y] H Q := ⟨l, xs, y, rfl, rfl, h, e, q⟩
theorem k_dget {td ty : TE} (h : td σ H fun x H1 => ty σ H1 fun y H2 => ∃ a v, x = .ref a ∧ DGet H2 a y (some v) ∧ Q v H2) : tDGet td ty σ H Q := h
theorem k_dg {a : Addr} {y v : V} (h : DGet H a y (some v)) (q : Q v H) : ∃ b u, V.ref a = .ref b ∧ DGet H b y (some u) ∧ Q u H := ⟨a, v, rfl, h, q⟩
theorem k_fld {ta : TE} {f : Str} (h : ta σ H fun x H1 => ∃ a C dx fs v, x = .ref a ∧ H1 a = some (.ins C dx fs) ∧ Cls K C ∧ NoAttr K C f ∧ fs.lookup f = some v ∧ Q v H1) : tFld K ta f σ H Q := h
theorem k_sl {r : V → Option Int → Option Int → Hp → VK → Prop} {te : TE} {tl th : TO} (h : te σ H fun x H1 => tl σ H1 fun l H2 => th σ H2 fun u H3 => r x l u H3 Q) : L2.tSl r te tl th σ H Q := h
theorem k_noPart {R : Option Int → Hp → Prop} (h : R none H) : tNoPart σ H R := h
theorem k_part {t : TE} {R : Option Int → Hp → Prop} (h : t σ H fun x H1 => ∃ i, x = .int i ∧ R (some i) H1) : tPart t σ H R := h
theorem k_int {i : Int} {R : Int → Prop} (h : R i) : ∃ k, V.int i = .int k ∧ R k := ⟨i, rfl, h⟩
theorem k_int1 {i : Int} {R : Int → Prop} {R' : Bool → Prop} (h : R i) : (∃ j, [V.int i] = [V.int j] ∧ R j) ∨ (∃ k, [V.int i] = [V.bl k] ∧ R' k) := .inl ⟨i, rfl, h⟩
theorem k_len {a : Addr} {ys : List V} {R : List V → Prop} (h : SqL K H a ys ∨ SqT K H a ys) (q : R ys) : ∃ p xs, [V.ref a] = [V.ref p] ∧ (SqL K H p xs ∨ SqT K H p xs) ∧ R xs := ⟨a, ys, rfl, h, q⟩
theorem k_disp {trs : List (TE × TE)} (h : ∀ p, H p = none → tPairs trs σ (upd H p (.dK [])) fun ps H2 => H2 p = some (.dK []) ∧ ∃ kvs : List (Key × V), ps = kvs.map (fun kv => (kV kv.1, kv.2)) ∧ kvs.length ≤ 15 ∧ Q (.ref p) (upd H2 p (.dK (mergeK [] kvs)))) : tDisp trs σ H Q := h
theorem k_cut {t u : TS} (M : L2.St → Hp → Prop) (h : t { D with nx := M } σ H) (k : ∀ σ' H', M σ' H' → u D σ' H') : C8.tCut t u D σ H := ⟨M, h, k⟩
theorem k_rng1 {ta : TA} {R : It → Hp → Prop} (h : ta σ H fun vs H1 => ∃ j : Int, vs = [.int j] ∧ -(2 ^ 62) ≤ j ∧ j < 2 ^ 62 ∧ R (Itr 0 j.toNat) H1) : iRng1 ta σ H R := h
theorem k_rg {j : Int} {R : Int → Prop} (h1 : 0 ≤ j) (h2 : j < 2 ^ 62) (q : R j) : ∃ i : Int, [V.int j] = [V.int i] ∧ -(2 ^ 62) ≤ i ∧ i < 2 ^ 62 ∧ R i := ⟨j, rfl, by omega, h2, q⟩
theorem k_for {wi : TI} {g : TG} {tb : TS} (h : wi σ H fun J H1 => ∃ W : Nat → Nat → L2.St → Hp → Prop, (∃ m, W 0 m σ H1) ∧ ∀ i m σ H, W i m σ H →
  (J.stop i H ∧ D.nx σ H) ∨ (J.go i H ∧ ∃ N : L2.St → Hp → Prop, (∀ σ' H', N σ' H' → ∃ m', m' < m ∧ W (i + 1) m' σ' H') ∧ ∀ x H', J.yld i H x H' → g x σ H' fun σ2 H2 => tb { D with nx := N, ct := N, bk := D.nx } σ2 H2)) : tFor wi g tb D σ H := h
theorem k_lc {wi : TI} {g : TG} {tt : TT} {te : TE} {vs : List Nat} (h : wi σ H fun J H1 => ∀ D, H1 D = none → ∃ W : Nat → Nat → Hp → Prop, (∃ m, W 0 m (upd H1 D (.lst []))) ∧ ∀ i m H, W i m H →
  (J.stop i H ∧ Q (.ref D) H) ∨ (J.go i H ∧ ∃ Nx : Hp → Prop, (∀ H', Nx H' → ∃ m', m' < m ∧ W (i + 1) m' H') ∧ ∀ x H', J.yld i H x H' → g x (wipe σ vs) H' fun σ2 H2 => wipe σ2 vs = wipe σ vs ∧ tt σ2 H2 fun b H3 =>
    if b = true then te σ2 H3 fun y H4 => ∃ acc, H4 D = some (.lst acc) ∧ acc.length < sizeLine ∧ Nx (upd H4 D (.lst (acc ++ [y]))) else Nx H3)) : tLc wi g tt te vs σ H Q := h
theorem k_yesT {R : Bool → Hp → Prop} (h : R true H) : tYes σ H R := h
theorem k_str {te : TE} {R : It → Hp → Prop} (h : te σ H fun v H1 => ∃ x, v = .str x ∧ R (Its x) H1) : iStr te σ H R := h
theorem k_slS {z : Str} {lo hi : Option Int} (e : z.length ≤ sizeLine) (q : Q (.str (cutS z lo hi)) H) : rSlS (.str z) lo hi H Q := ⟨z, rfl, e, q⟩
theorem k_prs {tk tv : TE} {r : List (TE × TE)} {R : List (V × V) → Hp → Prop} (h : tk σ H fun x H1 => tv σ H1 fun y H2 => tPairs r σ H2 fun ps H3 => R ((x, y) :: ps) H3) : tPairs ((tk, tv) :: r) σ H R := h
theorem k_prn {R : List (V × V) → Hp → Prop} (h : R [] H) : tPairs [] σ H R := h
theorem k_aug {i : Nat} {te : TE} {ti : TIp} {x : V} (e : σ[i]? = some (some x)) (h : te σ H fun y H1 => ti x y H1 fun z H2 => D.nx (σ.set i (some z)) H2) : tAug i te ti D σ H := ⟨x, e, h⟩
theorem k_ipI {f : Int → Int → Int} {i j : Int} (h : Q (.int (f i j)) H) : ipI f (.int i) (.int j) H Q := ⟨i, j, rfl, rfl, h⟩
theorem k_din {ty td : TE} (h : ty σ H fun y H1 => td σ H1 fun x H2 => ∃ a o, x = .ref a ∧ DGet H2 a y o ∧ Q (.bl o.isSome) H2) : tDIn ty td σ H Q := h
theorem k_dnotin {ty td : TE} (h : ty σ H fun y H1 => td σ H1 fun x H2 => ∃ a o, x = .ref a ∧ DGet H2 a y o ∧ Q (.bl (!o.isSome)) H2) : tDNotIn ty td σ H Q := h
theorem k_dput {td ty tv : TE} (h : tv σ H fun v H1 => td σ H1 fun x H2 => ty σ H2 fun y H3 => ∃ a H4, x = .ref a ∧ DPut H3 a y v H4 ∧ D.nx σ H4) : sDPut td ty tv D σ H := h
theorem k_prop {C : Addr} {sp : Sp} {dvs : List V} {E : XK} {ta : TE} (h : ta σ H fun x H1 => ∃ a dx fs, x = .ref a ∧ H1 a = some (.ins C dx fs) ∧ sp (.ref a :: dvs) H1 Q E) : tProp C sp dvs E ta σ H Q := h
theorem k_itup {tl : TE} {R : It → Hp → Prop} (h : tl σ H fun x H1 => ∃ a, x = .ref a ∧ (∃ xs, SqT K H1 a xs) ∧ R (Itt K a) H1) : iTup K tl σ H R := h
theorem k_ilst {tl : TE} {R : It → Hp → Prop} (h : tl σ H fun x H1 => ∃ a, x = .ref a ∧ (∃ xs, SqL K H1 a xs) ∧ R (Itl K a) H1) : iList K tl σ H R := h
theorem k_bm0 {T : String} {r : V → List V → Hp → VK → Prop} {to : TE} (h : to σ H fun x H1 => tyV K T x H1 ∧ r x [] H1 Q) : tBM0 K T r to σ H Q := h
theorem k_dc {wi : TI} {g : TG} {tt : TT} {tk tv : TE} {vs : List Nat} (h : wi σ H fun J H1 => ∀ D, H1 D = none → ∃ W : Nat → Nat → Hp → Prop, (∃ m, W 0 m (upd H1 D (.dK []))) ∧ ∀ i m H, W i m H →
  (J.stop i H ∧ Q (.ref D) H) ∨ (J.go i H ∧ ∃ Nx : Hp → Prop, (∀ H', Nx H' → ∃ m', m' < m ∧ W (i + 1) m' H') ∧ ∀ x H', J.yld i H x H' → g x (wipe σ vs) H' fun σ2 H2 => wipe σ2 vs = wipe σ vs ∧ tt σ2 H2 fun b H3 =>
    if b = true then tk σ2 H3 fun y H4 => tv σ2 H4 fun z H5 => ∃ kvs k, y = kV k ∧ H5 D = some (.dK kvs) ∧ kvs.length < sizeLine ∧ Nx (upd H5 D (.dK (putK kvs k z))) else Nx H3)) : tDc wi g tt tk tv vs σ H Q := h
theorem k_whl {c : TT} {tb : TS} (W : Nat → L2.St → Hp → Prop) (h0 : ∃ m, W m σ H) (h : ∀ m σ H, W m σ H → c σ H fun b H1 => if b = true then tb { D with nx := fun σ' H' => ∃ m', m' < m ∧ W m' σ' H', ct := fun σ' H' => ∃ m', m' < m ∧ W m' σ' H', bk := D.nx } σ H1 else D.nx σ H1)
    (mono : ∀ σ H (R R' : Bool → Hp → Prop), (∀ b H1, R b H1 → R' b H1) → c σ H R → c σ H R') : tWhile c tb D σ H := by
  refine ⟨W, h0, fun m σ H w => mono _ _ _ _ (fun b H1 q => ?_) (h m σ H w)⟩
  cases b with
  | false => exact q
  | true => exact ⟨_, fun _ _ z => z, q⟩
theorem k_ite {p A B : Prop} [Decidable p] (h1 : p → A) (h2 : ¬ p → B) : if decide p = true then A else B := by
  by_cases h : p
  · rw [decide_eq_true h]; exact iteT (h1 h)
  · rw [decide_eq_false h]; exact iteF (h2 h)
theorem k_iteN {p A B : Prop} [Decidable p] (h1 : p → B) (h2 : ¬ p → A) : if (!decide p) = true then A else B := by
  by_cases h : p
  · rw [decide_eq_true h]; exact iteF (h1 h)
  · rw [decide_eq_false h]; exact iteT (h2 h)
theorem k_yes {c : Bool} {A B : Prop} (e : c = true) (h : A) : if c = true then A else B := by rw [e]; exact iteT h
theorem k_no {c : Bool} {A B : Prop} (e : c = false) (h : B) : if c = true then A else B := by rw [e]; exact iteF h
theorem k_bool {c : Bool} {A B : Prop} (h1 : c = true → A) (h2 : c = false → B) : if c = true then A else B := by cases c; exact iteF (h2 rfl); exact iteT (h1 rfl)
end
section
variable {K : PySem.W.Frag} {σ : L2.St} {H : Hp} {D : Ends} {Q : VK}
theorem k_par3 {i j l : Nat} {ta : TA} (h : ta σ H fun vs H1 => ∃ u v w, vs = [u, v, w] ∧ D.nx (((σ.set i (some u)).set j (some v)).set l (some w)) H1) : tPar3 i j l ta D σ H := h
theorem k_three {p : V → V → V → Prop} {a b c : V} (h : p a b c) : ∃ u v w, [a, b, c] = [u, v, w] ∧ p u v w := ⟨a, b, c, rfl, h⟩
theorem k_neD {x y : V} {d e : PyData} (h1 : Dp K H x d) (h2 : Dp K H y e) (s1 : SeqAt.shaped d = true) (s2 : SeqAt.shaped e = true) (q : Q (.bl (!PyData.eqv d e)) H) : rNeD K x y H Q := ⟨d, e, h1, h2, s1, s2, q⟩
theorem k_eqD {x y : V} {d e : PyData} (h1 : Dp K H x d) (h2 : Dp K H y e) (s1 : SeqAt.shaped d = true) (s2 : SeqAt.shaped e = true) (q : Q (.bl (PyData.eqv d e)) H) : rEqD K x y H Q := ⟨d, e, h1, h2, s1, s2, q⟩
theorem k_lenS {z : Str} {R : Int → Prop} (h : z.length ≤ sizeLine) (q : R z.length) : ∃ y : Str, [V.str z] = [V.str y] ∧ y.length ≤ sizeLine ∧ R y.length := ⟨z, rfl, h, q⟩
end
local macro_rules | `(tactic| walk_at "st") => `(tactic| first
  | ((with_reducible show tVar _ _ _ _); refine k_var rfl ?_)
  | (with_reducible first
    | refine k_c ?_ | refine k_op ?_ | refine k_I0 ?_ | refine k_seq ?_ | refine k_asg ?_ | refine k_name ?_ | refine k_cons ?_ | refine k_nil ?_ | refine k_cb ?_
    | refine k_ret ?_ | refine k_ifS ?_ | refine k_test ?_ | refine k_tB ?_ | refine k_bl ?_ | refine k_call ?_ | refine k_make ?_ | refine k_par3 ?_ | refine k_three ?_ | refine k_ipI ?_ | refine k_din ?_ | refine k_dnotin ?_ | refine k_dput ?_ | refine k_prop ?_ | refine k_itup ?_ | refine k_ilst ?_ | refine k_bm0 ?_ | refine k_dc ?_ | refine k_prs ?_ | refine k_prn ?_ | refine k_lc ?_ | refine k_yesT ?_ | refine k_str ?_ | refine k_disp ?_ | refine k_for ?_ | refine k_rng1 ?_ | refine k_drop ?_ | refine k_next ?_ | refine k_sub ?_ | refine k_un ?_ | refine k_U ?_
    | refine k_par ?_ | refine k_two ?_ | refine k_and ?_ | refine k_or ?_ | refine k_not ?_ | refine k_andV ?_ | refine k_orV ?_ | refine k_notV ?_ | refine k_ifE ?_ | refine k_isN ?_ | refine k_notN ?_
    | refine k_gn ?_ | refine k_gc ?_ | refine k_tup ?_ | refine k_lst ?_ | refine k_bm ?_ | refine k_dget ?_ | refine k_fld ?_ | refine k_sl ?_ | refine k_noPart ?_ | refine k_part ?_ | refine k_int ?_
    | refine k_int1 ?_ | refine k_retN ?_ | refine k_cont ?_ | refine k_break ?_)
  | ((with_reducible show rIxL _ _ _ _ _); refine k_ixL (SqL.of (by first | assumption | exact upd_same)) rfl ?_)
  | ((with_reducible show rSetL _ _ _ _ _); refine k_setL (by first | assumption | exact upd_same) rfl ?_)
  | ((with_reducible show tAug _ _ _ _ _ _); refine k_aug rfl ?_)
  | ((with_reducible show rEq _ _ _ _); refine k_eq rfl ?_)
  | ((with_reducible show rNe _ _ _ _); refine k_ne rfl ?_))
local macro_rules | `(tactic| walk_at "go") => `(tactic| repeat (walk_at "st"))
local macro_rules | `(tactic| walk_at "begin") => `(tactic| ((try dsimp only [cxOf]); simp only [L2.start, List.map_cons, List.map_nil, List.length_cons, List.length_nil, Nat.reduceAdd, Nat.reduceSub, List.replicate_succ, List.replicate_zero, List.cons_append, List.nil_append]))
/-! ### a draw: any number below the most -/
def sp_taken (K : PySem.W.Frag) : Sp := fun vs H Q _ => ∃ (a : Addr) (m : Int), vs = [.ref a, .int m] ∧ 0 < m ∧ m.natAbs < 2 ^ 8000 ∧ RowOk K H a ∧
  ∀ (x : Int) (H' : Hp), 0 ≤ x → x < m → RowOk K H' a → Keep a H H' → Q (.int x) H'
section
variable {P : Program} {w : World} {K : PySem.W.Frag} {mg : Str → Option Value} {base : Heap}
theorem ok_law_taken (T : Txt K mg) : FnOk P w K mg base (L2.CX P w) 1 T.a_law_taken T.fd_law_taken ["_law_row", "_law_many"] (sp_taken K) := by
  refine T.F_law_taken.okX sc_law_taken (fun vs H Q E h => ?_) (fun cdv A outer s H vs Q E hr h => ?_)
  · obtain ⟨a, m, rfl, _⟩ := h
    rfl
  · obtain ⟨a, m, rfl, m0, mb, ⟨sc, ns, i, z, r, ea, hs, hn, i0, z0, z1⟩, k⟩ := h
    refine ⟨_, (PSs.nox (pss_cons (ps_if (pt_cmpR op_gt (pe_ix ix_list (pv 0) pe_int (fun _ _ => rfl)) pe_int (nomark _))
  (pss_cons (ps_set (i := 2) sc_law_taken.nd rfl (Or.inl rfl) (pe_op op_mod (pe_callTy call_int1 (by rfl) T.z_int PySem.Pv.boot_int (pa_cons (pe_ix ix_list (pv 0) pe_int (fun _ _ => rfl)) pa_nil)) (pv 1)))
  (pss_cons (ps_asg (pe_op op_fdivW (pe_ix ix_list (pv 0) pe_int (fun _ _ => rfl)) (pv 1)) (pg_sub (pv 0) pe_int set_list))
  (pss_one (ps_ret (pv 2)))))
  pss_nil)
  (pss_cons (ps_asg (pe_op op_add (pe_ix ix_list (pv 0) pe_int (fun _ _ => rfl)) pe_int) (pg_sub (pv 0) pe_int set_list))
  (pss_cons (ps_if (pt_cmpR op_gt (pe_ix ix_list (pv 0) pe_int (fun _ _ => rfl)) (pe_callB call_len_seq (by rfl) T.z_len PySem.boot_len (pa_cons (pe_ix ix_list (pv 0) pe_int (fun _ _ => rfl)) pa_nil)) (nomark _))
  (pss_cons (ps_asg (pe_op op_mod (pe_callTy call_int1 (by rfl) T.z_int PySem.Pv.boot_int (pa_cons (pe_op op_add (pe_op op_mulW (pe_ix ix_list (pv 0) pe_int (fun _ _ => rfl)) pe_int) pe_int) pa_nil)) pe_int) (pg_sub (pv 0) pe_int set_list))
  (pss_one (ps_ret (pe_op op_mod (pe_callTy call_int1 (by rfl) T.z_int PySem.Pv.boot_int (pa_cons (pe_op op_fdivW (pe_ix ix_list (pv 0) pe_int (fun _ _ => rfl)) pe_int) pa_nil)) (pv 1)))))
  pss_nil)
  (pss_cons (ps_set (i := 3) sc_law_taken.nd rfl (Or.inl rfl) (pe_ix ix_list (pe_ix ix_list (pv 0) pe_int (fun _ _ => rfl)) (pe_op op_sub (pe_ix ix_list (pv 0) pe_int (fun _ _ => rfl)) pe_int) (fun _ _ => rfl)))
  (pss_cons (ps_asg (pe_op op_mod (pe_callTy call_int1 (by rfl) T.z_int PySem.Pv.boot_int (pa_cons (pe_op op_add (pe_op op_add (pe_op op_mulW (pe_ix ix_list (pv 0) pe_int (fun _ _ => rfl)) pe_int) (pv 3)) pe_int) pa_nil)) pe_int) (pg_sub (pv 0) pe_int set_list))
  (pss_cons (ps_if (pt_cmpR op_ge (pv 3) (pe_op op_pow pe_int pe_int) (nomark _))
  (pss_one (ps_asg (pe_op op_fdivW (pv 3) (pv 1)) (pg_sub (pv 0) pe_int set_list)))
  pss_nil)
  (pss_one (ps_ret (pe_op op_mod (pe_callTy call_int1 (by rfl) T.z_int PySem.Pv.boot_int (pa_cons (pv 3) pa_nil)) (pv 1))))))))))), ?_⟩
    walk_at "begin"
    walk_at "go"
    have CD : CDivW r m := wide_div m0 mb (by decide) (by decide)
    have CZ : CMulW z 48271 := wide_mul (a := 31) (b := 16) (by omega) (by decide) (by decide) (by decide) (by decide)
    refine k_ite (fun c => ?_) (fun c => ?_)
    · walk_at "go"
      refine k_I m0 ?_
      walk_at "go"
      refine k_I CD ?_
      walk_at "go"
      exact k _ _ (Int.emod_nonneg _ (by omega)) (Int.emod_lt_of_pos _ m0) ⟨sc, ns, i, z, r / m, upd_same, hs.keep Keep.at_ ea, hn, i0, z0, z1⟩ Keep.at_
    · walk_at "go"
      have K1 : Keep a H (upd H a (HO.lst ([V.ref sc, V.int i, V.int z, V.int r].set (Int.toNat 1) (V.int (i + 1))))) := Keep.at_
      refine k_len (.inl (hs.keep K1 ea).sq) ?_
      walk_at "go"
      have zn : ∀ q : Int, 0 ≤ q % 2147483647 ∧ q % 2147483647 < 2147483647 := fun q => ⟨Int.emod_nonneg _ (by decide), Int.emod_lt_of_pos _ (by decide)⟩
      have mn : ∀ q : Int, 0 ≤ q % m ∧ q % m < m := fun q => ⟨Int.emod_nonneg _ (by omega), Int.emod_lt_of_pos _ m0⟩
      refine k_ite (fun c1 => ?_) (fun c1 => ?_)
      · walk_at "go"
        refine k_I CZ ?_
        walk_at "go"
        refine k_I (by decide) ?_
        walk_at "go"
        refine k_I (wide_div (b := 3) (by decide) (by decide) (by decide) (by decide)) ?_
        walk_at "go"
        refine k_I m0 ?_
        exact k _ _ (mn _).1 (mn _).2 ⟨sc, ns, i + 1, _, r, upd_same, (hs.keep K1 ea).keep Keep.at_ upd_same, hn, by omega, (zn _).1, (zn _).2⟩ (K1.trans Keep.at_)
      · walk_at "go"
        rw [List.length_map] at c1
        have hl : (i + 1 - 1).toNat < ns.length := by omega
        refine k_ixL (hs.keep K1 ea).sq (v := V.int (ns[(i + 1 - 1).toNat]'hl)) (at_of (j := (i + 1 - 1).toNat) (by omega) (by rw [List.getElem?_map, List.getElem?_eq_getElem hl]; rfl)) ?_
        generalize ns[(i + 1 - 1).toNat]'hl = cell
        walk_at "go"
        refine k_I CZ ?_
        walk_at "go"
        refine k_I (by decide) ?_
        walk_at "go"
        refine k_I (by exact ⟨by decide, by decide, by decide⟩) ?_
        walk_at "go"
        refine k_ite (fun c2 => ?_) (fun c2 => ?_)
        · walk_at "go"
          refine k_I (wide_div m0 mb (by decide) (by decide)) ?_
          walk_at "go"
          refine k_I m0 ?_
          exact k _ _ (mn _).1 (mn _).2 ⟨sc, ns, i + 1, _, _, upd_same, ((hs.keep K1 ea).keep Keep.at_ upd_same).keep Keep.at_ upd_same, hn, by omega, (zn _).1, (zn _).2⟩ ((K1.trans Keep.at_).trans Keep.at_)
        · walk_at "go"
          refine k_I m0 ?_
          exact k _ _ (mn _).1 (mn _).2 ⟨sc, ns, i + 1, _, _, upd_same, (hs.keep K1 ea).keep Keep.at_ upd_same, hn, by omega, (zn _).1, (zn _).2⟩ (K1.trans Keep.at_)
end
/-! ### enumerate over a tuple -/
section
open Builtin
theorem meets_enumT (t : Addr) (its : Array Value) : Meets (Builtin.«enumerate.__new__» ⟨[.type "enumerate", .ref t], []⟩) (fun _ R st => st.heap.IsTuple t its ∧
    R (.ok (.ret (.ref (st.heap.objs.size + 1)))) { st with heap := (st.heap.push { cls := .type "tuple_iterator", data := .fields #[.ref t, .int 0 0] }).push { cls := .type "enumerate", data := .fields #[.none, .bool false, .ref st.heap.objs.size, rawInt 0, .none, .none] } }) := by
  refine Meets.of_wp fun prog w A R st hh => ?_
  rcases st with ⟨h0, g0, d0, t0, o0⟩
  obtain ⟨isT, q⟩ := hh
  have sub := sub_enumerate
  have L : Heap.IsTuple (Shared.heap ⟨h0, g0, d0, t0, o0⟩) t its := isT
  obtain ⟨ob, e0, c0, n0, dt0⟩ := L
  have z : (Heap.push h0 { cls := .type "tuple_iterator", data := .fields #[.ref t, .int 0 0] }).objs.size = h0.objs.size + 1 := Heap.size_push ..
  have q' := q
  rw [← z] at q'
  wp_walk using PySem.wpAny_pyIter_tuple isT
  refine wpAny_stack_any fun fr => wpAny_pure ?_
  split
  · rename_i cc _ _ _ _ _
    cases (cc == Value.type "enumerate")
    · wp_walk using PySem.wpAny_pyIter_tuple isT
      exact ⟨_, rfl, q'⟩
    · wp_walk using PySem.wpAny_pyIter_tuple isT
      exact ⟨_, rfl, q'⟩
  · wp_walk using PySem.wpAny_pyIter_tuple isT
    exact ⟨_, rfl, q'⟩
end
section
variable {prog : Program} {w : World} {A : Around} {E : Value → Shared → Prop} {s : Shared}
theorem call_enumT {t : Addr} {its : Array Value} {Q : Value → Shared → Prop} (isT : s.heap.IsTuple t its)
    (k : ∀ h', IsEnum h' (s.heap.objs.size + 1) s.heap.objs.size 0 .none → h'.IsTupleIter s.heap.objs.size t 0 → (∀ b o, s.heap.get? b = some o → h'.get? b = some o) →
      Q (.ref (s.heap.objs.size + 1)) { s with heap := h' }) : wpAny (model prog w) A (call (.type "enumerate") [.ref t]) Q E s := by
  have m := meets_enumT t its
  refine callType_new F.called_enumerate (by decide) (F.typeCall_enumerate_1 _) (F.newCall_enumerate_1 _) (fun o => F.args_object_init_2 o _) F.entry_enumerate_new m ⟨isT, ?_⟩
  have z : (Heap.push s.heap { cls := .type "tuple_iterator", data := .fields #[.ref t, .int 0 0] }).objs.size = s.heap.objs.size + 1 := Heap.size_push ..
  have g := Heap.get?_push_size (Heap.push s.heap { cls := .type "tuple_iterator", data := .fields #[.ref t, .int 0 0] })
    (o := { cls := .type "enumerate", data := .fields #[.none, .bool false, .ref s.heap.objs.size, rawInt 0, .none, .none] }) rfl
  rw [z] at g
  exact ⟨⟨_, g, rfl⟩, k _ g ⟨_, Heap.get?_push_of_some _ (Heap.get?_push_size _ rfl), rfl, rfl⟩ fun b o x => Heap.get?_push_of_some _ (Heap.get?_push_of_some _ x)⟩
end
/-- the i-th pair is new: its place and the tuple's item -/
def Iet (K : PySem.W.Frag) (a : Addr) : It :=
  ⟨fun i H => ∃ (xs : List V) (x : V), SqT K H a xs ∧ xs[i]? = some x,
   fun i H v H' => ∃ p x, v = .ref p ∧ H p = none ∧ H' = upd H p (.tup [.int (i : Nat), x]) ∧ ∀ xs, SqT K H a xs → xs[i]? = some x,
   fun i H => ∃ xs : List V, SqT K H a xs ∧ xs.length ≤ i⟩
theorem turn_enumT {P : Program} {w : World} {K : PySem.W.Frag} {es : List Expr} {c : Nat} {tp : Pos} (a e it : Addr) :
    Turn P w K (.Tuple es c tp) (Iet K a) [e, it] e (fun i h => (∃ old, IsEnum h e it ((i : Nat) : Int) old) ∧ h.IsTupleIter it a i ∧ e ≠ it) := by
  have two : ∀ b, b ∈ [e, it] → b = e ∨ b = it := fun b hb => by simpa using hb
  constructor
  case mem => simp
  case obj =>
    rintro i h ⟨⟨old, he⟩, ⟨o, ho, hc, hd⟩, _⟩ b hb
    rcases two b hb with rfl | rfl
    · exact ⟨_, he, fun v q => nomatch q⟩
    · exact ⟨o, ho, fun v q => by rw [hd] at q; cases q⟩
  case keep =>
    rintro i h h' ⟨⟨old, he⟩, hi, ne⟩ k
    exact ⟨⟨old, k e (by simp) _ he⟩, hi.at fun o q => k it (by simp) o q, ne⟩
  case item =>
    rintro X rfl rfl rfl hC i pins s σ H E I hf ⟨⟨old, he⟩, hit, ne⟩ ⟨xs, x, hq, hx⟩
    obtain ⟨its, rv, p, hz⟩ := I.tuple hq
    obtain ⟨u, hu, ru⟩ := rv.get hx
    have le : e < s.heap.objs.size := Heap.lt_size he
    have li : it < s.heap.objs.size := by obtain ⟨_, q, _⟩ := hit; exact Heap.lt_size q
    have pt : s.heap.IsTuple a its.toArray := p
    have na : a ≠ it := fun z => by
      obtain ⟨o1, q1, c1, _⟩ := hit
      obtain ⟨o2, q2, c2, _⟩ := pt
      rw [z, q1] at q2
      cases q2
      rw [c1] at c2
      exact absurd c2 (by simp)
    have nb : e ≠ a := fun z => by
      obtain ⟨o2, q2, c2, _⟩ := pt
      have q3 : s.heap.get? e = _ := he
      rw [z, q2] at q3
      cases q3
      exact absurd c2 (by simp)
    have Dr := Draws.tuple (prog := X.prog) (w := X.w) (A := X.A.in1) (I.ok.hd hC) it a na its.toArray
    refine wpAny_pyNext_enum_itemD (i := i) Dr he ⟨hit, pt⟩ (by simpa using (List.getElem?_eq_some_iff.mp hu).1) ne (by simp [ne, nb]) fun x' h' tk px ho st hT hsz hk => ?_
    have ex : x' = u := by
      have q : its.toArray[i]? = some x' := px
      rw [List.getElem?_toArray, hu] at q
      exact (Option.some.inj q).symm
    subst ex
    refine ⟨_, rfl, wpAny_letOwnedTupleGo_enum (s := { s with heap := h', toks := tk + 1 }) ho fun h2 he2 sb => ?_⟩
    have hT2 : h2.get? s.heap.objs.size = some { cls := .type "tuple", data := .seq #[.int i tk, x'] } := (sb.2 _ (Nat.ne_of_gt le)).trans hT
    have new : ObjOk X.prog X.w (upd H s.heap.objs.size (.tup [.int (i : Nat), x])) h2 s.heap.objs.size (.tup [.int (i : Nat), x]) :=
      ⟨(by decide : 2 ≤ sizeLine), [.int i tk, x'], .cons ⟨_, rfl⟩ (.cons ru .nil), ⟨_, hT2, rfl, _, rfl⟩⟩
    have I1 : Inv X pins σ (upd H s.heap.objs.size (.tup [.int (i : Nat), x])) { s with heap := h2, toks := tk + 1 } :=
      I.turnedNew (ch := [e, it]) (fun b ob hb q => (sb.2 b (fun z => hb (by simp [z]))).trans (hk b ob (fun z => hb (by simp [z])) (fun z => hb (by simp [z])) q)) hf (Nat.le_refl _) new
    refine ⟨.ref s.heap.objs.size, _, I1, rfl, ⟨_, x, rfl, I.hok.fresh (Nat.le_refl _), rfl, fun ys hy => ?_⟩, ⟨⟨x', ?_⟩, ?_, ne⟩, fun b hb => ?_⟩
    · rw [I.tuple_inj hy hq]; exact hx
    · have e1 : ((i + 1 : Nat) : Int) = (i : Int) + 1 := by omega
      rw [e1]; exact he2
    · exact st.1.at fun o q => (sb.2 it (Ne.symm ne)).trans q
    · have lb : b < s.heap.objs.size := by rcases two b hb with rfl | rfl <;> assumption
      rw [upd_ne (Nat.ne_of_lt lb)]
      exact (hf b hb).1
  case done =>
    rintro X rfl rfl rfl hC i pins s σ H E I hf ⟨⟨old, he⟩, hit, ne⟩ ⟨xs, hq, hx⟩
    obtain ⟨its, rv, p, hz⟩ := I.tuple hq
    have pt : s.heap.IsTuple a its.toArray := p
    have na : a ≠ it := fun z => by
      obtain ⟨o1, q1, c1, _⟩ := hit
      obtain ⟨o2, q2, c2, _⟩ := pt
      rw [z, q1] at q2
      cases q2
      rw [c1] at c2
      exact absurd c2 (by simp)
    have out : its.toArray[i]? = none := by
      have hl := rv.length
      rw [List.getElem?_toArray]
      exact List.getElem?_eq_none (by omega)
    have Dr : Draws X.prog X.w X.A.in1 it [it, a] i (fun _ _ => True) (fun j h => j = i ∧ h.IsTupleIter it a j ∧ h.IsTuple a its.toArray) :=
      { live := fun j h st => by obtain ⟨_, ⟨o, ho, _⟩, _⟩ := st; exact ⟨o, ho⟩
        frame := fun j h h' st hk => ⟨st.1, st.2.1.at fun o e => hk it (by simp) o e, st.2.2.at fun o e => hk a (by simp) o e⟩
        item := fun j s Q E hj st hQ => absurd st.1 (Nat.ne_of_lt hj)
        done := fun s Q E st hE => wpAny_nextOf_tuple_end (A := X.A.in1) (I.ok.hd hC) st.2.1 st.2.2 out hE }
    obtain ⟨f0, f1, f2, f3, f4, f5⟩ := hf it (by simp)
    exact wpAny_pyNext_enum_endD Dr he ⟨rfl, hit, pt⟩ fun h' eb => ⟨rfl, I.turned (t' := s.toks) (fun b o hb q => eb b o hb q) f0 f1 f3 f4 f5⟩
  case self =>
    rintro A i s Q E ⟨⟨_, he⟩, _⟩ h
    exact wpAny_pyIter_enum he h
def iEnumT (K : PySem.W.Frag) (ta : TA) : TI := fun σ H R => ta σ H fun vs H1 => ∃ a xs, vs = [.ref a] ∧ SqT K H1 a xs ∧ R (Iet K a) H1
theorem pi_enumT {X : Cx} {e : Expr} {ta : TA} {p pos tpos : Pos} {es : List Expr} {c : Nat} (hg : Gl X "enumerate") (hm : X.mg "enumerate" = none) (ha : PA X [e] ta)
    (hs : starEach [e] X.env = [(false, eval e X.env)] := by rfl) : PI X (.Tuple es c tpos) (.Call (.Name "enumerate" p) [e] [] pos) (iEnumT X.K ta) := by
  constructor
  intro pins s σ H R I h
  refine PyProof.Rows.Call_ (ld_blt I hg hm (show bootBuiltins "enumerate" = some (.type "enumerate") by decide +kernel) (PyProof.Rows.callWith_type1 (thn (ha.run pos pins s σ H _ I h) ?_) hs rfl))
  rintro us s1 ⟨vs, H1, I1, r1, a, xs, rfl, hq, q⟩
  obtain ⟨u, rfl, ru⟩ := vals1 r1
  cases ru
  obtain ⟨its, rv, p', hz⟩ := I1.tuple hq
  have pt : s1.heap.IsTuple a its.toArray := p'
  refine call_enumT pt fun h' he hit hk => wpAny_pyIter_enum he ?_
  have I2 : Inv X pins σ H1 { s1 with heap := h' } := I1.kept (t' := s1.toks) hk
  refine ⟨s1.heap.objs.size + 1, [s1.heap.objs.size + 1, s1.heap.objs.size], _, _, H1, rfl, I2, turn_enumT a (s1.heap.objs.size + 1) s1.heap.objs.size, ⟨⟨.none, he⟩, hit, Nat.succ_ne_self _⟩, fun b hb => ?_, q⟩
  have lb : s1.heap.objs.size ≤ b := by
    have two : b = s1.heap.objs.size + 1 ∨ b = s1.heap.objs.size := by simpa using hb
    rcases two with rfl | rfl
    · exact Nat.le_succ _
    · exact Nat.le_refl _
  exact I1.fpOk lb (I1.hok.fresh lb)
/-- over a tuple that stands still, the place and the item in a new pair -/
theorem for_enumT {K : PySem.W.Frag} {a : Addr} {xs : List V} {g : TG} {tb : TS} {D : Ends} {σ : L2.St} {H : Hp} (Pv : Nat → L2.St → Hp → Prop) (h0 : Pv 0 σ H) (hl : ∀ i σ H, i ≤ xs.length → Pv i σ H → SqT K H a xs)
    (hs : ∀ i x p σ H, xs[i]? = some x → Pv i σ H → H p = none → g (.ref p) σ (upd H p (.tup [.int (i : Nat), x])) fun σ2 H2 => tb { D with nx := Pv (i + 1), ct := Pv (i + 1), bk := D.nx } σ2 H2) (hd : ∀ σ H, Pv xs.length σ H → D.nx σ H) :
    ∃ W : Nat → Nat → L2.St → Hp → Prop, (∃ m, W 0 m σ H) ∧ ∀ i m σ H, W i m σ H → ((Iet K a).stop i H ∧ D.nx σ H) ∨
      ((Iet K a).go i H ∧ ∃ N : L2.St → Hp → Prop, (∀ σ' H', N σ' H' → ∃ m', m' < m ∧ W (i + 1) m' σ' H') ∧ ∀ x H', (Iet K a).yld i H x H' → g x σ H' fun σ2 H2 => tb { D with nx := N, ct := N, bk := D.nx } σ2 H2) := by
  refine ⟨fun i m σ H => m + i = xs.length ∧ Pv i σ H, ⟨xs.length, by simp, h0⟩, fun i m σ H ⟨em, hP⟩ => ?_⟩
  have sq := hl i σ H (by omega) hP
  by_cases c : i < xs.length
  · refine .inr ⟨⟨xs, xs[i], sq, List.getElem?_eq_getElem c⟩, Pv (i + 1), fun σ' H' z => ⟨m - 1, by omega, by omega, z⟩, ?_⟩
    rintro v H' ⟨p, x, rfl, hp, rfl, hx⟩
    exact hs i x p σ H (hx xs sq) hP hp
  · have e : i = xs.length := by omega
    exact .inl ⟨⟨xs, sq, by omega⟩, hd σ H (e ▸ hP)⟩
/-! ### machines as data -/
structure Stp where
  b : Nat
  c : Nat
  e : Nat
  g : Int
structure MD where
  n : Nat
  ss : List Stp
  es : List Nat
def stpV (s : Stp) : List V := [.int (s.b : Nat), .str ⟨#[s.c]⟩, .int (s.e : Nat), .int s.g]
structure Stp.Ok (n : Nat) (s : Stp) : Prop where
  b : s.b < n
  c : 97 ≤ s.c
  c' : s.c ≤ 100
  e : s.e < n
  g : -(10 ^ 30) ≤ s.g
  g' : s.g ≤ 10 ^ 30
def Stp.lt (s t : Stp) : Prop := s.b < t.b ∨ (s.b = t.b ∧ s.c < t.c)
structure MD.Ok (m : MD) : Prop where
  n1 : 1 ≤ m.n
  n8 : m.n ≤ 8
  ok : ∀ s ∈ m.ss, s.Ok m.n
  up : m.ss.Pairwise Stp.lt
  len : m.ss.length ≤ 32
  eb : ∀ e ∈ m.es, e < m.n
  eu : m.es.Pairwise (· < ·)
  el : m.es.length ≤ 8
/-- steps alone, whatever the number of stands -/
structure StOk (N : Nat) (s : Stp) : Prop where
  b : s.b < N
  c : 97 ≤ s.c
  c' : s.c ≤ 100
  e : s.e < N
  g : -(10 ^ 32) ≤ s.g
  g' : s.g ≤ 10 ^ 32
structure SsOk (N : Nat) (ss : List Stp) : Prop where
  n1 : 1 ≤ N
  n64 : N ≤ 63
  ok : ∀ s ∈ ss, StOk N s
  len : ss.length ≤ 300
theorem MD.Ok.sok {m : MD} (o : m.Ok) : SsOk m.n m.ss := ⟨o.n1, by have := o.n8; omega, fun s h => let k := o.ok s h; ⟨k.b, k.c, k.c', k.e, by have := k.g; omega, by have := k.g'; omega⟩, by have := o.len; omega⟩
/-- the steps' tuples -/
def StpsAt (K : PySem.W.Frag) (H : Hp) (vs : List V) (ss : List Stp) : Prop := vs.length = ss.length ∧ ∀ (i : Nat) (s : Stp), ss[i]? = some s → ∃ p, vs[i]? = some (V.ref p) ∧ SqT K H p (stpV s)
def nats (es : List Nat) : List V := es.map fun e => V.int (e : Nat)
def StAt (K : PySem.W.Frag) (H : Hp) (t : Addr) (ss : List Stp) : Prop := ∃ us, SqT K H t us ∧ StpsAt K H us ss
/-- steps and ends as they stand -/
def PartsAt (K : PySem.W.Frag) (H : Hp) (t u : Addr) (m : MD) : Prop := (∃ vs, SqT K H t vs ∧ StpsAt K H vs m.ss) ∧ SqT K H u (nats m.es)
def DAt (K : PySem.W.Frag) (H : Hp) (d : Addr) (m : MD) : Prop := ∃ t u, H d = some (.dK [(.inr "stands", .int (m.n : Nat)), (.inr "steps", .ref t), (.inr "ends", .ref u)]) ∧ PartsAt K H t u m
def mfs (n : Nat) (t u : Addr) : List (Str × V) := [("_stands", .int (n : Nat)), ("_steps", .ref t), ("_ends", .ref u)]
def MAt (K : PySem.W.Frag) (C : Addr) (H : Hp) (x : Addr) (m : MD) : Prop := ∃ dx t u, H x = some (.ins C dx (mfs m.n t u)) ∧ PartsAt K H t u m
section
variable {K : PySem.W.Frag} {a : Addr} {H H' : Hp}
/-- tuples stay -/
def Tups (H H' : Hp) : Prop := (∀ b xs, H b = some (.tup xs) → H' b = some (.tup xs)) ∧ ∀ b o xs, H b = some (.frz o (.tup xs)) → H' b = some (.frz o (.tup xs))
theorem Tups.trans {H H1 H2 : Hp} (a : Tups H H1) (b : Tups H1 H2) : Tups H H2 := ⟨fun c xs e => b.1 c xs (a.1 c xs e), fun c o xs e => b.2 c o xs (a.2 c o xs e)⟩
theorem Tups.sq {p : Addr} {xs : List V} (k : Tups H H') (h : SqT K H p xs) : SqT K H' p xs := by
  rcases h with (h | ⟨o, h⟩) | h
  · exact .inl (.inl (k.1 _ _ h))
  · exact .inl (.inr ⟨o, k.2 _ _ _ h⟩)
  · exact .inr h
theorem Tups.steps {vs : List V} {ss : List Stp} (k : Tups H H') (h : StpsAt K H vs ss) : StpsAt K H' vs ss := ⟨h.1, fun i s e => let ⟨p, e1, q⟩ := h.2 i s e; ⟨p, e1, k.sq q⟩⟩
theorem Tups.stAt {t : Addr} {ss : List Stp} (k : Tups H H') (h : StAt K H t ss) : StAt K H' t ss := let ⟨us, q, z⟩ := h; ⟨us, k.sq q, k.steps z⟩
theorem Tups.parts {t u : Addr} {m : MD} (k : Tups H H') (h : PartsAt K H t u m) : PartsAt K H' t u m := let ⟨⟨vs, q, z⟩, r⟩ := h; ⟨⟨vs, k.sq q, k.steps z⟩, k.sq r⟩
theorem same_tups (k : Same H H') : Tups H H' := ⟨fun _ _ e => k _ _ e, fun _ _ _ e => k _ _ e⟩
theorem Keep.tups {l : List V} (k : Keep a H H') (ha : H a = some (.lst l)) : Tups H H' := ⟨fun b _ e => k _ _ (fun z => by rw [z, ha] at e; cases e) e, fun b _ _ e => k _ _ (fun z => by rw [z, ha] at e; cases e) e⟩
theorem Tups.new {p : Addr} {o : HO} (h : H p = none) : Tups H (upd H p o) := same_tups (Same.new h)
theorem Tups.lst {p : Addr} {xs : List V} {o : HO} (h : H p = some (.lst xs)) : Tups H (upd H p o) := Keep.tups (Keep.at_) h
theorem DAt.keep {d : Addr} {m : MD} {l : List V} (h : DAt K H d m) (k : Keep a H H') (ha : H a = some (.lst l)) : DAt K H' d m :=
  let ⟨t, u, e, q⟩ := h; ⟨t, u, k _ _ (fun z => by rw [z, ha] at e; cases e) e, (k.tups ha).parts q⟩
theorem MAt.keep {C x : Addr} {m : MD} {l : List V} (h : MAt K C H x m) (k : Keep a H H') (ha : H a = some (.lst l)) : MAt K C H' x m :=
  let ⟨dx, t, u, e, q⟩ := h; ⟨dx, t, u, k _ _ (fun z => by rw [z, ha] at e; cases e) e, (k.tups ha).parts q⟩
theorem DAt.same {d : Addr} {m : MD} (h : DAt K H d m) (k : Same H H') : DAt K H' d m := let ⟨t, u, e, q⟩ := h; ⟨t, u, k _ _ e, (same_tups k).parts q⟩
theorem MAt.same {C x : Addr} {m : MD} (h : MAt K C H x m) (k : Same H H') : MAt K C H' x m := let ⟨dx, t, u, e, q⟩ := h; ⟨dx, t, u, k _ _ e, (same_tups k).parts q⟩
theorem StpsAt.snoc {vs : List V} {ss : List Stp} {p : Addr} {s : Stp} (h : StpsAt K H vs ss) (q : SqT K H p (stpV s)) : StpsAt K H (vs ++ [V.ref p]) (ss ++ [s]) := by
  refine ⟨by rw [List.length_append, List.length_append, h.1]; rfl, fun i t e => ?_⟩
  by_cases c : i < ss.length
  · rw [List.getElem?_append_left c] at e
    obtain ⟨r, e1, q1⟩ := h.2 i t e
    exact ⟨r, by rw [List.getElem?_append_left (by rw [h.1]; exact c)]; exact e1, q1⟩
  · rw [List.getElem?_append_right (by omega)] at e
    have z : i - ss.length = 0 := by
      have := (List.getElem?_eq_some_iff.mp e).1
      simp at this
      omega
    rw [z] at e
    cases e
    exact ⟨p, by rw [List.getElem?_append_right (by rw [h.1]; omega), h.1, z]; rfl, q⟩
end
/-! ### what a machine checks -/
def NotInt (K : PySem.W.Frag) (H : Hp) (v : V) : Prop := (∃ b, v = .bl b) ∨ ∃ t, TyX K H v t ∧ PySem.W.kitOne K t (.type "int") = some false
theorem k_isi {K : PySem.W.Frag} {H : Hp} {Q : VK} {x c : V} {t u : Value} {b : Bool} (hc : ClsV c u) (ht : TyX K H x t) (hk : PySem.W.kitOne K t u = some b) (h : Q (.bl b) H) : rIsi K [x, c] H Q := ⟨x, c, t, u, b, rfl, hc, ht, hk, h⟩
theorem k_chain {r r' : R2} {ta tb tc : TE} {σ : L2.St} {H : Hp} {Q : VK} (h : ta σ H fun x H1 => tb σ H1 fun y H2 => r x y H2 fun z H3 => ∃ k, z = .bl k ∧
  (if k = true then tc σ H3 fun w' H4 => r' y w' H4 Q else Q (.bl false) H3)) : tChain r r' ta tb tc σ H Q := h
def sp_whole (K : PySem.W.Frag) : Sp := fun vs H Q _ => ∃ v : V, vs = [v] ∧ ((∃ i, v = .int i ∧ Q (.bl true) H) ∨ (NotInt K H v ∧ Q (.bl false) H))
def sp_between (K : PySem.W.Frag) : Sp := fun vs H Q _ => ∃ (v : V) (lo hi : Int), vs = [v, .int lo, .int hi] ∧ ((∃ i, v = .int i ∧ Q (.bl (decide (lo ≤ i ∧ i ≤ hi))) H) ∨ (NotInt K H v ∧ Q (.bl false) H))
def sp_is_stand (K : PySem.W.Frag) : Sp := fun vs H Q _ => ∃ (v : V) (n : Int), vs = [.int n, v] ∧ ((∃ i, v = .int i ∧ Q (.bl (decide (0 ≤ i ∧ i < n))) H) ∨ (NotInt K H v ∧ Q (.bl false) H))
def sp_check_stands (K : PySem.W.Frag) : Sp := fun vs H Q _ => ∃ n : Int, vs = [.int n] ∧ 1 ≤ n ∧ n ≤ 8 ∧ Q .non H
section
variable {P : Program} {w : World} {K : PySem.W.Frag} {mg : Str → Option Value} {base : Heap}
theorem ok_is_whole_number (T : Txt K mg) : FnOk P w K mg base (L2.CX P w) 1 T.a_is_whole_number T.fd_is_whole_number ["value"] (sp_whole K) := by
  refine T.F_is_whole_number.okX sc_is_whole_number (fun vs H Q E h => ?_) (fun cdv A outer s H vs Q E hr h => ?_)
  · obtain ⟨v, rfl, _⟩ := h
    rfl
  · obtain ⟨v, rfl, k⟩ := h
    refine ⟨_, (PSs.nox (pss_one (ps_ret (pe_and (pe_callB call_isi (by rfl) T.z_isinstance (by decide +kernel) (pa_cons (pv 0) (pa_cons (pe_bltn (v := .ty "int") (by rfl) T.z_int (by decide +kernel) rfl) pa_nil))) (pe_one (pe_not (pe_callB call_isi (by rfl) T.z_isinstance (by decide +kernel) (pa_cons (pv 0) (pa_cons (pe_bltn (v := .ty "bool") (by rfl) T.z_bool (by decide +kernel) rfl) pa_nil))))))))), ?_⟩
    walk_at "begin"
    walk_at "go"
    rcases k with ⟨i, rfl, k⟩ | ⟨⟨b, rfl⟩ | ⟨t, ht, hk⟩, k⟩
    · refine k_isi (.ty _) (.base (.int i)) (kit_ty (b := "int") (r := true) (by decide +kernel)) ?_
      walk_at "go"
      refine iteT ?_
      walk_at "go"
      refine k_isi (.ty _) (.base (.int i)) (kit_ty (b := "bool") (r := false) (by decide +kernel)) ?_
      walk_at "go"
      exact k
    · refine k_isi (.ty _) (.base (.bl b)) (kit_ty (b := "int") (r := true) (by decide +kernel)) ?_
      walk_at "go"
      refine iteT ?_
      walk_at "go"
      refine k_isi (.ty _) (.base (.bl b)) (kit_ty (b := "bool") (r := true) (by decide +kernel)) ?_
      walk_at "go"
      exact k
    · refine k_isi (.ty _) ht hk ?_
      walk_at "go"
      exact iteF k
theorem ok_is_integer_between (T : Txt K mg) : FnOk P w K mg base (L2.CX P w) 2 T.a_is_integer_between T.fd_is_integer_between ["value", "least", "most"] (sp_between K) := by
  refine T.F_is_integer_between.okX sc_is_integer_between (fun vs H Q E h => ?_) (fun cdv A outer s H vs Q E hr h => ?_)
  · obtain ⟨v, lo, hi, rfl, _⟩ := h
    rfl
  · obtain ⟨v, lo, hi, rfl, k⟩ := h
    refine ⟨_, (PSs.nox (pss_one (ps_ret (pe_and (pe_call (ok_is_whole_number T) (hr.mono (by decide)) (by rfl) T.m_is_whole_number T.k_is_whole_number T.b_is_whole_number .nil passL (pa_cons (pv 0) pa_nil)) (pe_one (pe_chain op_le op_le (pv 1) (pv 0) (pv 2))))))), ?_⟩
    walk_at "begin"
    walk_at "go"
    rcases k with ⟨i, rfl, k⟩ | ⟨ni, k⟩
    · refine ⟨_, rfl, .inl ⟨i, rfl, ?_⟩⟩
      walk_at "go"
      refine iteT (k_chain ?_)
      walk_at "go"
      refine k_ite (fun c => ?_) (fun c => ?_)
      · walk_at "go"
        rw [decide_eq_decide.mpr (show lo ≤ i ∧ i ≤ hi ↔ i ≤ hi from ⟨fun z => z.2, fun z => ⟨c, z⟩⟩)] at k
        exact k
      · walk_at "go"
        rw [decide_eq_false (show ¬ (lo ≤ i ∧ i ≤ hi) from fun z => c z.1)] at k
        exact k
    · refine ⟨_, rfl, .inr ⟨ni, ?_⟩⟩
      walk_at "go"
      exact iteF k
theorem ok_is_stand (T : Txt K mg) : FnOk P w K mg base (L2.CX P w) 3 T.a_is_stand T.fd_is_stand ["stands", "value"] (sp_is_stand K) := by
  refine T.F_is_stand.okX sc_is_stand (fun vs H Q E h => ?_) (fun cdv A outer s H vs Q E hr h => ?_)
  · obtain ⟨v, n, rfl, _⟩ := h
    rfl
  · obtain ⟨v, n, rfl, k⟩ := h
    refine ⟨_, (PSs.nox (pss_one (ps_ret (pe_call (ok_is_integer_between T) (hr.mono (by decide)) (by rfl) T.m_is_integer_between T.k_is_integer_between T.b_is_integer_between .nil passL (pa_cons (pv 1) (pa_cons pe_int (pa_cons (pe_op op_sub (pv 0) pe_int) pa_nil))))))), ?_⟩
    walk_at "begin"
    walk_at "go"
    refine ⟨v, 0, n - 1, rfl, ?_⟩
    rcases k with ⟨i, rfl, k⟩ | ⟨ht, k⟩
    · refine .inl ⟨i, rfl, ?_⟩
      rw [decide_eq_decide.mpr (show (0 ≤ i ∧ i < n) ↔ (0 ≤ i ∧ i ≤ n - 1) by omega)] at k
      exact k
    · exact .inr ⟨ht, k⟩
theorem ok_check_stands (T : Txt K mg) : FnOk P w K mg base (L2.CX P w) 3 T.a_check_stands T.fd_check_stands ["stands"] (sp_check_stands K) := by
  refine T.F_check_stands.okX sc_check_stands (fun vs H Q E h => ?_) (fun cdv A outer s H vs Q E hr h => ?_)
  · obtain ⟨n, rfl, _⟩ := h
    rfl
  · obtain ⟨n, rfl, n1, n8, k⟩ := h
    refine ⟨_, (PSs.nox (pss_one (ps_if (pt_not (pt_val (pe_call (ok_is_integer_between T) (hr.mono (by decide)) (by rfl) T.m_is_integer_between T.k_is_integer_between T.b_is_integer_between .nil passL (pa_cons (pv 0) (pa_cons pe_int (pa_cons (pe_glob (by rfl) T.m_MOST_STANDS T.r_MOST_STANDS) pa_nil))))))
  (pss_one ps_never)
  pss_nil))), ?_⟩
    walk_at "begin"
    walk_at "go"
    refine ⟨_, 1, 8, rfl, .inl ⟨n, rfl, ?_⟩⟩
    rw [decide_eq_true (show 1 ≤ n ∧ n ≤ 8 from ⟨n1, n8⟩)]
    walk_at "go"
    refine iteF ?_
    walk_at "go"
    exact k
end
/-! ### (int, text) <= (int, text) -/
def le2 (i : Int) (s : Str) (j : Int) (t : Str) : Bool := if i = j then (if s = t then true else !decide (t.cps.toList < s.cps.toList)) else decide (i ≤ j)
def rLe2 (K : PySem.W.Frag) : R2 := fun x y H Q => ∃ (a b : Addr) (i j : Int) (s t : Str), x = .ref a ∧ y = .ref b ∧ SqT K H a [.int i, .str s] ∧ SqT K H b [.int j, .str t] ∧ Q (.bl (le2 i s j t)) H
theorem op_le2 {X : Cx} (hu : X.A.units < cLine) : OpR X (compareOp .LtE) (rLe2 X.K) := by
  rintro pins st σ H x y v u Q I rx ry ⟨a, b, i, j, s, t, rfl, rfl, ha, hb, q⟩
  cases rx
  cases ry
  obtain ⟨us, r1, p1, _⟩ := I.tuple ha
  obtain ⟨ws, r2, p2, _⟩ := I.tuple hb
  obtain ⟨u1, u2, rfl, ⟨k1, rfl⟩, ⟨k2, rfl⟩⟩ := vals2 r1
  obtain ⟨w1, w2, rfl, ⟨l1, rfl⟩, ⟨l2, rfl⟩⟩ := vals2 r2
  have R := Ob.RcOp.tuples_le (A := X.A) (s := st) (e := fun n => if n = 0 then (i == j) else decide (s = t)) (r := fun n => if n = 0 then decide (i ≤ j) else !decide (t.cps.toList < s.cps.toList)) p1 p2 hu
    (fun n h1 h2 => by
      have n2 : n < 2 := h1
      match n, n2 with
      | 0, _ => exact SeqAt.EqAt.int_int _ _ _ _
      | 1, _ => exact SeqAt.EqAt.str_str _ _ _ _)
    (fun n h1 h2 _ => by
      have n2 : n < 2 := h1
      match n, n2 with
      | 0, _ => exact Ob.RcOp.le_int _ _ _ _
      | 1, _ => exact fun prog w E Q hQ => PySem.P.le_str hQ)
  have z : Ob.lexAt (fun n => if n = 0 then (i == j) else decide (s = t)) (fun n => if n = 0 then decide (i ≤ j) else !decide (t.cps.toList < s.cps.toList)) (decide ((2 : Nat) ≤ 2)) 0 (min 2 2) = le2 i s j t := by
    show Ob.lexAt _ _ _ 0 2 = _
    rw [Ob.lexAt_succ]
    unfold le2
    by_cases c : i = j
    · have c' : (i == j) = true := beq_iff_eq.mpr c
      simp only [if_pos, c', if_pos c]
      rw [Ob.lexAt_succ]
      by_cases d : s = t
      · simp [d, Ob.lexAt_zero]
      · simp [d]
    · have c' : (i == j) = false := beq_eq_false_iff_ne.mpr c
      simp [c']
      exact fun z => absurd z c
  have R' := R X.prog X.w X.xe (EP X pins σ Q) ⟨.bl _, H, I, rfl, (by rw [← z] at q; exact q)⟩
  exact R'
/-! ### steps, ends, machines -/
theorem ty_tup {K : PySem.W.Frag} {H : Hp} {p : Addr} {xs : List V} (h : SqT K H p xs) : TyX K H (.ref p) (.type "tuple") := by
  rcases h with (h | ⟨o, h⟩) | ⟨o, its, n, h, hc, _⟩
  · exact .base (.tup h)
  · exact .fTuple h
  · exact .kTuple h hc
theorem k_in {K : PySem.W.Frag} {neg : Bool} {H : Hp} {Q : VK} {p : Addr} {x : V} {xs : List V} (h : SqL K H p xs ∨ SqT K H p xs) (fx : flatV x = true) (fa : xs.all flatV = true) (q : Q (.bl (if neg then !inV x xs else inV x xs)) H) : rIn K neg x (.ref p) H Q := ⟨p, xs, rfl, h, fx, fa, q⟩
theorem letter_in {c : Nat} (h : 97 ≤ c) (h' : c ≤ 100) : inV (.str ⟨#[c]⟩) [V.str "a", V.str "b", V.str "c", V.str "d"] = true := by
  have z : c = 97 ∨ c = 98 ∨ c = 99 ∨ c = 100 := by omega
  rcases z with rfl | rfl | rfl | rfl <;> decide
theorem k_slA2 {K : PySem.W.Frag} {H : Hp} {Q : VK} {a : Addr} {x y z u : V} (h : SqT K H a [x, y, z, u]) (q : ∀ p, H p = none → Q (.ref p) (upd H p (.tup [x, y]))) : rSlA K (.ref a) none (some 2) H Q :=
  ⟨a, _, rfl, h, fun e => absurd e (by show ¬ ((0 : Nat) = 0 ∧ (2 : Nat) = 4); decide), fun _ p hp => q p hp⟩
theorem le2_no {s t : Stp} (h : s.lt t) : le2 (t.b : Nat) ⟨#[t.c]⟩ (s.b : Nat) ⟨#[s.c]⟩ = false := by
  unfold le2
  rcases h with h | ⟨h1, h2⟩
  · rw [if_neg (by omega), decide_eq_false (by omega)]
  · rw [if_pos (by omega), if_neg (by intro z; injection z with z; simp at z; omega)]
    simp
    exact List.Lex.rel h2
theorem few {n : Nat} (k : Nat) (h : k < 1000) (q : n ≤ k) : n < 1000 := Nat.lt_of_le_of_lt q h
def sp_is_step (K : PySem.W.Frag) : Sp := fun vs H Q _ => ∃ (n : Nat) (p : Addr) (s : Stp), vs = [.int (n : Nat), .ref p] ∧ SqT K H p (stpV s) ∧ s.Ok n ∧ Q (.bl true) H
def sp_check_steps (K : PySem.W.Frag) : Sp := fun vs H Q _ => ∃ (t : Addr) (us : List V) (m : MD), vs = [.int (m.n : Nat), .ref t] ∧ SqT K H t us ∧ StpsAt K H us m.ss ∧ m.Ok ∧ ∀ H', Same H H' → Q .non H'
def sp_check_ends (K : PySem.W.Frag) : Sp := fun vs H Q _ => ∃ (t : Addr) (m : MD), vs = [.int (m.n : Nat), .ref t] ∧ SqT K H t (nats m.es) ∧ m.Ok ∧ ∀ H', Same H H' → Q .non H'
/-- whether values are ascending integers from l to below n -/
def ascV (n : Int) : Int → List V → Bool
  | _, [] => true
  | l, .int j :: r => decide (l ≤ j ∧ j ≤ n - 1) && ascV n (j + 1) r
  | _, _ => false
theorem ascV_odd {n l : Int} {x : V} {r : List V} (h : ∀ j, x ≠ .int j) : ascV n l (x :: r) = false := by
  cases x with
  | int j => exact (h j rfl).elim
  | _ => rfl
theorem ascV_nats {n : Nat} : ∀ {es : List Nat} {l : Nat}, (∀ e ∈ es, e < n) → es.Pairwise (· < ·) → (∀ e ∈ es, l ≤ e) → ascV (n : Nat) (l : Nat) (nats es) = true
  | [], _, _, _, _ => rfl
  | e :: es, l, h1, h2, h3 => by
    show (decide (((l : Nat) : Int) ≤ (e : Nat) ∧ ((e : Nat) : Int) ≤ (n : Nat) - 1) && ascV (n : Nat) (((e + 1 : Nat)) : Int) (nats es)) = true
    have a := h1 e (List.mem_cons_self ..)
    have b := h3 e (List.mem_cons_self ..)
    have c := List.pairwise_cons.mp h2
    rw [decide_eq_true (by omega), ascV_nats (fun x hx => h1 x (List.mem_cons_of_mem _ hx)) c.2 (fun x hx => c.1 x hx)]
    rfl
def sp_asc (K : PySem.W.Frag) : Sp := fun vs H Q _ => ∃ (v : V) (n : Int), vs = [v, .int n] ∧ ((∃ ty, TyX K H v ty ∧ PySem.W.kitOne K ty (.type "tuple") = some false ∧ Q (.bl false) H) ∨
  ∃ t xs, v = .ref t ∧ SqT K H t xs ∧ (∀ x ∈ xs, (∃ j, x = .int j) ∨ (NotInt K H x ∧ ∀ j, x ≠ .int j)) ∧ Q (.bl (ascV n 0 xs)) H)
def sp_init (K : PySem.W.Frag) (C : Addr) : Sp := fun vs H Q _ => ∃ (x dx t u : Addr) (m : MD), vs = [.ref x, .int (m.n : Nat), .ref t, .ref u] ∧ H x = some (.ins C dx []) ∧ PartsAt K H t u m ∧ m.Ok ∧
  ∀ H', Keep x H H' → H' x = some (.ins C dx (mfs m.n t u)) → Q .non H'
def sp_machine (K : PySem.W.Frag) (C : Addr) : Sp := fun vs H Q _ => ∃ (d : Addr) (m : MD), vs = [.ref d] ∧ DAt K H d m ∧ m.Ok ∧ ∀ x H', Same H H' → H x = none → MAt K C H' x m → Q (.ref x) H'
section
variable {P : Program} {w : World} {K : PySem.W.Frag} {mg : Str → Option Value} {base : Heap}
theorem ok_is_step (T : Txt K mg) : FnOk P w K mg base (L2.CX P w) 4 T.a_is_step T.fd_is_step ["stands", "value"] (sp_is_step K) := by
  refine T.F_is_step.okX sc_is_step (fun vs H Q E h => ?_) (fun cdv A outer s H vs Q E hr h => ?_)
  · obtain ⟨n, p, s, rfl, _⟩ := h
    rfl
  · obtain ⟨n, p, t, rfl, hp, o, k⟩ := h
    refine ⟨_, (PSs.nox (pss_cons (ps_if (PW.pt (pw_or (pt_not (pt_val (pe_callB call_isi (by rfl) T.z_isinstance (by decide +kernel) (pa_cons (pv 1) (pa_cons (pe_bltn (v := .ty "tuple") (by rfl) T.z_tuple (by decide +kernel) rfl) pa_nil))))) (pw_or1 (pt_cmpR op_ne (pe_callB call_len_seq (by rfl) T.z_len PySem.boot_len (pa_cons (pv 1) pa_nil)) pe_int (nomark _)))))
  (pss_one (ps_ret pe_bl))
  pss_nil)
  (pss_cons (ps_asg (pv 1) (pg_tup rfl (pgs_cons (pg_name (i := 2) sc_is_step.nd rfl (Or.inl rfl)) (pgs_cons (pg_name (i := 3) sc_is_step.nd rfl (Or.inl rfl)) (pgs_cons (pg_name (i := 4) sc_is_step.nd rfl (Or.inl rfl)) (pgs_cons (pg_name (i := 5) sc_is_step.nd rfl (Or.inl rfl)) pgs_nil))))))
  (pss_one (ps_ret (pe_and (pe_call (ok_is_stand T) (hr.mono (by decide)) (by rfl) T.m_is_stand T.k_is_stand T.b_is_stand .nil passL (pa_cons (pv 0) (pa_cons (pv 2) pa_nil))) (pe_and (pe_cmpR op_in_seq (pv 3) (pe_glob (by rfl) T.m_LETTERS T.r_LETTERS) (by rfl)) (pe_and (pe_call (ok_is_stand T) (hr.mono (by decide)) (by rfl) T.m_is_stand T.k_is_stand T.b_is_stand .nil passL (pa_cons (pv 0) (pa_cons (pv 4) pa_nil))) (pe_one (pe_call (ok_is_integer_between T) (hr.mono (by decide)) (by rfl) T.m_is_integer_between T.k_is_integer_between T.b_is_integer_between .nil passL (pa_cons (pv 5) (pa_cons (pe_un un_neg (pe_glob (by rfl) T.m_MOST_GAIN T.r_MOST_GAIN)) (pa_cons (pe_glob (by rfl) T.m_MOST_GAIN T.r_MOST_GAIN) pa_nil))))))))))))), ?_⟩
    walk_at "begin"
    walk_at "go"
    refine k_isi (.ty _) (ty_tup hp) (kit_ty (b := "tuple") (r := true) (by decide +kernel)) ?_
    walk_at "go"
    refine iteF ?_
    walk_at "go"
    refine k_len (.inr hp) ?_
    walk_at "go"
    refine iteF ?_
    walk_at "go"
    refine k_gt hp rfl ?_
    unfold stpV
    walk_at "go"
    refine ⟨_, _, rfl, .inl ⟨_, rfl, ?_⟩⟩
    rw [decide_eq_true (show 0 ≤ ((t.b : Nat) : Int) ∧ ((t.b : Nat) : Int) < (n : Nat) from ⟨Int.natCast_nonneg _, by have := o.b; omega⟩)]
    walk_at "go"
    refine iteT ?_
    walk_at "go"
    refine k_in (.inr (T.s_LETTERS _)) rfl (by decide) ?_
    rw [letter_in o.c o.c']
    walk_at "go"
    refine iteT ?_
    walk_at "go"
    refine ⟨_, _, rfl, .inl ⟨_, rfl, ?_⟩⟩
    rw [decide_eq_true (show 0 ≤ ((t.e : Nat) : Int) ∧ ((t.e : Nat) : Int) < (n : Nat) from ⟨Int.natCast_nonneg _, by have := o.e; omega⟩)]
    walk_at "go"
    refine iteT ?_
    walk_at "go"
    refine ⟨_, _, _, rfl, .inl ⟨_, rfl, ?_⟩⟩
    rw [decide_eq_true (show -1000000000000000000000000000000 ≤ t.g ∧ t.g ≤ 1000000000000000000000000000000 from ⟨by have := o.g; omega, by have := o.g'; omega⟩)]
    exact k
theorem ok_check_steps (T : Txt K mg) : FnOk P w K mg base (L2.CX P w) 5 T.a_check_steps T.fd_check_steps ["stands", "steps"] (sp_check_steps K) := by
  refine T.F_check_steps.okX sc_check_steps (fun vs H Q E h => ?_) (fun cdv A outer s H vs Q E hr h => ?_)
  · obtain ⟨t, us, m, rfl, _⟩ := h
    rfl
  · obtain ⟨t, us, m, rfl, ht, hs, o, k⟩ := h
    refine ⟨_, (PSs.nox (pss_cons (ps_if (pt_not (pt_val (pe_callB call_isi (by rfl) T.z_isinstance (by decide +kernel) (pa_cons (pv 1) (pa_cons (pe_bltn (v := .ty "tuple") (by rfl) T.z_tuple (by decide +kernel) rfl) pa_nil)))))
  (pss_one ps_never)
  pss_nil)
  (pss_one (ps_for PassesOwn.never rfl (pi_enumT (by rfl) T.z_enumerate (pa_cons (pv 1) pa_nil)) (pg_tup rfl (pgs_cons (pg_name (i := 2) sc_check_steps.nd rfl (Or.inl rfl)) (pgs_cons (pg_name (i := 3) sc_check_steps.nd rfl (Or.inl rfl)) pgs_nil)))
  (pss_cons (ps_if (pt_not (pt_val (pe_call (ok_is_step T) (hr.mono (by decide)) (by rfl) T.m_is_step T.k_is_step T.b_is_step .nil passL (pa_cons (pv 0) (pa_cons (pv 3) pa_nil)))))
  (pss_one ps_never)
  pss_nil)
  (pss_one (ps_if (PW.pt (pw_and (pt_cmpR op_gt (pv 2) pe_int (nomark _)) (pw_and1 (pt_cmpR (op_le2 hr.units0) (pe_slice sl_tupA (pv 3) po_none (po_some pe_int)) (pe_slice sl_tupA (pe_ix ix_tup (pv 1) (pe_op op_sub (pv 2) pe_int) (fun _ _ => rfl)) po_none (po_some pe_int)) (nomark _)))))
  (pss_one ps_never)
  pss_nil))))))), ?_⟩
    walk_at "begin"
    walk_at "go"
    refine k_isi (.ty _) (ty_tup ht) (kit_ty (b := "tuple") (r := true) (by decide +kernel)) ?_
    walk_at "go"
    refine iteF ?_
    walk_at "go"
    refine ⟨_, rfl, t, us, rfl, ht, for_enumT (xs := us) (fun i σ H' => Same H H' ∧ ∃ a b, σ = [some (.int (m.n : Nat)), some (.ref t), a, b]) ⟨Same.refl _, _, _, rfl⟩ (fun i σ H' _ ⟨z, _⟩ => (same_tups z).sq ht) ?_ ?_⟩
    · rintro i x p σ H1 hx ⟨z, a, b, rfl⟩ hp
      have il : i < m.ss.length := by rw [← hs.1]; exact (List.getElem?_eq_some_iff.mp hx).1
      obtain ⟨q, eq, hq⟩ := hs.2 i _ (List.getElem?_eq_getElem il)
      rw [hx] at eq
      cases eq
      have z1 : Same H (upd H1 p (.tup [.int (i : Nat), .ref q])) := z.trans (Same.new hp)
      have hq1 := (same_tups z1).sq hq
      have ok1 := o.ok _ (List.getElem_mem il)
      refine k_gt (SqT.of upd_same) rfl ?_
      walk_at "go"
      refine ⟨m.n, q, _, rfl, hq1, ok1, ?_⟩
      walk_at "go"
      refine iteF ?_
      walk_at "go"
      refine k_ite (fun c => ?_) (fun c => iteF ?_)
      · walk_at "go"
        have jl : i - 1 < m.ss.length := by omega
        obtain ⟨q2, eq2, hq2⟩ := hs.2 (i - 1) _ (List.getElem?_eq_getElem jl)
        refine k_slA2 hq1 fun p1 n1 => ?_
        have z2 := z1.trans (Same.new (o := .tup [.int ((m.ss[i]'il).b : Nat), .str ⟨#[(m.ss[i]'il).c]⟩]) n1)
        walk_at "go"
        refine k_ixT ((same_tups z2).sq ht) (v := .ref q2) (at_of (j := i - 1) (by omega) eq2) ?_
        walk_at "go"
        refine k_slA2 ((same_tups z2).sq hq2) fun p2 n2 => ?_
        have z3 := z2.trans (Same.new (o := .tup [.int ((m.ss[i - 1]'jl).b : Nat), .str ⟨#[(m.ss[i - 1]'jl).c]⟩]) n2)
        refine ⟨p1, p2, _, _, _, _, rfl, rfl, SqT.of (Same.new n2 _ _ upd_same), SqT.of upd_same, ?_⟩
        · have up := List.pairwise_iff_getElem.mp o.up (i - 1) i jl il (by omega)
          rw [le2_no up]
          walk_at "go"
          refine iteF ?_
          walk_at "go"
          exact ⟨z3, _, _, rfl⟩
      · walk_at "go"
        exact ⟨z1, _, _, rfl⟩
    · rintro σ H1 ⟨z, _⟩
      exact k H1 z
theorem ok_is_ascending (T : Txt K mg) : FnOk P w K mg base (L2.CX P w) 3 T.a_is_ascending T.fd_is_ascending ["value", "many"] (sp_asc K) := by
  refine T.F_is_ascending.okX sc_is_ascending (fun vs H Q E h => ?_) (fun cdv A outer s H vs Q E hr h => ?_)
  · obtain ⟨v, n, rfl, _⟩ := h
    rfl
  · obtain ⟨v, n, rfl, h⟩ := h
    refine ⟨_, (PSs.nox (pss_cons (ps_if (pt_not (pt_val (pe_callB call_isi (by rfl) T.z_isinstance (by decide +kernel) (pa_cons (pv 0) (pa_cons (pe_bltn (v := .ty "tuple") (by rfl) T.z_tuple (by decide +kernel) rfl) pa_nil)))))
  (pss_one (ps_ret pe_bl))
  pss_nil)
  (pss_cons (ps_set (i := 2) sc_is_ascending.nd rfl (Or.inl rfl) pe_int)
  (pss_cons (ps_for PassesOwn.never rfl (pi_tup (pv 0)) (pg_name (i := 3) sc_is_ascending.nd rfl (Or.inl rfl))
  (pss_cons (ps_if (pt_not (pt_val (pe_call (ok_is_integer_between T) (hr.mono (by decide)) (by rfl) T.m_is_integer_between T.k_is_integer_between T.b_is_integer_between .nil passL (pa_cons (pv 3) (pa_cons (pv 2) (pa_cons (pe_op op_sub (pv 1) pe_int) pa_nil))))))
  (pss_one (ps_ret pe_bl))
  pss_nil)
  (pss_one (ps_set (i := 2) sc_is_ascending.nd rfl (Or.inl rfl) (pe_op op_add (pv 3) pe_int)))))
  (pss_one (ps_ret pe_bl)))))), ?_⟩
    walk_at "begin"
    walk_at "go"
    rcases h with ⟨ty, h1, h2, k⟩ | ⟨t, xs, rfl, ht, hx, k⟩
    · refine k_isi (.ty _) h1 h2 ?_
      walk_at "go"
      refine iteT ?_
      walk_at "go"
      exact k
    · refine k_isi (.ty _) (ty_tup ht) (kit_ty (b := "tuple") (r := true) (by decide +kernel)) ?_
      walk_at "go"
      refine iteF ?_
      walk_at "go"
      refine ⟨t, rfl, ⟨_, ht⟩, ?_⟩
      refine for_tup (xs := xs) (fun i σ H' => H' = H ∧ ∃ (l : Int) (a : Option V), σ = [some (.ref t), some (.int n), some (.int l), a] ∧ ascV n 0 xs = ascV n l (xs.drop i)) ⟨rfl, 0, _, rfl, rfl⟩ (fun i σ H' _ ⟨e, _⟩ => by rw [e]; exact ht) ?_ ?_
      · rintro i x σ H1 hx1 ⟨rfl, l, a, rfl, eq⟩
        have il : i < xs.length := (List.getElem?_eq_some_iff.mp hx1).1
        have dr : xs.drop i = x :: xs.drop (i + 1) := by rw [List.drop_eq_getElem_cons il, (List.getElem?_eq_some_iff.mp hx1).2]
        rw [dr] at eq
        walk_at "go"
        rcases hx x (List.mem_of_getElem? hx1) with ⟨j, rfl⟩ | ⟨ni, nj⟩
        · refine ⟨_, _, _, rfl, .inl ⟨j, rfl, ?_⟩⟩
          by_cases c : l ≤ j ∧ j ≤ n - 1
          · rw [decide_eq_true c]
            walk_at "go"
            refine iteF ?_
            walk_at "go"
            refine ⟨rfl, _, _, rfl, ?_⟩
            rw [eq]
            show (decide (l ≤ j ∧ j ≤ n - 1) && ascV n (j + 1) (xs.drop (i + 1))) = _
            rw [decide_eq_true c]
            rfl
          · rw [decide_eq_false c]
            walk_at "go"
            refine iteT ?_
            walk_at "go"
            have e2 : ascV n 0 xs = false := by
              rw [eq]
              show (decide (l ≤ j ∧ j ≤ n - 1) && ascV n (j + 1) (xs.drop (i + 1))) = _
              rw [decide_eq_false c]
              rfl
            rw [e2] at k
            exact k
        · refine ⟨_, _, _, rfl, .inr ⟨ni, ?_⟩⟩
          walk_at "go"
          refine iteT ?_
          walk_at "go"
          have e2 : ascV n 0 xs = false := by
            rw [eq]
            exact ascV_odd nj
          rw [e2] at k
          exact k
      · rintro σ H1 ⟨rfl, l, a, rfl, eq⟩
        rw [List.drop_length] at eq
        rw [eq] at k
        walk_at "go"
        exact k
theorem ok_check_ends (T : Txt K mg) : FnOk P w K mg base (L2.CX P w) 4 T.a_check_ends T.fd_check_ends ["stands", "ends"] (sp_check_ends K) := by
  refine T.F_check_ends.okX sc_check_ends (fun vs H Q E h => ?_) (fun cdv A outer s H vs Q E hr h => ?_)
  · obtain ⟨t, m, rfl, _⟩ := h
    rfl
  · obtain ⟨t, m, rfl, ht, o, k⟩ := h
    refine ⟨_, (PSs.nox (pss_one (ps_if (pt_not (pt_val (pe_call (ok_is_ascending T) (hr.mono (by decide)) (by rfl) T.m_is_ascending T.k_is_ascending T.b_is_ascending .nil passL (pa_cons (pv 1) (pa_cons (pv 0) pa_nil)))))
  (pss_one ps_never)
  pss_nil))), ?_⟩
    walk_at "begin"
    walk_at "go"
    refine ⟨_, _, rfl, .inr ⟨t, _, rfl, ht, fun x h => ?_, ?_⟩⟩
    · obtain ⟨e, _, rfl⟩ := List.mem_map.mp h
      exact .inl ⟨_, rfl⟩
    rw [show ascV (m.n : Nat) 0 (nats m.es) = true from ascV_nats (l := 0) (fun e h => o.eb e h) o.eu (fun _ _ => Nat.zero_le _)]
    walk_at "go"
    refine iteF ?_
    walk_at "go"
    exact k H (Same.refl _)
theorem ok_Machine_init (T : Txt K mg) : FnOk P w K mg base (L2.CX P w) 6 T.a_Machine_init T.fd_Machine_init ["self", "stands", "steps", "ends"] (sp_init K T.c_Machine) := by
  refine T.F_Machine_init.okX sc_Machine_init (fun vs H Q E h => ?_) (fun cdv A outer s H vs Q E hr h => ?_)
  · obtain ⟨x, dx, t, u, m, rfl, _⟩ := h
    rfl
  · obtain ⟨x, dx, t, u, m, rfl, hx, ⟨⟨us, ht, hs⟩, hu⟩, o, k⟩ := h
    refine ⟨_, (PSs.nox (pss_cons (ps_expr (pe_call (ok_check_stands T) (hr.mono (by decide)) (by rfl) T.m_check_stands T.k_check_stands T.b_check_stands .nil passL (pa_cons (pv 1) pa_nil)))
  (pss_cons (ps_expr (pe_call (ok_check_steps T) (hr.mono (by decide)) (by rfl) T.m_check_steps T.k_check_steps T.b_check_steps .nil passL (pa_cons (pv 1) (pa_cons (pv 2) pa_nil))))
  (pss_cons (ps_expr (pe_call (ok_check_ends T) (hr.mono (by decide)) (by rfl) T.m_check_ends T.k_check_ends T.b_check_ends .nil passL (pa_cons (pv 1) (pa_cons (pv 3) pa_nil))))
  (pss_cons (ps_fld (pv 0) (pv 1) rfl)
  (pss_cons (ps_fld (pv 0) (pv 2) rfl)
  (pss_one (ps_fld (pv 0) (pv 3) rfl)))))))), ?_⟩
    walk_at "begin"
    walk_at "go"
    refine ⟨_, rfl, by have := o.n1; omega, by have := o.n8; omega, ?_⟩
    walk_at "go"
    refine ⟨t, us, m, rfl, ht, hs, o, fun H1 z1 => ?_⟩
    walk_at "go"
    refine ⟨u, m, rfl, (same_tups z1).sq hu, o, fun H2 z2 => ?_⟩
    walk_at "go"
    have e2 : H2 x = some (.ins T.c_Machine dx []) := z2 _ _ (z1 _ _ hx)
    refine ⟨_, rfl, _, rfl, x, _, dx, _, rfl, e2, T.cl_Machine, T.n__stands, (by decide : 0 < 1000), ?_⟩
    refine ⟨_, rfl, _, rfl, x, _, dx, _, rfl, upd_same, T.cl_Machine, T.n__steps, few 1 (by decide) (length_putF _ _ _), ?_⟩
    refine ⟨_, rfl, _, rfl, x, _, dx, _, rfl, upd_same, T.cl_Machine, T.n__ends, few 2 (by decide) (Nat.le_trans (length_putF _ _ _) (Nat.succ_le_succ (length_putF _ _ _))), ?_⟩
    refine k _ (((Keep.of_same (z1.trans z2)).trans Keep.at_).trans (Keep.at_.trans Keep.at_)) ?_
    rw [upd_same]
    rfl
theorem ok_law_machine (T : Txt K mg) : FnOk P w K mg base (L2.CX P w) 8 T.a_law_machine T.fd_law_machine ["_law_d"] (sp_machine K T.c_Machine) := by
  refine T.F_law_machine.okX sc_law_machine (fun vs H Q E h => ?_) (fun cdv A outer s H vs Q E hr h => ?_)
  · obtain ⟨d, m, rfl, _⟩ := h
    rfl
  · obtain ⟨d, m, rfl, ⟨t, u, hd, hp⟩, o, k⟩ := h
    refine ⟨_, (PSs.nox (pss_one (ps_ret (pe_make T.mk_Machine (ok_Machine_init T) (hr.mono (by decide)) (by rfl) T.m_Machine T.b_Machine_init .nil passL (pa_cons (pe_dget (hu_of hr) (pv 0) pe_str (fun _ _ => rfl)) (pa_cons (pe_dget (hu_of hr) (pv 0) pe_str (fun _ _ => rfl)) (pa_cons (pe_dget (hu_of hr) (pv 0) pe_str (fun _ _ => rfl)) pa_nil))))))), ?_⟩
    walk_at "begin"
    walk_at "go"
    refine ⟨d, .int (m.n : Nat), rfl, DGet.k (k := .inr "stands") hd, ?_⟩
    walk_at "go"
    refine ⟨d, .ref t, rfl, DGet.k (k := .inr "steps") hd, ?_⟩
    walk_at "go"
    refine ⟨d, .ref u, rfl, DGet.k (k := .inr "ends") hd, ?_⟩
    walk_at "go"
    intro x dx hx hdx ne
    refine ⟨x, dx, t, u, m, rfl, upd_same, (same_tups ((Same.new hdx).trans (Same.new ?_))).parts hp, o, fun H' z e => ⟨rfl, ?_⟩⟩
    · rw [upd_ne ne.symm]; exact hx
    · have zz : Same H H' := fun b ob eb => z b ob (ne_of_none eb hx) (by rw [upd_ne (ne_of_none eb hx), upd_ne (ne_of_none eb hdx)]; exact eb)
      exact k x H' zz hx ⟨dx, t, u, e, (same_tups zz).parts hp⟩
end
/-! ### steps in a tuple or in a list -/
def SqS (K : PySem.W.Frag) (H : Hp) (a : Addr) (xs : List V) : Prop := SqT K H a xs ∨ SqL K H a xs
theorem SqS.same {K : PySem.W.Frag} {H H' : Hp} {a : Addr} {xs : List V} (h : SqS K H a xs) (z : Same H H') : SqS K H' a xs := h.imp (fun h => (same_tups z).sq h) fun h => z.seq h
def StSq (K : PySem.W.Frag) (H : Hp) (t : Addr) (ss : List Stp) : Prop := ∃ us, SqS K H t us ∧ StpsAt K H us ss
theorem StSq.of {K : PySem.W.Frag} {H : Hp} {t : Addr} {ss : List Stp} (h : StAt K H t ss) : StSq K H t ss := let ⟨us, a, b⟩ := h; ⟨us, .inl a, b⟩
theorem StSq.same {K : PySem.W.Frag} {H H' : Hp} {t : Addr} {ss : List Stp} (h : StSq K H t ss) (z : Same H H') : StSq K H' t ss := let ⟨us, a, b⟩ := h; ⟨us, a.same z, (same_tups z).steps b⟩
def iSq (K : PySem.W.Frag) (tl : TE) : TI := fun σ H R => iTup K tl σ H R ∨ iList K tl σ H R
theorem pi_sq {X : L2.Cx} {tg l : Expr} {tl : TE} (hl : PE X l tl) : PI X tg l (iSq X.K tl) := ⟨fun pins s σ H R I h => h.elim ((pi_tup hl).run pins s σ H R I) ((pi_list hl).run pins s σ H R I)⟩
theorem for_sq {K : PySem.W.Frag} {t : Addr} {xs : List V} {j : Nat} {g : TG} {tb : TS} {D : Ends} {σ : L2.St} {H Hb : Hp} (e : σ[j]? = some (some (.ref t))) (hx : SqS K Hb t xs) (Pv : Nat → L2.St → Hp → Prop) (h0 : Pv 0 σ H) (hl : ∀ i σ H, Pv i σ H → Same Hb H)
    (hs : ∀ i x σ H, xs[i]? = some x → Pv i σ H → g x σ H fun σ2 H2 => tb { D with nx := Pv (i + 1), ct := Pv (i + 1), bk := D.nx } σ2 H2) (hd : ∀ σ H, Pv xs.length σ H → D.nx σ H) :
    iSq K (tVar j) σ H fun J H1 => ∃ W : Nat → Nat → L2.St → Hp → Prop, (∃ m, W 0 m σ H1) ∧ ∀ i m σ H, W i m σ H →
      (J.stop i H ∧ D.nx σ H) ∨ (J.go i H ∧ ∃ N : L2.St → Hp → Prop, (∀ σ' H', N σ' H' → ∃ m', m' < m ∧ W (i + 1) m' σ' H') ∧ ∀ x H', J.yld i H x H' → g x σ H' fun σ2 H2 => tb { D with nx := N, ct := N, bk := D.nx } σ2 H2) := by
  have z0 := hl _ _ _ h0
  rcases hx with hx | hx
  · exact .inl (k_var e ⟨t, rfl, ⟨xs, (same_tups z0).sq hx⟩, for_tup Pv h0 (fun i σ H _ p => (same_tups (hl _ _ _ p)).sq hx) hs hd⟩)
  · exact .inr (k_var e ⟨t, rfl, ⟨xs, z0.seq hx⟩, for_list Pv h0 (fun i σ H _ p => (hl _ _ _ p).seq hx) hs hd⟩)
/-! ### the drawn machines -/
def sp_parts (K : PySem.W.Frag) : Sp := fun vs H Q _ => ∃ (a : Addr) (st : Nat) (sz : Int), vs = [.ref a, .int (st : Nat), .int sz] ∧ 1 ≤ st ∧ st ≤ 8 ∧ 0 ≤ sz ∧ 2 * sz + 1 ≤ 10 ^ 30 ∧ RowOk K H a ∧
  ∀ (d : Addr) (m : MD) (H' : Hp), m.Ok → m.n ≤ st → (∀ s ∈ m.ss, -(2 * sz + 1) ≤ s.g ∧ s.g ≤ 2 * sz + 1) → DAt K H' d m → RowOk K H' a → Keep a H H' → H d = none → Q (.ref d) H'
theorem abcd_cut {k : Nat} (h1 : 1 ≤ k) (h4 : k ≤ 4) : cutS "abcd" none (some ((k : Nat) : Int)) = ⟨(([97, 98, 99, 100] : List Nat).take k).toArray⟩ := by
  have z : k = 1 ∨ k = 2 ∨ k = 3 ∨ k = 4 := by omega
  rcases z with rfl | rfl | rfl | rfl <;> decide
theorem abcd_at {k j c : Nat} (h : (([97, 98, 99, 100] : List Nat).take k).toArray[j]? = some c) : c = 97 + j ∧ j < 4 := by
  rw [List.getElem?_toArray, List.getElem?_take] at h
  split at h
  · match j, h with
    | 0, h => simp at h; omega
    | 1, h => simp at h; omega
    | 2, h => simp at h; omega
    | 3, h => simp at h; omega
    | n + 4, h => simp at h
  · cases h
/-- the steps so far: of the stands below i, and of i by the first j letters -/
structure Sofar (K : PySem.W.Frag) (H : Hp) (l : Addr) (n : Nat) (sz : Int) (i j : Nat) (ss : List Stp) : Prop where
  at_ : ∃ vs, H l = some (.lst vs) ∧ StpsAt K H vs ss
  ok : ∀ s ∈ ss, s.Ok n
  up : ss.Pairwise Stp.lt
  bd : ∀ s ∈ ss, s.b < i ∨ (s.b = i ∧ s.c < 97 + j)
  gb : ∀ s ∈ ss, -(2 * sz + 1) ≤ s.g ∧ s.g ≤ 2 * sz + 1
  len : ss.length ≤ 4 * i + j
theorem Sofar.keep {K : PySem.W.Frag} {H H' : Hp} {l a : Addr} {n i j : Nat} {sz : Int} {ss : List Stp} {xs : List V} (h : Sofar K H l n sz i j ss) (k : Keep a H H') (ha : H a = some (.lst xs)) (ne : l ≠ a) : Sofar K H' l n sz i j ss :=
  let ⟨vs, e, q⟩ := h.at_
  ⟨⟨vs, k _ _ ne e, (k.tups ha).steps q⟩, h.ok, h.up, h.bd, h.gb, h.len⟩
theorem Sofar.more {K : PySem.W.Frag} {H : Hp} {l : Addr} {n i j j' : Nat} {sz : Int} {ss : List Stp} (h : Sofar K H l n sz i j ss) (e : j ≤ j') : Sofar K H l n sz i j' ss :=
  ⟨h.at_, h.ok, h.up, fun s hs => (h.bd s hs).imp id fun z => ⟨z.1, by omega⟩, h.gb, by have := h.len; omega⟩
theorem Sofar.line {K : PySem.W.Frag} {H : Hp} {l : Addr} {n i j : Nat} {sz : Int} {ss : List Stp} (h : Sofar K H l n sz i j ss) (e : j ≤ 4) : Sofar K H l n sz (i + 1) 0 ss :=
  ⟨h.at_, h.ok, h.up, fun s hs => .inl (by rcases h.bd s hs with z | z <;> omega), h.gb, by have := h.len; omega⟩
theorem Sofar.snoc {K : PySem.W.Frag} {H : Hp} {l p : Addr} {n i j e : Nat} {sz g : Int} {ss : List Stp} (h : Sofar K H l n sz i j ss) (hp : H p = none) (hi : i < n) (hj : j < 4) (he : e < n) (z1 : 2 * sz + 1 ≤ 10 ^ 30)
    (g1 : -(2 * sz + 1) ≤ g) (g2 : g ≤ 2 * sz + 1) : ∀ vs, H l = some (.lst vs) →
    Sofar K (upd (upd H p (.tup (stpV ⟨i, 97 + j, e, g⟩))) l (.lst (vs ++ [.ref p]))) l n sz i (j + 1) (ss ++ [⟨i, 97 + j, e, g⟩]) := fun vs ev => by
  obtain ⟨vs', e', q⟩ := h.at_
  rw [ev] at e'
  cases e'
  have np : l ≠ p := ne_of_none ev hp
  have t1 : Tups H (upd H p (.tup (stpV ⟨i, 97 + j, e, g⟩))) := Tups.new hp
  have el : (upd H p (.tup (stpV ⟨i, 97 + j, e, g⟩))) l = some (.lst vs) := by rw [upd_ne np]; exact ev
  have t2 := Tups.lst (o := .lst (vs ++ [.ref p])) el
  have mem : ∀ s, s ∈ ss ++ [(⟨i, 97 + j, e, g⟩ : Stp)] → s ∈ ss ∨ s = ⟨i, 97 + j, e, g⟩ := fun s hs => by simpa using hs
  refine ⟨⟨_, upd_same, (t2.steps ((t1.steps q).snoc (SqT.of upd_same)))⟩, fun s hs => ?_, ?_, fun s hs => ?_, fun s hs => ?_, ?_⟩
  · rcases mem s hs with hs | rfl
    · exact h.ok s hs
    · exact ⟨hi, by show 97 ≤ 97 + j; omega, by show 97 + j ≤ 100; omega, he, by show -(10 ^ 30) ≤ g; omega, by show g ≤ 10 ^ 30; omega⟩
  · refine List.pairwise_append.mpr ⟨h.up, List.pairwise_singleton _ _, fun s hs t ht => ?_⟩
    have ht' : t = ⟨i, 97 + j, e, g⟩ := by simpa using ht
    subst ht'
    rcases h.bd s hs with z | ⟨z, z'⟩
    · exact .inl z
    · exact .inr ⟨z, z'⟩
  · rcases mem s hs with hs | rfl
    · rcases h.bd s hs with z | ⟨z, z'⟩
      · exact .inl z
      · exact .inr ⟨z, by omega⟩
    · exact .inr ⟨rfl, by show 97 + j < 97 + (j + 1); omega⟩
  · rcases mem s hs with hs | rfl
    · exact h.gb s hs
    · exact ⟨g1, g2⟩
  · rw [List.length_append, List.length_singleton]
    have := h.len
    omega
section
variable {P : Program} {w : World} {K : PySem.W.Frag} {mg : Str → Option Value} {base : Heap}
theorem ok_law_parts (T : Txt K mg) : FnOk P w K mg base (L2.CX P w) 2 T.a_law_parts T.fd_law_parts ["_law_row", "_law_stands", "_law_size"] (sp_parts K) := by
  refine T.F_law_parts.okX sc_law_parts (fun vs H Q E h => ?_) (fun cdv A outer s H vs Q E hr h => ?_)
  · obtain ⟨a, st, sz, rfl, _⟩ := h
    rfl
  · obtain ⟨a, st, sz, rfl, st1, st8, sz0, sz1, R0, k⟩ := h
    refine ⟨_, (PSs.nox (pss_cons (ps_par (i := 3) (j := 4) (by rfl) sc_law_parts.nd rfl rfl (by decide) rfl rfl (pa_cons (pe_op op_add pe_int (pe_call (ok_law_taken T) (hr.mono (by decide)) (by rfl) T.m_law_taken T.k_law_taken T.b_law_taken .nil passL (pa_cons (pv 0) (pa_cons (pv 1) pa_nil)))) (pa_cons (pe_call (ok_law_taken T) (hr.mono (by decide)) (by rfl) T.m_law_taken T.k_law_taken T.b_law_taken .nil passL (pa_cons (pv 0) (pa_cons pe_int pa_nil))) pa_nil)) (by rfl))
  (pss_cons (ps_setLc (i := 5) (own := [("_law_stand", 13)]) (g := (gName 13)) (tt := tYes) rfl sc_law_parts.nd rfl rfl (sw_true rfl rfl rfl (by decide +kernel)) (pi_range1 (by rfl) T.z_range (pa_cons (pv 3) pa_nil)) (blkOk_by (own := [("_law_stand", 13)]) (N := ["_law_row", "_law_stands", "_law_size", "_law_many", "_law_kind", "_law_heights", "_law_steps", "_law_letters", "_law_begun", "_law_letter", "_law_end", "_law_gain", "_law_ends", "_law_stand"]) (sc := defScope s_law_parts) (by decide +kernel)) (fun _ _ _ _ _ => (pg_name (i := 13) sc_law_parts.nd rfl (Or.inl rfl))) (fun _ _ _ _ _ => pts_nil) (fun _ _ _ _ _ => (pe_op op_sub (pe_call (ok_law_taken T) (hr.mono (by decide)) (by rfl) T.m_law_taken T.k_law_taken T.b_law_taken .nil passL (pa_cons (pv 0) (pa_cons (pe_op op_add (pe_op op_mulW pe_int (pv 2)) pe_int) pa_nil))) (pv 2))))
  (pss_cons (ps_par (i := 6) (j := 7) (by rfl) sc_law_parts.nd rfl rfl (by decide) rfl rfl (pa_cons (pe_lst pa_nil) (pa_cons (pe_slice sl_str pe_str po_none (po_some (pe_op op_add pe_int (pe_call (ok_law_taken T) (hr.mono (by decide)) (by rfl) T.m_law_taken T.k_law_taken T.b_law_taken .nil passL (pa_cons (pv 0) (pa_cons pe_int pa_nil)))))) pa_nil)) (by rfl))
  (pss_cons (ps_for PassesOwn.never rfl (pi_range1 (by rfl) T.z_range (pa_cons (pv 3) pa_nil)) (pg_name (i := 8) sc_law_parts.nd rfl (Or.inl rfl))
  (pss_one (ps_for PassesOwn.never rfl (pi_str (pv 7)) (pg_name (i := 9) sc_law_parts.nd rfl (Or.inl rfl))
  (pss_one (ps_if (pt_cmpR op_gt (pe_call (ok_law_taken T) (hr.mono (by decide)) (by rfl) T.m_law_taken T.k_law_taken T.b_law_taken .nil passL (pa_cons (pv 0) (pa_cons pe_int pa_nil))) pe_int (nomark _))
  (pss_cons (ps_set (i := 10) sc_law_parts.nd rfl (Or.inl rfl) (pe_call (ok_law_taken T) (hr.mono (by decide)) (by rfl) T.m_law_taken T.k_law_taken T.b_law_taken .nil passL (pa_cons (pv 0) (pa_cons (pv 3) pa_nil))))
  (pss_cons (ps_set (i := 11) sc_law_parts.nd rfl (Or.inl rfl) (pe_op op_sub (pe_ix ix_list (pv 5) (pv 10) (fun _ _ => rfl)) (pe_ix ix_list (pv 5) (pv 8) (fun _ _ => rfl))))
  (C8.pss_cut (ps_if (PW.pt (pw_or (PW.pt (pw_and (pt_cmpR op_eq (pv 4) pe_int (nomark _)) (pw_and1 (pt_cmpR op_eq (pe_call (ok_law_taken T) (hr.mono (by decide)) (by rfl) T.m_law_taken T.k_law_taken T.b_law_taken .nil passL (pa_cons (pv 0) (pa_cons pe_int pa_nil))) pe_int (nomark _))))) (pw_or1 (pt_cmpR op_eq (pv 4) pe_int (nomark _)))))
  (pss_one (ps_set (i := 11) sc_law_parts.nd rfl (Or.inl rfl) (pe_op op_sub (pe_call (ok_law_taken T) (hr.mono (by decide)) (by rfl) T.m_law_taken T.k_law_taken T.b_law_taken .nil passL (pa_cons (pv 0) (pa_cons (pe_op op_add (pe_op op_mulW pe_int (pv 2)) pe_int) pa_nil))) (pv 2))))
  pss_nil)
  (C8.pss_cut (ps_if (PW.pt (pw_and (pt_cmpR op_eq (pv 4) pe_int (nomark _)) (pw_and1 (pt_cmpR op_eq (pe_call (ok_law_taken T) (hr.mono (by decide)) (by rfl) T.m_law_taken T.k_law_taken T.b_law_taken .nil passL (pa_cons (pv 0) (pa_cons pe_int pa_nil))) pe_int (nomark _)))))
  (pss_one (ps_set (i := 11) sc_law_parts.nd rfl (Or.inl rfl) (pe_op op_add (pv 11) pe_int)))
  pss_nil)
  (pss_one (ps_expr (pe_bm PySem.F.plainAttrs_list PySem.F.slot_list_append PySem.F.type_list_append mt_append (pv 6) (pa_cons (pe_tup (pa_cons (pv 8) (pa_cons (pv 9) (pa_cons (pv 10) (pa_cons (pv 11) pa_nil))))) pa_nil))))))))
  pss_nil)))))
  (pss_cons (ps_set (i := 12) sc_law_parts.nd rfl (Or.inl rfl) (pe_callTy call_tuple_of (by rfl) T.z_tuple PySem.Pv.boot_tuple (pa_cons (pe_lc (own := [("_law_stand", 13)]) (g := (gName 13)) rfl sc_law_parts.nd (pi_range1 (by rfl) T.z_range (pa_cons (pv 3) pa_nil)) (blkOk_by (own := [("_law_stand", 13)]) (N := ["_law_row", "_law_stands", "_law_size", "_law_many", "_law_kind", "_law_heights", "_law_steps", "_law_letters", "_law_begun", "_law_letter", "_law_end", "_law_gain", "_law_ends", "_law_stand"]) (sc := defScope s_law_parts) (by decide +kernel)) (fun _ _ _ _ _ => (pg_name (i := 13) sc_law_parts.nd rfl (Or.inl rfl))) (fun _ _ _ _ _ => (pts_one (pt_cmpR op_eq (pe_call (ok_law_taken T) (hr.mono (by decide)) (by rfl) T.m_law_taken T.k_law_taken T.b_law_taken .nil passL (pa_cons (pv 0) (pa_cons pe_int pa_nil))) pe_int (nomark _)))) (fun _ _ _ _ _ => (pv 13))) pa_nil)))
  (pss_one (ps_ret (pe_disp (pps_cons pe_str (pv 3) (pps_cons pe_str (pe_callTy call_tuple_of (by rfl) T.z_tuple PySem.Pv.boot_tuple (pa_cons (pv 6) pa_nil)) (pps_cons pe_str (pv 12) pps_nil))) (by rfl) (by rfl) (fun z => by cases z) (by decide)))))))))), ?_⟩
    walk_at "begin"
    walk_at "go"
    refine ⟨a, _, rfl, by omega, by omega, R0, fun x1 H1 x1a x1b R1 K1 => ?_⟩
    obtain ⟨y, rfl⟩ := Int.eq_ofNat_of_zero_le x1a
    walk_at "go"
    refine ⟨a, 4, rfl, by omega, by decide, R1, fun kind H2 kda kdb R2 K2 => ?_⟩
    walk_at "go"
    have en : (1 + (y : Int)) = ((y + 1 : Nat) : Int) := by omega
    rw [en]
    refine k_rg (by omega) (by omega) fun D hD => ?_
    have K02 := K1.trans K2
    have nD : a ≠ D := R2.ne hD
    have hD0 : H D = none := K02.free nD.symm hD
    have CM : CMulW 2 sz := wide_mul (a := 2) (b := 101) (by decide) (by omega) (by decide) (by decide) (by decide)
    have small : ∀ {hs : List Int} {i : Nat}, hs.length = i → i < 100 → (hs.map V.int).length < sizeLine := fun e q => by
      rw [List.length_map, e]
      exact Nat.lt_trans q (by decide)
    -- the heights
    refine lc_range (lo := 0) (n := (((y + 1 : Nat) : Int)).toNat) (fun i H' => Keep a H H' ∧ RowOk K H' a ∧ ∃ hs : List Int, H' D = some (.lst (hs.map V.int)) ∧ hs.length = i ∧ ∀ h ∈ hs, -sz ≤ h ∧ h ≤ sz)
      ⟨K02.trans (Keep.new hD), R2.same (Same.new hD), [], upd_same, rfl, fun _ h => absurd h (by simp)⟩ ?_ ?_
    · rintro i H3 hi ⟨K3, R3, hs, eD, hl, hb⟩
      walk_at "go"
      refine ⟨rfl, ?_⟩
      walk_at "go"
      refine iteT ?_
      walk_at "go"
      refine k_I CM ?_
      walk_at "go"
      refine ⟨a, _, rfl, by omega, by omega, R3, fun x H4 xa xb R4 K4 => ?_⟩
      walk_at "go"
      have eD4 := K4 _ _ nD.symm eD
      refine ⟨_, eD4, small hl (by omega), (K3.trans K4).mut hD0, R4.keep nD eD4 Keep.at_, hs ++ [x - sz], ?_, ?_, ?_⟩
      · rw [upd_same, List.map_append]; rfl
      · rw [List.length_append, hl]; rfl
      · intro h hh
        rcases List.mem_append.mp hh with hh | hh
        · exact hb h hh
        · have : h = x - sz := by simpa using hh
          omega
    · rintro H3 ⟨K3, R3, hs, eD, hl, hb⟩
      walk_at "go"
      refine ⟨Nat.zero_le _, fun l hl0 => ?_⟩
      have nl : a ≠ l := R3.ne hl0
      have hlH : H l = none := K3.free nl.symm hl0
      have nDl : D ≠ l := ne_of_none eD hl0
      walk_at "go"
      refine ⟨a, 4, rfl, by omega, by decide, R3.same (Same.new hl0), fun x2 H4 xa xb R4 K4 => ?_⟩
      obtain ⟨y2, rfl⟩ := Int.eq_ofNat_of_zero_le xa
      have en2 : (1 + (y2 : Int)) = ((y2 + 1 : Nat) : Int) := by omega
      walk_at "go"
      rw [en2]
      refine k_slS (by decide) ?_
      rw [abcd_cut (by omega) (by omega)]
      walk_at "go"
      refine k_rg (by omega) (by omega) ?_
      have K04 : Keep a H H4 := (K3.trans (Keep.new hl0)).trans K4
      have eD4 : H4 D = some (.lst (hs.map V.int)) := K4 _ _ nD.symm (Keep.new (a := a) hl0 _ _ nD.symm eD)
      have el4 : H4 l = some (.lst []) := K4 _ _ nl.symm upd_same
      clear K3 R3 eD K4
      -- the steps
      obtain ⟨LT, hLT⟩ : ∃ z : Str, z = ⟨(([97, 98, 99, 100] : List Nat).take (y2 + 1)).toArray⟩ := ⟨_, rfl⟩
      rw [← hLT]
      have nat : ∀ z : Nat, ((z : Int)).toNat = z := fun z => rfl
      refine for_range (lo := 0) (n := (((y + 1 : Nat) : Int)).toNat) (fun i σ H' => ∃ ss s8 s9 s10 s11, Keep a H H' ∧ RowOk K H' a ∧ H' D = some (.lst (hs.map V.int)) ∧ Sofar K H' l (y + 1) sz i 0 ss ∧
        σ = [some (.ref a), some (.int (st : Nat)), some (.int sz), some (.int ((y + 1 : Nat) : Int)), some (.int kind), some (.ref D), some (.ref l), some (.str LT), s8, s9, s10, s11, none, none])
        ⟨[], none, none, none, none, K04, R4, eD4, ⟨⟨[], el4, rfl, fun _ _ h => absurd h (by simp)⟩, fun _ h => absurd h (by simp), .nil, fun _ h => absurd h (by simp), fun _ h => absurd h (by simp), Nat.zero_le _⟩, rfl⟩ ?_ ?_
      · rintro i σ H5 hi ⟨ss, s8, s9, s10, s11, K5, R5, eD5, S5, rfl⟩
        walk_at "go"
        refine ⟨_, rfl, for_it walk_str (fun j σ H' => ∃ ss s9 s10 s11, Keep a H H' ∧ RowOk K H' a ∧ H' D = some (.lst (hs.map V.int)) ∧ Sofar K H' l (y + 1) sz i j ss ∧
          σ = [some (.ref a), some (.int (st : Nat)), some (.int sz), some (.int ((y + 1 : Nat) : Int)), some (.int kind), some (.ref D), some (.ref l), some (.str LT), some (.int (0 + (i : Nat))), s9, s10, s11, none, none])
          ⟨ss, s9, s10, s11, K5, R5, eD5, S5, rfl⟩ (fun _ _ _ _ _ => trivial) ?_ ?_⟩
        · rintro j x σ H6 H6' hj ⟨ss, s9, s10, s11, K6, R6, eD6, S6, rfl⟩ ⟨rfl, c, hc, rfl⟩
          have hc' : c = 97 + j ∧ j < 4 := by
            rw [hLT] at hc
            exact abcd_at hc
          obtain ⟨rfl, j4⟩ := hc'
          walk_at "go"
          refine ⟨a, 4, rfl, by omega, by decide, R6, fun x1 H7 _ _ R7 K7 => ?_⟩
          walk_at "go"
          have eD7 := K7 _ _ nD.symm eD6
          obtain ⟨lr, er6⟩ := R6.lst
          have S7 := S6.keep K7 er6 nl.symm
          refine k_ite (fun c1 => ?_) (fun c1 => ?_)
          · walk_at "go"
            refine ⟨a, _, rfl, by omega, by omega, R7, fun x2 H8 x2a x2b R8 K8 => ?_⟩
            obtain ⟨e, rfl⟩ := Int.eq_ofNat_of_zero_le x2a
            have eD8 := K8 _ _ nD.symm eD7
            obtain ⟨lr7, er7⟩ := R7.lst
            have S8 := S7.keep K8 er7 nl.symm
            walk_at "go"
            have le : e < hs.length := by rw [hl, nat]; omega
            have li : i < hs.length := by rw [hl, nat]; omega
            refine k_ixL (SqL.of eD8) (v := .int (hs[e]'le)) (at_of (j := e) rfl (by rw [List.getElem?_map, List.getElem?_eq_getElem le]; rfl)) ?_
            walk_at "go"
            refine k_ixL (SqL.of eD8) (v := .int (hs[i]'li)) (at_of (j := i) (by omega) (by rw [List.getElem?_map, List.getElem?_eq_getElem li]; rfl)) ?_
            have be := hb _ (List.getElem_mem le)
            have bi := hb _ (List.getElem_mem li)
            generalize hs[e]'le = he at be ⊢
            generalize hs[i]'li = hi' at bi ⊢
            walk_at "go"
            have K68 := (K6.trans K7).trans K8
            refine k_cut (fun σ' H' => ∃ g, -(2 * sz) ≤ g ∧ g ≤ 2 * sz ∧ Keep a H H' ∧ RowOk K H' a ∧ H' D = some (.lst (hs.map V.int)) ∧ Sofar K H' l (y + 1) sz i j ss ∧
              σ' = [some (.ref a), some (.int (st : Nat)), some (.int sz), some (.int ((y + 1 : Nat) : Int)), some (.int kind), some (.ref D), some (.ref l), some (.str LT), some (.int (0 + (i : Nat))), some (.str ⟨#[97 + j]⟩), some (.int (e : Nat)), some (.int g), none, none]) ?_ ?_
            · have old : ∀ H', Keep a H8 H' → RowOk K H' a → H' D = some (.lst (hs.map V.int)) ∧ Sofar K H' l (y + 1) sz i j ss := fun H' kk rr => by
                obtain ⟨lr8, er8⟩ := R8.lst
                exact ⟨kk _ _ nD.symm eD8, S8.keep kk er8 nl.symm⟩
              have draw : ∀ H9, Keep a H8 H9 → RowOk K H9 a → ∀ x H10, 0 ≤ x → x < 2 * sz + 1 → RowOk K H10 a → Keep a H9 H10 → -(2 * sz) ≤ x - sz ∧ x - sz ≤ 2 * sz ∧ Keep a H H10 ∧ RowOk K H10 a ∧ H10 D = some (.lst (hs.map V.int)) ∧ Sofar K H10 l (y + 1) sz i j ss := fun H9 k9 r9 x H10 x0 x1 r10 k10 => by
                have o := old H10 (k9.trans k10) r10
                exact ⟨by omega, by omega, (K68.trans k9).trans k10, r10, o.1, o.2⟩
              walk_at "go"
              refine k_ite (fun d1 => ?_) (fun d1 => ?_)
              · walk_at "go"
                refine ⟨a, 4, rfl, by omega, by decide, R8, fun x3 H9 _ _ R9 K9 => ?_⟩
                walk_at "go"
                refine k_ite (fun d2 => ?_) (fun d2 => ?_)
                · refine iteT ?_
                  walk_at "go"
                  refine k_I CM ?_
                  walk_at "go"
                  refine ⟨a, _, rfl, by omega, by omega, R9, fun x4 H10 x4a x4b R10 K10 => ?_⟩
                  walk_at "go"
                  obtain ⟨q1, q2, q3, q4, q5, q6⟩ := draw H9 K9 R9 x4 H10 x4a x4b R10 K10
                  exact ⟨_, q1, q2, q3, q4, q5, q6, rfl⟩
                · walk_at "go"
                  refine k_ite (fun d3 => ?_) (fun d3 => ?_)
                  · rw [d1] at d3; exact absurd d3 (by decide)
                  · walk_at "go"
                    exact ⟨_, by omega, by omega, K68.trans K9, R9, (old H9 K9 R9).1, (old H9 K9 R9).2, rfl⟩
              · refine iteF ?_
                walk_at "go"
                refine k_ite (fun d3 => ?_) (fun d3 => ?_)
                · walk_at "go"
                  refine k_I CM ?_
                  walk_at "go"
                  refine ⟨a, _, rfl, by omega, by omega, R8, fun x4 H10 x4a x4b R10 K10 => ?_⟩
                  walk_at "go"
                  obtain ⟨q1, q2, q3, q4, q5, q6⟩ := draw H8 (Keep.refl _ _) R8 x4 H10 x4a x4b R10 K10
                  exact ⟨_, q1, q2, q3, q4, q5, q6, rfl⟩
                · walk_at "go"
                  exact ⟨_, by omega, by omega, K68, R8, eD8, S8, rfl⟩
            · rintro σ' H9 ⟨g, g1, g2, K9, R9, eD9, S9, rfl⟩
              refine k_cut (fun σ' H' => ∃ g, -(2 * sz + 1) ≤ g ∧ g ≤ 2 * sz + 1 ∧ Keep a H H' ∧ RowOk K H' a ∧ H' D = some (.lst (hs.map V.int)) ∧ Sofar K H' l (y + 1) sz i j ss ∧
                σ' = [some (.ref a), some (.int (st : Nat)), some (.int sz), some (.int ((y + 1 : Nat) : Int)), some (.int kind), some (.ref D), some (.ref l), some (.str LT), some (.int (0 + (i : Nat))), some (.str ⟨#[97 + j]⟩), some (.int (e : Nat)), some (.int g), none, none]) ?_ ?_
              · walk_at "go"
                refine k_ite (fun d1 => ?_) (fun d1 => ?_)
                · walk_at "go"
                  refine ⟨a, 3, rfl, by omega, by decide, R9, fun x3 H10 _ _ R10 K10 => ?_⟩
                  obtain ⟨lr9, er9⟩ := R9.lst
                  have eD10 := K10 _ _ nD.symm eD9
                  have S10 := S9.keep K10 er9 nl.symm
                  walk_at "go"
                  refine k_ite (fun d2 => ?_) (fun d2 => ?_)
                  · walk_at "go"
                    exact ⟨_, by omega, by omega, K9.trans K10, R10, eD10, S10, rfl⟩
                  · walk_at "go"
                    exact ⟨_, by omega, by omega, K9.trans K10, R10, eD10, S10, rfl⟩
                · refine iteF ?_
                  walk_at "go"
                  exact ⟨_, by omega, by omega, K9, R9, eD9, S9, rfl⟩
              · rintro σ' H10 ⟨g, g1, g2, K10, R10, eD10, S10, rfl⟩
                walk_at "go"
                obtain ⟨vs10, el10, _⟩ := S10.at_
                refine ⟨.inl ⟨rfl, _, SqL.of el10⟩, ?_⟩
                walk_at "go"
                refine ⟨(by decide : 4 ≤ sizeLine), fun p hp => ?_⟩
                have z0 : (0 + (i : Nat) : Int) = ((i : Nat) : Int) := by omega
                rw [z0]
                walk_at "go"
                have npl : l ≠ p := ne_of_none el10 hp
                have npD : D ≠ p := ne_of_none eD10 hp
                have el11 : (upd H10 p (.tup [.int (i : Nat), .str ⟨#[97 + j]⟩, .int (e : Nat), .int g])) l = some (.lst vs10) := by rw [upd_ne npl]; exact el10
                have lv : vs10.length < sizeLine := by
                  obtain ⟨vs', e', q'⟩ := S10.at_
                  rw [el10] at e'
                  cases e'
                  have := S10.len
                  have : vs10.length < 100 := by rw [q'.1]; omega
                  exact Nat.lt_trans this (by decide)
                refine k_append el11 lv ?_
                walk_at "go"
                have S11 := S10.snoc hp (by omega) j4 (show e < y + 1 by omega) sz1 g1 g2 vs10 el10
                have R11 := R10.same (Same.new (o := .tup [.int (i : Nat), .str ⟨#[97 + j]⟩, .int (e : Nat), .int g]) hp)
                refine ⟨_, some (.str ⟨#[97 + j]⟩), some (.int (e : Nat)), some (.int g), (K10.trans (Keep.new hp)).mut hlH, R11.keep nl el11 Keep.at_, ?_, S11, ?_⟩
                · rw [upd_ne nDl, upd_ne npD]; exact eD10
                · rfl
          · walk_at "go"
            exact ⟨ss, _, _, _, K6.trans K7, R7, eD7, S7.more (Nat.le_succ _), rfl⟩
        · rintro σ H6 ⟨ss, s9, s10, s11, K6, R6, eD6, S6, rfl⟩
          refine ⟨ss, _, _, _, _, K6, R6, eD6, S6.line ?_, rfl⟩
          rw [hLT]
          simp
          omega
      · rintro σ H5 ⟨ss, s8, s9, s10, s11, K5, R5, eD5, S5, rfl⟩
        obtain ⟨vs, el5, q5⟩ := S5.at_
        walk_at "go"
        refine k_rg (by omega) (by omega) fun B hB => ?_
        have nB : a ≠ B := R5.ne hB
        have hB0 : H B = none := K5.free nB.symm hB
        have nlB : l ≠ B := ne_of_none el5 hB
        -- the ends
        refine lc_range (lo := 0) (n := (((y + 1 : Nat) : Int)).toNat) (fun i H' => Keep a H H' ∧ RowOk K H' a ∧ H' l = some (.lst vs) ∧ StpsAt K H' vs ss ∧ ∃ es : List Nat, H' B = some (.lst (nats es)) ∧ es.length ≤ i ∧ (∀ e ∈ es, e < i) ∧ es.Pairwise (· < ·))
          ⟨K5.trans (Keep.new hB), R5.same (Same.new hB), by rw [upd_ne nlB]; exact el5, (Tups.new hB).steps q5, [], upd_same, Nat.le_refl _, fun _ h => absurd h (by simp), .nil⟩ ?_ ?_
        · rintro i H6 hi ⟨K6, R6, el6, q6, es, eB, h1, h2, h3⟩
          obtain ⟨lr6, er6⟩ := R6.lst
          walk_at "go"
          refine ⟨rfl, ?_⟩
          walk_at "go"
          refine ⟨a, 2, rfl, by omega, by decide, R6, fun x H7 _ _ R7 K7 => ?_⟩
          have eB7 := K7 _ _ nB.symm eB
          have el7 := K7 _ _ nl.symm el6
          have q7 := (K7.tups er6).steps q6
          walk_at "go"
          refine k_ite (fun c => ?_) (fun c => ?_)
          · walk_at "go"
            have z0 : (0 + (i : Nat) : Int) = ((i : Nat) : Int) := by omega
            rw [z0]
            refine ⟨_, eB7, ?_, (K6.trans K7).mut hB0, R7.keep nB eB7 Keep.at_, by rw [upd_ne nlB]; exact el7, (Tups.lst eB7).steps q7, es ++ [i], ?_, ?_, ?_, ?_⟩
            · have : (nats es).length < 100 := by unfold nats; rw [List.length_map]; omega
              exact Nat.lt_trans this (by decide)
            · rw [upd_same]; unfold nats; rw [List.map_append]; rfl
            · rw [List.length_append]; simp; omega
            · intro e he
              rcases List.mem_append.mp he with he | he
              · have := h2 e he; omega
              · have : e = i := by simpa using he
                omega
            · refine List.pairwise_append.mpr ⟨h3, List.pairwise_singleton _ _, fun e he f hf => ?_⟩
              have : f = i := by simpa using hf
              have := h2 e he
              omega
          · exact ⟨K6.trans K7, R7, el7, q7, es, eB7, by omega, fun e he => by have := h2 e he; omega, h3⟩
        · rintro H6 ⟨K6, R6, el6, q6, es, eB, h1, h2, h3⟩
          walk_at "go"
          refine ⟨B, _, rfl, .inl ⟨SqL.of eB, fun u hu => ?_⟩⟩
          have nu : a ≠ u := R6.ne hu
          have K7 := K6.trans (Keep.new (o := .tup (nats es)) hu)
          have R7 := R6.same (Same.new (o := .tup (nats es)) hu)
          have el7 : (upd H6 u (.tup (nats es))) l = some (.lst vs) := by rw [upd_ne (ne_of_none el6 hu)]; exact el6
          have q7 := (Tups.new (o := .tup (nats es)) hu).steps q6
          walk_at "go"
          intro d hd
          have K8 := K7.trans (Keep.new (o := .dK []) hd)
          have R8 := R7.same (Same.new (o := .dK []) hd)
          have el8 : (upd (upd H6 u (.tup (nats es))) d (.dK [])) l = some (.lst vs) := by rw [upd_ne (ne_of_none el7 hd)]; exact el7
          have q8 := (Tups.new (o := .dK []) hd).steps q7
          have hd0 : H d = none := K7.free (R7.ne hd).symm hd
          walk_at "go"
          refine ⟨l, vs, rfl, .inl ⟨SqL.of el8, fun t ht => ?_⟩⟩
          walk_at "go"
          have ntd : d ≠ t := ne_of_none upd_same ht
          have e1 : (upd (upd (upd H6 u (.tup (nats es))) d (.dK [])) t (.tup vs)) d = some (.dK []) := by rw [upd_ne ntd, upd_same]
          refine ⟨e1, [(.inr "stands", .int ((y + 1 : Nat) : Int)), (.inr "steps", .ref t), (.inr "ends", .ref u)], rfl, (by decide : 3 ≤ 15), ?_⟩
          have em : mergeK [] [((.inr "stands" : Key), V.int ((y + 1 : Nat) : Int)), (.inr "steps", .ref t), (.inr "ends", .ref u)] = [(.inr "stands", .int ((y + 1 : Nat) : Int)), (.inr "steps", .ref t), (.inr "ends", .ref u)] := rfl
          rw [em]
          have t9 : Tups (upd (upd H6 u (.tup (nats es))) d (.dK [])) (upd (upd (upd H6 u (.tup (nats es))) d (.dK [])) t (.tup vs)) := Tups.new ht
          have nuD : u ≠ d := ne_of_none (upd_same (H := H6) (o := .tup (nats es))) hd
          have t10 : Tups (upd (upd (upd H6 u (.tup (nats es))) d (.dK [])) t (.tup vs)) (upd (upd (upd (upd H6 u (.tup (nats es))) d (.dK [])) t (.tup vs)) d (.dK [(.inr "stands", .int ((y + 1 : Nat) : Int)), (.inr "steps", .ref t), (.inr "ends", .ref u)])) :=
            ⟨fun b xs e => by rw [upd_ne (fun z => by rw [z, e1] at e; cases e)]; exact e, fun b o xs e => by rw [upd_ne (fun z => by rw [z, e1] at e; cases e)]; exact e⟩
          refine k d ⟨y + 1, ss, es⟩ _ ⟨by show 1 ≤ y + 1; omega, by show y + 1 ≤ 8; omega, S5.ok, S5.up, ?_, fun e he => ?_, h3, ?_⟩ (by show y + 1 ≤ st; omega) S5.gb ⟨t, u, upd_same, ⟨vs, t10.sq (SqT.of upd_same), (t10.steps (t9.steps q8))⟩, ?_⟩ ?_ ?_ hd0
          · have := S5.len
            show ss.length ≤ 32
            rw [nat] at this
            omega
          · have := h2 e he
            rw [nat] at this
            exact this
          · show es.length ≤ 8
            rw [nat] at h1
            omega
          · exact t10.sq (t9.sq ((Tups.new (o := .dK []) hd).sq (SqT.of upd_same)))
          · have R9 := R8.same (Same.new (o := .tup vs) ht)
            obtain ⟨sc, ns, i, z, r, e, q, rest⟩ := R9
            have nad : a ≠ d := R7.ne hd
            refine ⟨sc, ns, i, z, r, by rw [upd_ne nad]; exact e, ?_, rest⟩
            rcases q with ⟨o, q⟩ | q
            · exact .inl ⟨o, by rw [upd_ne (fun z => by rw [z, e1] at q; cases q)]; exact q⟩
            · exact .inr q
          · exact (K8.trans (Keep.new ht)).mut hd0
end
/-! ### name = {k: v for ..} -/
theorem sw_trueD {kx vx : Expr} {gs : List Comprehension} {scope : Scope} {pos py : Pos} {y : Str} {n : Nat} {env : Env} (hk : env.scope.kind = .function) (hy : env.scope.names.lookup y = some .local) (hl : (py.line == pos.line) = true)
    (ha : (scope.names.any fun (m, c) => m == y && (c == .local || c == .cell)) = false) : swapsWith (.DictComp kx vx gs scope pos) (some (.Name y py)) n env = pure true := by
  have k1 : env.kindOf y = some .local := hy
  have k2 : env.blockKind = .function := by
    unfold Env.blockKind
    rw [hk]
    rfl
  unfold swapsWith
  simp only [k1, k2, ha, Expr.pos, hl]
  rfl
section
variable {X : Cx}
theorem ps_setDc {i : Nat} {y : Str} {py : Pos} {kx vx tg it : Expr} {ifs : List Expr} {scope : Scope} {own : List (Str × Nat)} {pos sp : Pos} {wi : TI} {g : TG} {tt : TT} {tk tv : TE} (hc : X.calm = true) (hN : X.N.Nodup)
    (hy : X.N[i]? = some y) (hyl : X.env.scope.names.lookup y = some .local) (hsw : swapsWith (.DictComp kx vx [⟨tg, it, ifs, 0⟩] scope pos) (some (.Name y py)) sp.line X.env = pure true)
    (hi : PI X tg it wi) (ok : BlkOk X.N X.env.scope scope own)
    (hg : ∀ (s : Shared) (H : Hp) (C : Addr) (cl : List (Str × Addr)) (fp : List Addr), PG (X.blk s H scope (compEnvC scope cl C X.env) fp) tg g)
    (ht : ∀ (s : Shared) (H : Hp) (C : Addr) (cl : List (Str × Addr)) (fp : List Addr), PTs (X.blk s H scope (compEnvC scope cl C X.env) fp) ifs tt)
    (hk : ∀ (s : Shared) (H : Hp) (C : Addr) (cl : List (Str × Addr)) (fp : List Addr), PE (X.blk s H scope (compEnvC scope cl C X.env) fp) kx tk)
    (hv : ∀ (s : Shared) (H : Hp) (C : Addr) (cl : List (Str × Addr)) (fp : List Addr), PE (X.blk s H scope (compEnvC scope cl C X.env) fp) vx tv)
    (hs : ∀ x, foldedSetIterable it X.env x = pure x := by intro _; rfl) :
    PS X (.Assign [.Name y py] (.DictComp kx vx [⟨tg, it, ifs, 0⟩] scope pos) sp) (tAsg (tDc wi g tt tk tv (own.map (·.2))) (gName i)) := by
  constructor
  intro pins s σ H D I h
  rw [exec_Assign_Name_used _ _ _ _ hsw]
  refine wpAny_bind (wpAny_standAt (wpAny_bind ?_))
  show wpAny _ X.A (do let _ ← comprehension (.DictComp kx vx [⟨tg, it, ifs, 0⟩] scope pos) scope X.env (firstIterPos [⟨tg, it, ifs, 0⟩] pos) newDict false (eval it X.env) (some (assign (.Name y py) X.env))) _ _ s
  have h' : tDc wi g tt tk tv (own.map (·.2)) σ H (fun x H1 => gName i x σ H1 D.nx) := h
  refine wpAny_bind (thn (dc_core (Qf := fun _ s' => SP X pins D .next s') hc hN I hi ok hg ht hk hv hs h' ?_) fun _ s' hq => wpAny_pure (wpAny_pure hq))
  intro L C s' m H' I' q hn f
  show wpAny _ _ (assign (.Name y py) X.env (.ref L)) _ _ _
  refine wpAny_assign_Name (store_ok2 (v := V.ref L) I' hN hy (.inl hyl) rfl ?_ (.inr hyl))
  rintro s2 I2 ⟨a, sb, ha⟩
  obtain ⟨f0, f1, f2, f3, f4, f5⟩ := f
  have ne : C ≠ a := by
    rcases ha with z | z
    · rw [z]; exact f1
    · exact fun e => f4 y a z e.symm
  exact ⟨m, hn.sameBut sb ne, fun h3 sb3 => ⟨_, H', I2.turned (t' := s2.toks) (fun b o hb e => (sb3.2 b hb).trans e) f0 f1 f3 f4 f5, q⟩⟩
/-- over a list that stays -/
theorem dc_lst {K : PySem.W.Frag} {a : Addr} {xs : List V} {g : TG} {tt : TT} {tk tv : TE} {vs : List Nat} {σ : L2.St} {H1 : Hp} {D : Addr} {Qd : Hp → Prop} (Pv : Nat → Hp → Prop) (h0 : Pv 0 (upd H1 D (.dK [])))
    (hl : ∀ i H, i ≤ xs.length → Pv i H → SqL K H a xs)
    (hs : ∀ i x H, xs[i]? = some x → Pv i H → g x (wipe σ vs) H fun σ2 H2 => wipe σ2 vs = wipe σ vs ∧ tt σ2 H2 fun b H3 =>
      if b = true then tk σ2 H3 fun y H4 => tv σ2 H4 fun z H5 => ∃ kvs k, y = kV k ∧ H5 D = some (.dK kvs) ∧ kvs.length < sizeLine ∧ Pv (i + 1) (upd H5 D (.dK (putK kvs k z))) else Pv (i + 1) H3) (hd : ∀ H, Pv xs.length H → Qd H) :
    ∃ W : Nat → Nat → Hp → Prop, (∃ m, W 0 m (upd H1 D (.dK []))) ∧ ∀ i m H, W i m H → ((Itl K a).stop i H ∧ Qd H) ∨
      ((Itl K a).go i H ∧ ∃ Nx : Hp → Prop, (∀ H', Nx H' → ∃ m', m' < m ∧ W (i + 1) m' H') ∧ ∀ x H', (Itl K a).yld i H x H' → g x (wipe σ vs) H' fun σ2 H2 => wipe σ2 vs = wipe σ vs ∧ tt σ2 H2 fun b H3 =>
        if b = true then tk σ2 H3 fun y H4 => tv σ2 H4 fun z H5 => ∃ kvs k, y = kV k ∧ H5 D = some (.dK kvs) ∧ kvs.length < sizeLine ∧ Nx (upd H5 D (.dK (putK kvs k z))) else Nx H3) := by
  refine ⟨fun i m H => m + i = xs.length ∧ Pv i H, ⟨xs.length, by simp, h0⟩, fun i m H ⟨em, hP⟩ => ?_⟩
  have sq := hl i H (by omega) hP
  by_cases c : i < xs.length
  · refine .inr ⟨⟨xs, xs[i], sq, List.getElem?_eq_getElem c⟩, Pv (i + 1), fun H' z => ⟨m - 1, by omega, by omega, z⟩, ?_⟩
    rintro x H' ⟨rfl, hx⟩
    exact hs i x _ (hx xs sq) hP
  · have e : i = xs.length := by omega
    exact .inl ⟨⟨xs, sq, by omega⟩, hd H (e ▸ hP)⟩
end
/-! ### rows by their codes; what is best so far, by stand -/
abbrev Wd := List Nat
def sOf (w : Wd) : Str := ⟨w.toArray⟩
theorem sOf_snoc (w : Wd) (c : Nat) : sOf w ++ ⟨#[c]⟩ = sOf (w ++ [c]) := by
  show Str.mk (w.toArray ++ #[c]) = _
  rw [List.append_toArray]
  rfl
theorem sOf_len (w : Wd) : (sOf w).length = w.length := by
  show w.toArray.size = _
  simp
theorem sOf_cps (w : Wd) : (sOf w).cps.toList = w := rfl
theorem sOf_inj {v w : Wd} (h : sOf v = sOf w) : v = w := by
  have := congrArg (fun s => s.cps.toList) h
  exact this
abbrev RF := Nat → Option (Int × Wd)
def better (x : Int × Wd) : Option (Int × Wd) → Bool
  | none => true
  | some y => decide (y.1 < x.1) || (decide (x.1 = y.1) && decide (x.2 < y.2))
def RF.put (f : RF) (k : Nat) (x : Int × Wd) : RF := fun j => if j = k then some x else f j
def turnL (sg : Int) (f acc : RF) (s : Stp) : RF := match f s.b with
  | none => acc
  | some y => if better (y.1 + sg * s.g, y.2 ++ [s.c]) (acc s.e) = true then acc.put s.e (y.1 + sg * s.g, y.2 ++ [s.c]) else acc
def longer (sg : Int) (f : RF) (ss : List Stp) : RF := ss.foldl (turnL sg f) fun _ => none
/-! ### dicts from stands to tuples -/
def ent2 (x : Int × Wd) : List V := [.int x.1, .str (sOf x.2)]
def E2 (f : RF) : Nat → Option (List V) := fun n => (f n).map ent2
def KvOk (K : PySem.W.Frag) (H : Hp) (kvs : List (Key × V)) (e : Nat → Option (List V)) : Prop :=
  (∀ p ∈ kvs, ∃ n : Nat, p.1 = .inl (n : Int)) ∧ ∀ n : Nat, (e n = none → valV kvs (.inl (n : Int)) = none) ∧ ∀ l, e n = some l → ∃ p, valV kvs (.inl (n : Int)) = some (.ref p) ∧ SqT K H p l
section
variable {K : PySem.W.Frag} {H H' : Hp} {kvs : List (Key × V)} {e : Nat → Option (List V)}
theorem KvOk.tups (h : KvOk K H kvs e) (t : Tups H H') : KvOk K H' kvs e := ⟨h.1, fun n => ⟨(h.2 n).1, fun l el => let ⟨p, q, z⟩ := (h.2 n).2 l el; ⟨p, q, t.sq z⟩⟩⟩
theorem KvOk.nil : KvOk K H [] fun _ => none := ⟨fun _ h => absurd h (by simp), fun n => ⟨fun _ => rfl, fun l h => by cases h⟩⟩
theorem KvOk.put {n : Nat} {p : Addr} {l : List V} (h : KvOk K H kvs e) (hp : SqT K H p l) : KvOk K H (putK kvs (.inl (n : Int)) (.ref p)) fun j => if j = n then some l else e j := by
  refine ⟨fun q hq => ?_, fun j => ?_⟩
  · unfold putK at hq
    split at hq
    · obtain ⟨r, hr, rfl⟩ := List.mem_map.mp hq
      split
      · rename_i z; exact ⟨n, z⟩
      · exact h.1 r hr
    · rcases List.mem_append.mp hq with hq | hq
      · exact h.1 q hq
      · have : q = (.inl (n : Int), .ref p) := by simpa using hq
        exact ⟨n, by rw [this]⟩
  · rw [valV_put]
    by_cases c : j = n
    · have c' : (Sum.inl (j : Int) : Key) = .inl (n : Int) := by rw [c]
      simp only [if_pos c, if_pos c']
      refine ⟨fun z => (by cases z), fun l' el => ?_⟩
      cases el
      exact ⟨p, rfl, hp⟩
    · have c' : ¬ (Sum.inl (j : Int) : Key) = .inl (n : Int) := fun z => c (by injection z with z; omega)
      simp only [if_neg c, if_neg c']
      exact h.2 j
theorem KvOk.congr {e' : Nat → Option (List V)} (h : KvOk K H kvs e) (q : ∀ n, e n = e' n) : KvOk K H kvs e' := (funext q : e = e') ▸ h
end
theorem E2_put (f : RF) (k : Nat) (x : Int × Wd) (n : Nat) : (if n = k then some (ent2 x) else E2 f n) = E2 (f.put k x) n := by
  unfold E2 RF.put
  by_cases c : n = k
  · rw [if_pos c, if_pos c]; rfl
  · rw [if_neg c, if_neg c]
theorem Same.mut {p : Addr} {H H' : Hp} {o : HO} (x : Same H H') (hp : H p = none) : Same H (upd H' p o) := fun b u h => by rw [upd_ne (ne_of_none h hp)]; exact x b u h
theorem Tups.dk {p : Addr} {H : Hp} {kvs : List (Key × V)} {o : HO} (h : H p = some (.dK kvs)) : Tups H (upd H p o) :=
  ⟨fun b xs e => by rw [upd_ne (fun z => by rw [z, h] at e; cases e)]; exact e, fun b _ xs e => by rw [upd_ne (fun z => by rw [z, h] at e; cases e)]; exact e⟩
theorem Tups.dT {p : Addr} {H : Hp} {kvs : List (List Key × V)} {o : HO} (h : H p = some (.dT kvs)) : Tups H (upd H p o) :=
  ⟨fun b xs e => by rw [upd_ne (fun z => by rw [z, h] at e; cases e)]; exact e, fun b _ xs e => by rw [upd_ne (fun z => by rw [z, h] at e; cases e)]; exact e⟩
theorem take_fold {α β : Type} (f : β → α → β) (z : β) {l : List α} {i : Nat} {x : α} (h : l[i]? = some x) : (l.take (i + 1)).foldl f z = f ((l.take i).foldl f z) x := by
  rw [List.take_add_one, h, List.foldl_append]
  rfl
/-! ### the parts read off a machine -/
section
variable {P : Program} {w : World} {K : PySem.W.Frag} {mg : Str → Option Value} {base : Heap}
theorem ok_Machine_stands (T : Txt K mg) : FnOk P w K mg base (L2.CX P w) 1 T.a_Machine_stands T.fd_Machine_stands ["self"] (getSp T.c_Machine "_stands") := by
  refine T.F_Machine_stands.okX sc_Machine_stands (fun vs H Q E h => ?_) (fun cdv A outer s H vs Q E hr h => ?_)
  · obtain ⟨a, dx, fs, v, rfl, _⟩ := h
    rfl
  · obtain ⟨a, dx, fs, v, rfl, ha, hl, k⟩ := h
    refine ⟨_, (PSs.nox (pss_one (ps_ret (pe_fld (pv 0) rfl)))), ?_⟩
    exact ⟨_, rfl, a, _, dx, fs, v, rfl, ha, T.cl_Machine, T.n__stands, hl, k⟩
theorem ok_Machine_steps (T : Txt K mg) : FnOk P w K mg base (L2.CX P w) 1 T.a_Machine_steps T.fd_Machine_steps ["self"] (getSp T.c_Machine "_steps") := by
  refine T.F_Machine_steps.okX sc_Machine_steps (fun vs H Q E h => ?_) (fun cdv A outer s H vs Q E hr h => ?_)
  · obtain ⟨a, dx, fs, v, rfl, _⟩ := h
    rfl
  · obtain ⟨a, dx, fs, v, rfl, ha, hl, k⟩ := h
    refine ⟨_, (PSs.nox (pss_one (ps_ret (pe_fld (pv 0) rfl)))), ?_⟩
    exact ⟨_, rfl, a, _, dx, fs, v, rfl, ha, T.cl_Machine, T.n__steps, hl, k⟩
end
/-! ### the ends read off a machine -/
section
variable {P : Program} {w : World} {K : PySem.W.Frag} {mg : Str → Option Value} {base : Heap}
theorem ok_Machine_ends (T : Txt K mg) : FnOk P w K mg base (L2.CX P w) 1 T.a_Machine_ends T.fd_Machine_ends ["self"] (getSp T.c_Machine "_ends") := by
  refine T.F_Machine_ends.okX sc_Machine_ends (fun vs H Q E h => ?_) (fun cdv A outer s H vs Q E hr h => ?_)
  · obtain ⟨a, dx, fs, v, rfl, _⟩ := h
    rfl
  · obtain ⟨a, dx, fs, v, rfl, ha, hl, k⟩ := h
    refine ⟨_, (PSs.nox (pss_one (ps_ret (pe_fld (pv 0) rfl)))), ?_⟩
    exact ⟨_, rfl, a, _, dx, fs, v, rfl, ha, T.cl_Machine, T.n__ends, hl, k⟩
end
/-! ### which stands have a better row; which stands letters lead to -/
inductive Reach (ss : List Stp) (l : List Nat) : Nat → Prop
  | base {n : Nat} : n ∈ l → Reach ss l n
  | step {s : Stp} : s ∈ ss → Reach ss l s.b → Reach ss l s.e
def fkv (F : List Nat) : List (Key × V) := F.map fun (n : Nat) => ((.inl (n : Int) : Key), V.bl true)
theorem key_eq (a b : Nat) : ((Sum.inl (a : Int) : Key) = .inl (b : Int)) ↔ a = b := ⟨fun z => by injection z with z; omega, fun z => by rw [z]⟩
theorem valV_fkv (n : Nat) : ∀ F : List Nat, valV (fkv F) (.inl (n : Int)) = if n ∈ F then some (.bl true) else none
  | [] => rfl
  | a :: F => by
    have ih := valV_fkv n F
    by_cases c : a = n
    · rw [if_pos (by rw [c]; exact List.mem_cons_self)]
      exact valV_pos (p := ((.inl (a : Int) : Key), V.bl true)) ((key_eq a n).mpr c)
    · have e : valV (fkv (a :: F)) (.inl (n : Int)) = valV (fkv F) (.inl (n : Int)) := valV_neg (p := ((.inl (a : Int) : Key), V.bl true)) fun z => c ((key_eq a n).mp z)
      rw [e, ih]
      by_cases d : n ∈ F
      · rw [if_pos d, if_pos (List.mem_cons_of_mem _ d)]
      · rw [if_neg d, if_neg (fun z => by rcases List.mem_cons.mp z with z | z; exact c z.symm; exact d z)]
def addN (F : List Nat) (n : Nat) : List Nat := if n ∈ F then F else F ++ [n]
theorem addN_mem {F : List Nat} {n k : Nat} : k ∈ addN F n ↔ k ∈ F ∨ k = n := by
  unfold addN
  by_cases c : n ∈ F
  · rw [if_pos c]
    exact ⟨.inl, fun z => by rcases z with z | rfl <;> assumption⟩
  · rw [if_neg c, List.mem_append, List.mem_singleton]
theorem addN_nodup {F : List Nat} {n : Nat} (h : F.Nodup) : (addN F n).Nodup := by
  unfold addN
  by_cases c : n ∈ F
  · rw [if_pos c]; exact h
  · rw [if_neg c]
    exact List.nodup_append.mpr ⟨h, by simp, fun a ha b hb e => by rw [List.mem_singleton] at hb; rw [e, hb] at ha; exact c ha⟩
theorem putK_fkv (F : List Nat) (n : Nat) : putK (fkv F) (.inl (n : Int)) (.bl true) = fkv (addN F n) := by
  by_cases c : n ∈ F
  · unfold addN putK
    have h := valV_any (.inl (n : Int) : Key) (fkv F)
    rw [valV_fkv, if_pos c] at h
    rw [h, if_pos c, if_pos (show (some (V.bl true)).isSome = true from rfl)]
    unfold fkv
    rw [List.map_map]
    refine List.map_congr_left fun a _ => ?_
    show (if (Sum.inl (a : Int) : Key) = .inl (n : Int) then ((Sum.inl (a : Int) : Key), V.bl true) else ((Sum.inl (a : Int) : Key), V.bl true)) = _
    split <;> rfl
  · rw [putK_new _ (by rw [valV_fkv, if_neg c])]
    unfold addN fkv
    rw [if_neg c, List.map_append]
    rfl
theorem nats_snoc (l : List Nat) (n : Nat) : nats (l ++ [n]) = nats l ++ [.int (n : Nat)] := by unfold nats; rw [List.map_append]; rfl
theorem nats_at {l : List Nat} {i : Nat} {x : V} (h : (nats l)[i]? = some x) : ∃ n, l[i]? = some n ∧ x = .int (n : Nat) := by
  unfold nats at h
  rw [List.getElem?_map] at h
  cases e : l[i]? with
  | none => rw [e] at h; cases h
  | some n => rw [e] at h; exact ⟨n, rfl, (Option.some.inj h).symm⟩
theorem nodup_small {F : List Nat} {n : Nat} (h : F.Nodup) (b : ∀ k ∈ F, k < n) : F.length ≤ n := by
  induction n generalizing F with
  | zero =>
    cases F with
    | nil => exact Nat.le_refl _
    | cons a F => exact absurd (b a List.mem_cons_self) (Nat.not_lt_zero _)
  | succ n ih =>
    by_cases c : n ∈ F
    · have e1 := ih (F := F.erase n) (h.erase n) fun k hk => by
        have hk' := (List.Nodup.mem_erase_iff h).mp hk
        have := b k hk'.2
        have := hk'.1
        omega
      rw [List.length_erase_of_mem c] at e1
      omega
    · have := ih h fun k hk => by
        have := b k hk
        have : k ≠ n := fun z => c (z ▸ hk)
        omega
      omega
def sp_led (K : PySem.W.Frag) : Sp := fun vs H Q _ => ∃ (t p : Addr) (N : Nat) (ss : List Stp) (l : List Nat), vs = [.ref t, .ref p] ∧ StSq K H t ss ∧ SsOk N ss ∧ H p = some (.lst (nats l)) ∧ (∀ n ∈ l, n < N) ∧ l.length ≤ 300 ∧
  ∀ q (l' : List Nat) H', Same H H' → H q = none → H' q = some (.lst (nats l')) → (∀ n, n ∈ l' ↔ Reach ss l n) → l'.Pairwise (· < ·) → Q (.ref q) H'
theorem nodup_sub {α : Type} [DecidableEq α] : ∀ {l T : List α}, l.Nodup → (∀ x ∈ l, x ∈ T) → l.length ≤ T.length
  | [], _, _, _ => Nat.zero_le _
  | a :: l, T, h, s => by
    have q := List.nodup_cons.mp h
    have i := nodup_sub (T := T.erase a) q.2 fun x hx => (List.mem_erase_of_ne (fun e => q.1 (by rw [← e]; exact hx))).mpr (s x (List.mem_cons_of_mem _ hx))
    have m := s a List.mem_cons_self
    have := List.length_erase_of_mem m
    have := List.length_pos_of_mem m
    rw [List.length_cons]
    omega
theorem inV_nats (n : Nat) : ∀ l : List Nat, inV (.int (n : Nat)) (nats l) = decide (n ∈ l)
  | [] => rfl
  | a :: l => by
    have ih := inV_nats n l
    unfold inV nats at ih ⊢
    rw [List.map_cons, List.any_cons, ih]
    have e : eqV (.int (a : Nat)) (.int (n : Nat)) = decide (n = a) := by
      show ((((a : Nat) : Int)) == ((n : Nat) : Int)) = decide (n = a)
      rw [Bool.eq_iff_iff, beq_iff_eq, decide_eq_true_iff]
      omega
    rw [e]
    by_cases c : n = a
    · subst c
      simp
    · simp [c]
theorem flat_nats : ∀ l : List Nat, (nats l).all flatV = true
  | [] => rfl
  | a :: l => by
    show (flatV (.int (a : Nat)) && (nats l).all flatV) = true
    rw [flat_nats l]
    rfl
theorem dec_int (a b : Int) : decide (V.int a = V.int b) = decide (a = b) := decide_eq_decide.mpr ⟨fun h => by injection h, fun h => by rw [h]⟩
/-! ### a machine is one -/
def sp_check_machine (C : Addr) : Sp := fun vs H Q _ => ∃ x dx fs, vs = [.ref x] ∧ H x = some (.ins C dx fs) ∧ Q .non H
section
variable {P : Program} {w : World} {K : PySem.W.Frag} {mg : Str → Option Value} {base : Heap}
theorem ty_Machine (T : Txt K mg) {H : Hp} {x dx : Addr} {fs : List (Str × V)} (h : H x = some (.ins T.c_Machine dx fs)) : TyX K H (.ref x) (.ref T.c_Machine) := .base (.ins h T.cl_Machine T.i1_Machine T.i2_Machine T.i3_Machine T.i4_Machine)
theorem kit_self {C : Addr} : PySem.W.kitOne K (.ref C) (.ref C) = some true := by
  unfold PySem.W.kitOne
  rw [if_pos (by simp)]
theorem ok_check_machine (T : Txt K mg) : FnOk P w K mg base (L2.CX P w) 1 T.a_check_machine T.fd_check_machine ["value"] (sp_check_machine T.c_Machine) := by
  refine T.F_check_machine.okX sc_check_machine (fun vs H Q E h => ?_) (fun cdv A outer s H vs Q E hr h => ?_)
  · obtain ⟨x, dx, fs, rfl, _⟩ := h
    rfl
  · obtain ⟨x, dx, fs, rfl, hx, k⟩ := h
    refine ⟨_, (PSs.nox (pss_one (ps_if (pt_not (pt_val (pe_callB call_isi (by rfl) T.z_isinstance (by decide +kernel) (pa_cons (pv 0) (pa_cons (pe_glob (v := .ref T.c_Machine) (by rfl) T.m_Machine rfl) pa_nil)))))
  (pss_one ps_never)
  pss_nil))), ?_⟩
    walk_at "begin"
    walk_at "go"
    refine k_isi (.own _) (ty_Machine T hx) kit_self ?_
    walk_at "go"
    refine iteF ?_
    walk_at "go"
    exact k
end
/-! ### the steps from a stand -/
def nxV (s : Stp) : List V := [.str ⟨#[s.c]⟩, .int (s.e : Nat), .int s.g]
def NxAt (K : PySem.W.Frag) (H : Hp) (vs : List V) (ns : List Stp) : Prop := vs.length = ns.length ∧ ∀ (i : Nat) (s : Stp), ns[i]? = some s → ∃ p, vs[i]? = some (V.ref p) ∧ SqT K H p (nxV s)
theorem NxAt.tups {K : PySem.W.Frag} {H H' : Hp} {vs : List V} {ns : List Stp} (h : NxAt K H vs ns) (t : Tups H H') : NxAt K H' vs ns := ⟨h.1, fun i s e => let ⟨p, q, z⟩ := h.2 i s e; ⟨p, q, t.sq z⟩⟩
theorem NxAt.snoc {K : PySem.W.Frag} {H : Hp} {vs : List V} {ns : List Stp} {p : Addr} {s : Stp} (h : NxAt K H vs ns) (q : SqT K H p (nxV s)) : NxAt K H (vs ++ [V.ref p]) (ns ++ [s]) := by
  refine ⟨by rw [List.length_append, List.length_append, h.1]; rfl, fun i t e => ?_⟩
  by_cases c : i < ns.length
  · rw [List.getElem?_append_left c] at e
    obtain ⟨r, e1, q1⟩ := h.2 i t e
    exact ⟨r, by rw [List.getElem?_append_left (by rw [h.1]; exact c)]; exact e1, q1⟩
  · rw [List.getElem?_append_right (by omega)] at e
    have z : i - ns.length = 0 := by
      have := (List.getElem?_eq_some_iff.mp e).1
      simp at this
      omega
    rw [z] at e
    cases e
    exact ⟨p, by rw [List.getElem?_append_right (by rw [h.1]; omega), h.1, z]; rfl, q⟩
def fromS (m : MD) (n : Nat) : List Stp := m.ss.filter fun s => s.b == n
def sp_next (K : PySem.W.Frag) : Sp := fun vs H Q _ => ∃ (d : Addr) (n : Nat) (m : MD), vs = [.ref d, .int (n : Nat)] ∧ DAt K H d m ∧ m.Ok ∧
  ∀ p us H', Same H H' → H p = none → H' p = some (.lst us) → NxAt K H' us (fromS m n) → Q (.ref p) H'
section
variable {P : Program} {w : World} {K : PySem.W.Frag} {mg : Str → Option Value} {base : Heap}
theorem ok_law_next (T : Txt K mg) : FnOk P w K mg base (L2.CX P w) 1 T.a_law_next T.fd_law_next ["_law_d", "_law_stand"] (sp_next K) := by
  refine T.F_law_next.okX sc_law_next (fun vs H Q E h => ?_) (fun cdv A outer s H vs Q E hr h => ?_)
  · obtain ⟨d, n, m, rfl, _⟩ := h
    rfl
  · obtain ⟨d, n, m, rfl, ⟨t, u, hd, ⟨us, ht, hs⟩, hu⟩, o, k⟩ := h
    refine ⟨_, (PSs.nox (pss_one (ps_ret (pe_lc (own := [("_law_begun", 2), ("_law_letter", 3), ("_law_end", 4), ("_law_gain", 5)]) (g := (gTup K 4 (gCons (gName 2) (gCons (gName 3) (gCons (gName 4) (gCons (gName 5) gNil)))))) rfl sc_law_next.nd (pi_tup (pe_dget (hu_of hr) (pv 0) pe_str (fun _ _ => rfl))) (blkOk_by (own := [("_law_begun", 2), ("_law_letter", 3), ("_law_end", 4), ("_law_gain", 5)]) (N := ["_law_d", "_law_stand", "_law_begun", "_law_letter", "_law_end", "_law_gain"]) (sc := defScope s_law_next) (by decide +kernel)) (fun _ _ _ _ _ => (pg_tup rfl (pgs_cons (pg_name (i := 2) sc_law_next.nd rfl (Or.inl rfl)) (pgs_cons (pg_name (i := 3) sc_law_next.nd rfl (Or.inl rfl)) (pgs_cons (pg_name (i := 4) sc_law_next.nd rfl (Or.inl rfl)) (pgs_cons (pg_name (i := 5) sc_law_next.nd rfl (Or.inl rfl)) pgs_nil)))))) (fun _ _ _ _ _ => (pts_one (pt_cmpR op_eq (pv 2) (pv 1) (nomark _)))) (fun _ _ _ _ _ => (pe_tup (pa_cons (pv 3) (pa_cons (pv 4) (pa_cons (pv 5) pa_nil))))))))), ?_⟩
    walk_at "begin"
    walk_at "go"
    refine ⟨d, .ref t, rfl, DGet.k (k := .inr "steps") hd, t, rfl, ⟨us, ht⟩, fun D hD => ?_⟩
    refine lc_tup (xs := us) (fun i H' => Same H H' ∧ ∃ ws, H' D = some (.lst ws) ∧ NxAt K H' ws ((m.ss.take i).filter fun s => s.b == n) ∧ ws.length ≤ i) ⟨Same.new hD, [], upd_same, ⟨rfl, fun i s e => by simp at e⟩, Nat.le_refl _⟩
      (fun i H' _ ⟨z, _⟩ => (same_tups z).sq ht) ?_ ?_
    · rintro i y H1 hy ⟨z, ws, eD, nx, lw⟩
      have il : i < m.ss.length := by rw [← hs.1]; exact (List.getElem?_eq_some_iff.mp hy).1
      have ei : m.ss[i]? = some (m.ss[i]'il) := List.getElem?_eq_getElem il
      obtain ⟨q, eq, hq⟩ := hs.2 i _ ei
      rw [hy] at eq
      cases eq
      have l32 := o.len
      have tk : (m.ss.take (i + 1)).filter (fun s => s.b == n) = (m.ss.take i).filter (fun s => s.b == n) ++ (if (m.ss[i]'il).b == n then [m.ss[i]'il] else []) := by
        rw [List.take_add_one, ei, List.filter_append]
        congr 1
        show List.filter _ [m.ss[i]'il] = _
        rw [List.filter_cons]
        rfl
      rw [tk]
      generalize m.ss[i]'il = s0 at hq
      refine k_gt ((same_tups z).sq hq) rfl ?_
      unfold stpV
      walk_at "go"
      refine ⟨rfl, ?_⟩
      walk_at "go"
      refine k_ite (fun c => ?_) (fun c => ?_)
      · have c' : s0.b = n := by
          injection c with c
          omega
        walk_at "go"
        refine ⟨(by decide : 3 ≤ sizeLine), fun pn hpn => ?_⟩
        have eD2 : (upd H1 pn (.tup [.str ⟨#[s0.c]⟩, .int (s0.e : Nat), .int s0.g])) D = some (.lst ws) := by rw [upd_ne (ne_of_none eD hpn)]; exact eD
        refine ⟨ws, eD2, Nat.lt_trans (show ws.length < 100 by omega) (by decide), Same.mut (z.trans (Same.new hpn)) hD, _, upd_same, ?_, by rw [List.length_append, List.length_singleton]; omega⟩
        rw [if_pos (by rw [c']; exact beq_self_eq_true n)]
        exact ((nx.tups (Tups.new hpn)).snoc (SqT.of upd_same)).tups (Tups.lst eD2)
      · have c' : ¬ s0.b = n := fun z => c (by rw [z])
        refine ⟨z, ws, eD, ?_, by omega⟩
        rw [if_neg (by simpa using c'), List.append_nil]
        exact nx
    · rintro H1 ⟨z, ws, eD, nx, lw⟩
      rw [hs.1, List.take_length] at nx
      walk_at "go"
      exact k D ws H1 z hD eD nx
end
/-! ### dicts from stands to integers -/
abbrev LF := Nat → Option Int
def KvI (kvs : List (Key × V)) (f : LF) : Prop := (∀ p ∈ kvs, ∃ n : Nat, p.1 = .inl (n : Int)) ∧ ∀ n : Nat, valV kvs (.inl (n : Int)) = (f n).map V.int
theorem KvI.put {kvs : List (Key × V)} {f : LF} (h : KvI kvs f) (n : Nat) (v : Int) : KvI (putK kvs (.inl (n : Int)) (.int v)) (fun j => if j = n then some v else f j) := by
  refine ⟨fun q hq => ?_, fun j => ?_⟩
  · unfold putK at hq
    split at hq
    · obtain ⟨r, hr, rfl⟩ := List.mem_map.mp hq
      split
      · rename_i z; exact ⟨n, z⟩
      · exact h.1 r hr
    · rcases List.mem_append.mp hq with hq | hq
      · exact h.1 q hq
      · have : q = (.inl (n : Int), .int v) := by simpa using hq
        exact ⟨n, by rw [this]⟩
  · rw [valV_put]
    by_cases c : j = n
    · have c' : (Sum.inl (j : Int) : Key) = .inl (n : Int) := by rw [c]
      simp only [if_pos c, if_pos c']
      rfl
    · have c' : ¬ (Sum.inl (j : Int) : Key) = .inl (n : Int) := fun z => c (by injection z with z; omega)
      simp only [if_neg c, if_neg c']
      exact h.2 j
theorem KvI.key {kvs : List (Key × V)} {f : LF} (h : KvI kvs f) {k : Key} {v : V} (hk : (k, v) ∈ kvs) : ∃ (n : Nat) (u : Int), k = .inl (n : Int) ∧ f n = some u := by
  obtain ⟨n, rfl⟩ : ∃ n : Nat, k = .inl (n : Int) := h.1 _ hk
  cases e : f n with
  | some u => exact ⟨n, u, rfl, e⟩
  | none =>
    have q := h.2 n
    rw [e] at q
    have a := valV_any (.inl (n : Int) : Key) kvs
    rw [q] at a
    have : kvs.any (fun kv => decide (kv.1 = (.inl (n : Int) : Key))) = true := List.any_eq_true.mpr ⟨_, hk, decide_eq_true rfl⟩
    rw [this] at a
    cases a
theorem KvI.has {kvs : List (Key × V)} {f : LF} (h : KvI kvs f) {n : Nat} {u : Int} (e : f n = some u) : ∃ (i : Nat) (v : V), kvs[i]? = some ((Sum.inl (n : Int) : Key), v) := by
  have q := h.2 n
  rw [e] at q
  have a := valV_any (.inl (n : Int) : Key) kvs
  rw [q] at a
  obtain ⟨kv, hm, hd⟩ := List.any_eq_true.mp (a.trans rfl)
  obtain ⟨j, hj, ej⟩ := List.getElem_of_mem hm
  have hd' : kv.1 = .inl (n : Int) := of_decide_eq_true hd
  refine ⟨j, kv.2, ?_⟩
  rw [List.getElem?_eq_getElem hj, ej, ← hd']
theorem putK_nodup {kvs : List (Key × V)} (k : Key) (v : V) (h : (kvs.map (·.1)).Nodup) : ((putK kvs k v).map (·.1)).Nodup := by
  unfold putK
  split
  · rename_i c
    have : (kvs.map fun kv => if kv.1 = k then (kv.1, v) else kv).map (·.1) = kvs.map (·.1) := by
      rw [List.map_map]
      refine List.map_congr_left fun a _ => ?_
      show (if a.1 = k then (a.1, v) else a).1 = a.1
      split
      · rfl
      · rfl
    first
      | rw [this]; exact h
      | (show ((kvs.map _).map _).Nodup; rw [this]; exact h)
  · rename_i c
    rw [List.map_append]
    refine List.nodup_append.mpr ⟨h, by simp, fun a ha b hb e => ?_⟩
    have hb' : b = k := by simpa using hb
    obtain ⟨kv, hm, rfl⟩ := List.mem_map.mp ha
    exact c (List.any_eq_true.mpr ⟨kv, hm, decide_eq_true (by rw [e, hb'])⟩)
theorem KvI.len {kvs : List (Key × V)} {f : LF} {N : Nat} (h : KvI kvs f) (nd : (kvs.map (·.1)).Nodup) (hb : ∀ n u, f n = some u → n < N) : kvs.length ≤ N := by
  have all : ∀ p ∈ kvs, ∃ n : Nat, p.1 = .inl (n : Int) ∧ n < N := fun p hp => by
    obtain ⟨n, u, e, fe⟩ := h.key (k := p.1) (v := p.2) hp
    exact ⟨n, e, hb _ _ fe⟩
  obtain ⟨l, el, hl⟩ : ∃ l : List Nat, kvs.map (·.1) = l.map (fun n : Nat => (.inl (n : Int) : Key)) ∧ ∀ n ∈ l, n < N := by
    clear nd h
    induction kvs with
    | nil => exact ⟨[], rfl, fun n hn => absurd hn (by simp)⟩
    | cons a r ih =>
      obtain ⟨n, en, hn⟩ := all a List.mem_cons_self
      obtain ⟨l, el, hl⟩ := ih fun p hp => all p (List.mem_cons_of_mem _ hp)
      exact ⟨n :: l, by rw [List.map_cons, List.map_cons, el, en], fun k hk => by
        rcases List.mem_cons.mp hk with rfl | hk
        · exact hn
        · exact hl k hk⟩
  have e1 : kvs.length = l.length := by
    have := congrArg List.length el
    rwa [List.length_map, List.length_map] at this
  rw [e1]
  rw [el] at nd
  refine nodup_small ?_ hl
  have : ∀ l : List Nat, (l.map (fun n : Nat => (.inl (n : Int) : Key))).Nodup → l.Nodup := fun l => by
    induction l with
    | nil => exact fun _ => .nil
    | cons a r ih =>
      intro q
      rw [List.map_cons, List.nodup_cons] at q
      rw [List.nodup_cons]
      exact ⟨fun z => q.1 (List.mem_map.mpr ⟨a, z, rfl⟩), ih q.2⟩
  exact this l nd
/-! ### d.setdefault -/
theorem k_dsetd {td ty tx : TE} {σ : L2.St} {H : Hp} {Q : VK} (h : td σ H fun x H1 => ∃ a, x = .ref a ∧ IsD H1 a ∧ ty σ H1 fun y H2 => tx σ H2 fun z H3 => ∃ (kvs : List (Key × V)) (k : Key), H3 a = some (.dK kvs) ∧ y = kV k ∧ kvs.length < sizeLine ∧
  (∀ v, valV kvs k = some v → Q v H3) ∧ (valV kvs k = none → Q z (upd H3 a (.dK (putK kvs k z))))) : tDSetd td ty tx σ H Q := h
/-! ### for k, v in d.get(..).items(): the dict is locked when it is there, and opened behind the loop -/
def tLk (N : Addr → Prop) (te : TE) : TE := fun σ H Q => te σ H fun x H1 => ∃ (d : Addr) (kvs : List (Key × V)), x = .ref d ∧ H1 d = some (.dK kvs) ∧ ∀ od, N d → Q x (upd H1 d (.frz od (.dK kvs)))
def openD (N : Addr → Prop) (D : Ends) : Ends :=
  ⟨fun σ' H' => ∃ d od u, N d ∧ H' d = some (.frz od u) ∧ D.nx σ' (upd H' d u), fun v H' => ∃ d od u, N d ∧ H' d = some (.frz od u) ∧ D.rt v (upd H' d u), fun σ' H' => ∃ d od u, N d ∧ H' d = some (.frz od u) ∧ D.bk σ' (upd H' d u), fun σ' H' => ∃ d od u, N d ∧ H' d = some (.frz od u) ∧ D.ct σ' (upd H' d u)⟩
def tOpen (N : Addr → Prop) (t : TS) : TS := fun D σ H => t (openD N D) σ H
def NoFz (H0 : Hp) : Addr → Prop := fun d => ∀ o' u', H0 d ≠ some (.frz o' u')
section
variable {X : L2.Cx}
theorem pe_lk {e : Expr} {te : TE} (h : PE X e te) : PE X e (tLk (NoFz X.H_0) te) := by
  constructor
  intro pins s σ H Q I q
  refine thn (h.run pins s σ H _ I q) ?_
  rintro v s1 ⟨x, H1, I1, r, d, kvs, rfl, hd, k⟩
  obtain ⟨od, I2⟩ := I1.lock hd trivial
  exact ⟨_, _, I2, r, k od (I1.nofrz hd trivial)⟩
theorem ps_open {st : Stmt} {t : TS} (h : PS X st t) : PS X st (tOpen (NoFz X.H_0) t) := by
  constructor
  intro pins s σ H D I q
  refine thn (h.run pins s σ H _ I q) ?_
  intro f s1 z
  cases f with
  | next => obtain ⟨σ', H', I2, d, od, u, n, e, z⟩ := z; exact ⟨σ', _, Inv.unlock I2 e n, z⟩
  | brk => obtain ⟨σ', H', I2, d, od, u, n, e, z⟩ := z; exact ⟨σ', _, Inv.unlock I2 e n, z⟩
  | cont => obtain ⟨σ', H', I2, d, od, u, n, e, z⟩ := z; exact ⟨σ', _, Inv.unlock I2 e n, z⟩
  | ret v => obtain ⟨x, σ', H', I2, r, d, od, u, n, e, z⟩ := z; exact ⟨x, σ', _, Inv.unlock I2 e n, r, z⟩
end
theorem k_open {N : Addr → Prop} {t : TS} {D : Ends} {σ : L2.St} {H : Hp} (h : t (openD N D) σ H) : tOpen N t D σ H := h
theorem k_items {te : TE} {σ : L2.St} {H : Hp} {R : It → Hp → Prop} (h : te σ H fun x H1 => ∃ d o kvs, x = .ref d ∧ H1 d = some (.frz o (.dK kvs)) ∧ R (Iti d o kvs) H1) : iItems te σ H R := h
theorem k_lk {N : Addr → Prop} {te : TE} {σ : L2.St} {H : Hp} {Q : VK} (h : te σ H fun x H1 => ∃ (d : Addr) (kvs : List (Key × V)), x = .ref d ∧ H1 d = some (.dK kvs) ∧ ∀ od, N d → Q x (upd H1 d (.frz od (.dK kvs)))) : tLk N te σ H Q := h
theorem k_dget2 {td ty tx : TE} {σ : L2.St} {H : Hp} {Q : VK} (h : td σ H fun x H1 => ∃ a, x = .ref a ∧ IsD H1 a ∧ ty σ H1 fun y H2 => tx σ H2 fun z H3 => ∃ o, DGet H3 a y o ∧ Q (o.getD z) H3) : tDGet2 td ty tx σ H Q := h
/-! ### sum(d.values()) -/
def tSumVals (te : TE) : TE := fun σ H Q => te σ H fun x H1 => ∃ (d : Addr) (kvs : List (Key × V)) (is : List Int), x = .ref d ∧ H1 d = some (.dK kvs) ∧ kvs.map (·.2) = is.map V.int ∧ Q (.int is.sum) H1
theorem k_sumV {te : TE} {σ : L2.St} {H : Hp} {Q : VK} (h : te σ H fun x H1 => ∃ (d : Addr) (kvs : List (Key × V)) (is : List Int), x = .ref d ∧ H1 d = some (.dK kvs) ∧ kvs.map (·.2) = is.map V.int ∧ Q (.int is.sum) H1) : tSumVals te σ H Q := h
theorem preSum_list (is : List Int) : ∀ j, PySem.preSum (fun i => is.getD i 0) j = (is.take j).sum
  | 0 => by simp [PySem.preSum]
  | j + 1 => by
    show PySem.preSum _ j + is.getD j 0 = _
    rw [preSum_list is j, List.take_add_one, List.sum_append, List.getD_eq_getElem?_getD]
    cases is[j]? with
    | none => simp
    | some x => simp
open PySem.Spec PyProof.Rows in
theorem pe_sumVals {X : L2.Cx} {e : Expr} {te : TE} {p apos mpos pos : Pos} (hc : X.calm = true) (he : PE X e te) (hg : Gl X "sum") (hm : X.mg "sum" = none) (hb : attributeBase e "values" X.env (eval e X.env) = eval e X.env := by rfl) (hl : (apos.endLine == mpos.line) = true := by rfl)
    (hs : starEach [Expr.Call (.Attribute e "values" apos) [] [] mpos] X.env = [(false, eval (Expr.Call (.Attribute e "values" apos) [] [] mpos) X.env)] := by rfl) : PE X (.Call (.Name "sum" p) [.Call (.Attribute e "values" apos) [] [] mpos] [] pos) (tSumVals te) := by
  constructor
  intro pins s σ H Q I hq
  refine wpAny_Call_Name_kw (ld_blt I hg hm (u := .builtin "sum") (by decide +kernel) ?_ (by decide +kernel) (by decide +kernel))
  rw [hs]
  refine PySem.callWith_builtin1 (wpAny_Call_method0_late hb hl (thn (he.run pins s σ H _ I hq) ?_))
  rintro v s1 ⟨x, H1, I1, r1, d, kvs, is, rfl, hd, hv, q⟩
  obtain rfl : v = Value.ref d := r1
  obtain ⟨_, lo, vs, kv, hdo⟩ := dk_of I1.hok hd
  obtain ⟨ep, hat⟩ := hdo.dictAt
  obtain ⟨ob, es, ho, ex, _⟩ := id hat
  refine ⟨"dict", "dict.values", F.plainAttrs_dict, F.slot_dict_values, F.type_dict_values, ⟨ob, ho, ex.1⟩, (fun b e => by cases e; exact ⟨ob, ho, ex.2.1⟩), Calls.callWith_builtin rfl (PySem.evalArgs_none ?_)⟩
  refine call_meetsIn F.slot_dict_values ⟨ob, ho, ex.1⟩ F.entry_dict_values (F.args_dict_values_1 _) (meets_dict_values (mixKind X.prog X.w) d lo) ⟨⟨vs, hdo⟩, ?_⟩
  have lk : vs.length = is.length := by
    have a := congrArg List.length hv
    rw [List.length_map, List.length_map] at a
    exact (KV.length kv).symm.trans a
  have I2 : Inv X pins σ H1 { s1 with heap := s1.heap.push { cls := .type "dict_values", data := .fields #[.ref d] } } := I1.kept (t' := s1.toks) fun b o z => Heap.get?_push_of_some _ z
  have src : PySem.W.KdlSrc X.prog X.w "dict_values" s1.heap.objs.size d vs.length (fun i v => ∃ k, vs[i]? = some (k, v)) (fun h => h.IsValuesView s1.heap.objs.size d ∧ h.DictAt (mixKind X.prog X.w) d vs ep) := PySem.W.kdl_values
  refine PySem.call_sum_walkAnyS ?_
  have ok1 : (s1.heap.push { cls := .type "dict_values", data := .fields #[.ref d] }).IsValuesView s1.heap.objs.size d ∧ (s1.heap.push { cls := .type "dict_values", data := .fields #[.ref d] }).DictAt (mixKind X.prog X.w) d vs ep := ⟨⟨_, Heap.get?_push_size _ rfl, rfl, rfl⟩, hat.push _⟩
  obtain ⟨o1, St1, hi1, w1, st1⟩ := src.iter X.A.in1 { s1 with heap := s1.heap.push { cls := .type "dict_values", data := .fields #[.ref d] } } (I1.ok.hd hc) ok1
  have th := src.there _ ok1
  refine hi1 _ _ ⟨_, _, _, _, vs.length, _, _, fun i => is.getD i 0, rfl, w1.toS, by exact st1, ?_, ?_, ?_⟩
  · intro b hb
    show b < ((Heap.push _ o1).objs.size)
    rw [Heap.size_push]
    rcases List.mem_cons.mp hb with z | z
    · rw [z]; exact Nat.lt_succ_self _
    · rw [List.mem_singleton.mp z]; exact Nat.lt_succ_of_lt th.2
  · rintro i v ⟨k, hk⟩
    obtain ⟨y, h1, h2⟩ := KV.at' kv hk
    have a : (kvs.map (·.2))[i]? = some y := by rw [List.getElem?_map, h1]; rfl
    rw [hv, List.getElem?_map] at a
    obtain ⟨j, hj, rfl⟩ := Option.map_eq_some_iff.mp a
    obtain ⟨t, e3⟩ := h2
    refine ⟨t, ?_⟩
    show v = Value.int (is.getD i 0) t
    rw [e3, List.getD_eq_getElem?_getD, hj]
    rfl
  · intro s' t' hm
    rw [Moved.eq_with hm, preSum_list, lk, List.take_length]
    refine ⟨.int _, H1, ?_, ⟨t', rfl⟩, q⟩
    refine I2.kept fun b o z => hm.heap b o (fun c => ?_) (Heap.get?_push_of_some _ z)
    exact absurd (Heap.lt_size z) (by rw [List.mem_singleton.mp c]; exact Nat.lt_irrefl _)
/-! ### how many rows lead where, with which tally: the mathematics -/
abbrev CF := Nat → Int → Nat
def cSum (ss : List Stp) (f : CF) (k : Nat) (t : Int) : Nat := (ss.map fun s => if s.e = k then f s.b (t - s.g) else 0).sum
def cNext (lo hi : Int) (ss : List Stp) (f : CF) : CF := fun k t => if lo ≤ t ∧ t ≤ hi then cSum ss f k t else 0
def cLev (lo hi : Int) (ss : List Stp) : Nat → CF
  | 0 => fun k t => if k = 0 ∧ t = 0 ∧ lo ≤ 0 ∧ 0 ≤ hi then 1 else 0
  | n + 1 => cNext lo hi ss (cLev lo hi ss n)
def cEnds (lo hi : Int) (m : MD) (L : Nat) (es : List Nat) (t : Int) : Nat := (es.map fun e => cLev lo hi m.ss L e t).sum
theorem cSum_snoc (ss : List Stp) (s : Stp) (f : CF) (k : Nat) (t : Int) : cSum (ss ++ [s]) f k t = cSum ss f k t + if s.e = k then f s.b (t - s.g) else 0 := by
  unfold cSum
  rw [List.map_append, List.sum_append]
  simp
theorem cSum_take (ss : List Stp) (f : CF) (k : Nat) (t : Int) (i : Nat) : cSum (ss.take i) f k t ≤ cSum ss f k t := by
  have e : ss = ss.take i ++ ss.drop i := (List.take_append_drop i ss).symm
  have : cSum ss f k t = cSum (ss.take i) f k t + cSum (ss.drop i) f k t := by
    conv => lhs; rw [e]
    unfold cSum
    rw [List.map_append, List.sum_append]
  omega
/-- the count of a key -/
def cntOf (kv : List (Key × V)) (t : Int) : Nat := match valV kv (.inl t) with
  | some (.int x) => x.toNat
  | _ => 0
structure CntD (kv : List (Key × V)) (g : Int → Nat) : Prop where
  key : ∀ p ∈ kv, ∃ t : Int, p.1 = .inl t
  nd : (kv.map (·.1)).Nodup
  at_ : ∀ t : Int, valV kv (.inl t) = if g t = 0 then none else some (.int (g t : Nat))
theorem CntD.nil : CntD [] fun _ => 0 := ⟨fun p h => absurd h (by simp), by simp, fun t => rfl⟩
theorem CntD.congr {kv : List (Key × V)} {g g' : Int → Nat} (h : CntD kv g) (e : ∀ t, g t = g' t) : CntD kv g' := ⟨h.key, h.nd, fun t => by rw [← e t]; exact h.at_ t⟩
theorem CntD.cnt {kv : List (Key × V)} {g : Int → Nat} (h : CntD kv g) (t : Int) : cntOf kv t = g t := by
  unfold cntOf
  rw [h.at_ t]
  by_cases c : g t = 0
  · rw [if_pos c, c]
  · rw [if_neg c]
    exact Int.toNat_natCast _
theorem putK_key {kvs : List (Key × V)} {P : Key → Prop} {k : Key} {v : V} (h : ∀ p ∈ kvs, P p.1) (hk : P k) : ∀ p ∈ putK kvs k v, P p.1 := fun q hq => by
  unfold putK at hq
  split at hq
  · obtain ⟨r, hr, rfl⟩ := List.mem_map.mp hq
    split
    · exact h r hr
    · exact h r hr
  · rcases List.mem_append.mp hq with hq | hq
    · exact h q hq
    · rw [List.mem_singleton.mp hq]; exact hk
theorem CntD.add {kv : List (Key × V)} {g : Int → Nat} (h : CntD kv g) {t : Int} {n : Nat} (hn : 0 < n) : CntD (putK kv (.inl t) (.int ((g t : Nat) + (n : Nat) : Int))) (fun u => if u = t then g t + n else g u) := by
  refine ⟨fun p hp => putK_key (P := fun k => ∃ t : Int, k = .inl t) h.key ⟨t, rfl⟩ p hp, putK_nodup _ _ h.nd, fun u => ?_⟩
  rw [valV_put]
  by_cases c : u = t
  · have c' : (Sum.inl u : Key) = .inl t := by rw [c]
    rw [if_pos c', if_pos c, if_neg (by omega)]
    rfl
  · have c' : ¬ (Sum.inl u : Key) = .inl t := fun z => c (by injection z)
    rw [if_neg c', if_neg c]
    exact h.at_ u
theorem CntD.has {kv : List (Key × V)} {g : Int → Nat} (h : CntD kv g) {i : Nat} {k : Key} {v : V} (e : kv[i]? = some (k, v)) : ∃ t : Int, k = .inl t ∧ v = .int (g t : Nat) ∧ 0 < g t ∧ valV (kv.take i) (.inl t) = none := by
  obtain ⟨t, ht⟩ := h.key _ (List.mem_of_getElem? e)
  have il := (List.getElem?_eq_some_iff.mp e).1
  have ht' : k = .inl t := ht
  subst ht'
  have nd := h.nd
  have sp : kv = kv.take i ++ (.inl t, v) :: kv.drop (i + 1) := by
    have e' : kv[i]'il = (.inl t, v) := (List.getElem?_eq_some_iff.mp e).2
    rw [← e', ← List.drop_eq_getElem_cons il, List.take_append_drop]
  have none1 : valV (kv.take i) (.inl t) = none := by
    have nd2 := nd
    rw [sp, List.map_append, List.map_cons, List.nodup_append] at nd2
    cases q : valV (kv.take i) (.inl t) with
    | none => rfl
    | some x =>
      have a := valV_any (.inl t : Key) (kv.take i)
      rw [q] at a
      obtain ⟨kv', hm, hd⟩ := List.any_eq_true.mp (a.trans rfl)
      exact absurd (of_decide_eq_true hd : kv'.1 = .inl t) (nd2.2.2 _ (List.mem_map_of_mem hm) _ List.mem_cons_self)
  have val : valV kv (.inl t) = some v := by
    have gen : ∀ (l r : List (Key × V)), valV l (.inl t : Key) = none → valV (l ++ (.inl t, v) :: r) (.inl t) = some v := fun l r => by
      induction l with
      | nil => exact fun _ => valV_pos rfl
      | cons a l ih =>
        intro hn
        by_cases c : a.1 = (.inl t : Key)
        · rw [valV_pos c] at hn; cases hn
        · rw [valV_neg c] at hn
          rw [List.cons_append, valV_neg c]
          exact ih hn
    have := gen (kv.take i) (kv.drop (i + 1)) none1
    rw [← sp] at this
    exact this
  have a := h.at_ t
  rw [val] at a
  by_cases c : g t = 0
  · rw [if_pos c] at a; cases a
  · rw [if_neg c] at a
    cases a
    exact ⟨t, rfl, rfl, by omega, none1⟩
theorem cntOf_take {kv : List (Key × V)} {i : Nat} {t : Int} {n : Nat} (e : kv[i]? = some (.inl t, .int (n : Nat))) (hn : valV (kv.take i) (.inl t) = none) (u : Int) : cntOf (kv.take (i + 1)) u = if u = t then n else cntOf (kv.take i) u := by
  unfold cntOf
  rw [List.take_add_one, e]
  show (match valV (kv.take i ++ [(.inl t, .int (n : Nat))]) (.inl u) with | some (.int x) => x.toNat | _ => 0) = _
  rw [valV_snoc _ _ _ _ hn]
  by_cases c : u = t
  · rw [if_pos (by rw [c]), if_pos c]
    exact Int.toNat_natCast _
  · rw [if_neg (fun z => c (by injection z)), if_neg c]
theorem CntD.len {kv : List (Key × V)} {g : Int → Nat} (h : CntD kv g) {T : List Int} (s : ∀ t, g t ≠ 0 → t ∈ T) : kv.length ≤ T.length := by
  have e : kv.length = (kv.map (·.1)).length := (List.length_map _).symm
  rw [e]
  have : (T.map fun t : Int => (.inl t : Key)).length = T.length := List.length_map _
  rw [← this]
  refine nodup_sub h.nd fun k hk => ?_
  obtain ⟨p, hp, rfl⟩ := List.mem_map.mp hk
  obtain ⟨i, hi⟩ := List.getElem?_of_mem hp
  obtain ⟨t, et, _, pos, _⟩ := h.has (k := p.1) (v := p.2) hi
  rw [et]
  exact List.mem_map_of_mem (s t (by omega))
theorem CntD.take_pos {kv : List (Key × V)} {g : Int → Nat} (h : CntD kv g) {j : Nat} {t : Int} (e : cntOf (kv.take j) t ≠ 0) : g t ≠ 0 := by
  cases q : valV (kv.take j) (.inl t : Key) with
  | none => exact absurd (by unfold cntOf; rw [q]) e
  | some x =>
    have a := valV_any (.inl t : Key) (kv.take j)
    rw [q] at a
    obtain ⟨p, hm, hd⟩ := List.any_eq_true.mp (a.trans rfl)
    obtain ⟨i, hi⟩ := List.getElem?_of_mem (List.mem_of_mem_take hm)
    obtain ⟨t', et, _, pos, _⟩ := h.has (k := p.1) (v := p.2) hi
    have : (Sum.inl t' : Key) = .inl t := et.symm.trans (of_decide_eq_true hd)
    injection this with this
    rw [← this]
    omega
theorem cntOf_none {kv : List (Key × V)} {t : Int} (h : valV kv (.inl t : Key) = none) : cntOf kv t = 0 := by unfold cntOf; rw [h]
/-- a part of a dict's counts, moved by a gain -/
def cPart (lo hi : Int) (kv : List (Key × V)) (g : Int) (j : Nat) (t : Int) : Nat := if lo ≤ t ∧ t ≤ hi then cntOf (kv.take j) (t - g) else 0
theorem cPart_zero (lo hi : Int) (kv : List (Key × V)) (g t : Int) : cPart lo hi kv g 0 t = 0 := by
  unfold cPart
  split
  · rfl
  · rfl
theorem cPart_succ {lo hi : Int} {kv : List (Key × V)} {g t : Int} {j n : Nat} (e : kv[j]? = some (.inl t, .int (n : Nat))) (hn : valV (kv.take j) (.inl t : Key) = none) (u : Int) :
    cPart lo hi kv g (j + 1) u = if u = t + g ∧ lo ≤ u ∧ u ≤ hi then n else cPart lo hi kv g j u := by
  unfold cPart
  rw [cntOf_take e hn]
  by_cases b : lo ≤ u ∧ u ≤ hi
  · by_cases c : u = t + g
    · rw [if_pos b, if_pos (by omega), if_pos ⟨c, b⟩]
    · rw [if_pos b, if_neg (by omega), if_neg (fun z => c z.1), if_pos b]
  · rw [if_neg b, if_neg (fun z => b z.2), if_neg b]
theorem cPart_at {lo hi : Int} {kv : List (Key × V)} {g t : Int} {j : Nat} (hn : valV (kv.take j) (.inl t : Key) = none) : cPart lo hi kv g j (t + g) = 0 := by
  unfold cPart
  split
  · exact cntOf_none (by rw [show t + g - g = t by omega]; exact hn)
  · rfl
theorem cPart_full {lo hi : Int} {kv : List (Key × V)} {h : Int → Nat} (c : CntD kv h) (g t : Int) : cPart lo hi kv g kv.length t = if lo ≤ t ∧ t ≤ hi then h (t - g) else 0 := by
  unfold cPart
  rw [List.take_length, c.cnt]
theorem cPart_pos {lo hi : Int} {kv : List (Key × V)} {h : Int → Nat} (c : CntD kv h) {g t : Int} {j : Nat} (e : cPart lo hi kv g j t ≠ 0) : (lo ≤ t ∧ t ≤ hi) ∧ h (t - g) ≠ 0 := by
  unfold cPart at e
  split at e
  · rename_i b
    exact ⟨b, c.take_pos e⟩
  · exact absurd rfl e
theorem cNext_snoc (lo hi : Int) (ss : List Stp) (s : Stp) (f : CF) (k : Nat) (t : Int) : cNext lo hi (ss ++ [s]) f k t = cNext lo hi ss f k t + if s.e = k ∧ lo ≤ t ∧ t ≤ hi then f s.b (t - s.g) else 0 := by
  unfold cNext
  rw [cSum_snoc]
  by_cases b : lo ≤ t ∧ t ≤ hi
  · rw [if_pos b, if_pos b]
    by_cases c : s.e = k
    · rw [if_pos c, if_pos ⟨c, b⟩]
    · rw [if_neg c, if_neg (fun z => c z.1)]
  · rw [if_neg b, if_neg b, if_neg (fun z => b z.2)]
theorem CntD.one : CntD [((.inl 0 : Key), V.int 1)] fun t => if t = 0 then 1 else 0 := by
  refine ⟨fun q hq => by rw [List.mem_singleton.mp hq]; exact ⟨0, rfl⟩, by simp, fun t => ?_⟩
  by_cases d : t = 0
  · subst d
    rfl
  · have e : valV [((.inl 0 : Key), V.int 1)] (.inl t) = none := valV_neg (p := ((.inl 0 : Key), V.int 1)) fun z => d (by injection z with z; omega)
    rw [e]
    simp [d]
/-! ### dicts of dicts of counts; the numbers of the next length -/
structure DD (H : Hp) (kvs : List (Key × V)) (f : CF) (F : Addr → Prop) (N : Nat) : Prop where
  key : ∀ p ∈ kvs, ∃ n : Nat, p.1 = .inl (n : Int) ∧ n < N
  nd : (kvs.map (·.1)).Nodup
  at_ : ∀ n : Nat, (valV kvs (.inl (n : Int)) = none ∧ ∀ t, f n t = 0) ∨ ∃ q kv, valV kvs (.inl (n : Int)) = some (.ref q) ∧ H q = some (.dK kv) ∧ CntD kv (f n) ∧ F q
  inj : ∀ (n k : Nat) q, valV kvs (.inl (n : Int)) = some (.ref q) → valV kvs (.inl (k : Int)) = some (.ref q) → n = k
theorem DD.nil {H : Hp} {F : Addr → Prop} {N : Nat} : DD H [] (fun _ _ => 0) F N := ⟨fun p h => absurd h (by simp), by simp, fun n => .inl ⟨rfl, fun _ => rfl⟩, fun n k q e => by cases e⟩
theorem DD.congr {H : Hp} {kvs : List (Key × V)} {f f' : CF} {F : Addr → Prop} {N : Nat} (h : DD H kvs f F N) (e : ∀ n t, f n t = f' n t) : DD H kvs f' F N :=
  ⟨h.key, h.nd, fun n => (h.at_ n).imp (fun ⟨a, b⟩ => ⟨a, fun t => by rw [← e n t]; exact b t⟩) fun ⟨q, kv, a, b, c, d⟩ => ⟨q, kv, a, b, c.congr (e n), d⟩, h.inj⟩
theorem DD.heap {H H' : Hp} {kvs : List (Key × V)} {f : CF} {F : Addr → Prop} {N : Nat} (h : DD H kvs f F N) (e : ∀ q kv, F q → H q = some (.dK kv) → H' q = some (.dK kv)) : DD H' kvs f F N :=
  ⟨h.key, h.nd, fun n => (h.at_ n).imp id fun ⟨q, kv, a, b, c, d⟩ => ⟨q, kv, a, e q kv d b, c, d⟩, h.inj⟩
theorem DD.weak {H : Hp} {kvs : List (Key × V)} {f : CF} {F G : Addr → Prop} {N : Nat} (h : DD H kvs f F N) (e : ∀ q, F q → G q) : DD H kvs f G N :=
  ⟨h.key, h.nd, fun n => (h.at_ n).imp id fun ⟨q, kv, a, b, c, d⟩ => ⟨q, kv, a, b, c, e q d⟩, h.inj⟩
theorem DD.len {H : Hp} {kvs : List (Key × V)} {f : CF} {F : Addr → Prop} {N : Nat} (h : DD H kvs f F N) : kvs.length ≤ N := by
  have e : kvs.length = (kvs.map (·.1)).length := (List.length_map _).symm
  have e2 : ((List.range N).map fun n : Nat => (.inl (n : Int) : Key)).length = N := by rw [List.length_map, List.length_range]
  rw [e]
  conv => rhs; rw [← e2]
  refine nodup_sub h.nd fun k hk => ?_
  obtain ⟨p, hp, rfl⟩ := List.mem_map.mp hk
  obtain ⟨n, en, hn⟩ := h.key p hp
  rw [en]
  exact List.mem_map.mpr ⟨n, List.mem_range.mpr hn, rfl⟩
/-- a new stand with an empty dict -/
theorem DD.new {H : Hp} {kvs : List (Key × V)} {f : CF} {F : Addr → Prop} {N e : Nat} {q : Addr} (h : DD H kvs f F N) (he : e < N) (hn : valV kvs (.inl (e : Int)) = none) (hq : H q = some (.dK [])) (fq : F q) (ne : ∀ (n : Nat) (p : Addr), valV kvs (.inl (n : Int)) = some (.ref p) → p ≠ q) :
    DD H (putK kvs (.inl (e : Int)) (.ref q)) f F N := by
  have val : ∀ n : Nat, valV (putK kvs (.inl (e : Int)) (.ref q)) (.inl (n : Int)) = if n = e then some (.ref q) else valV kvs (.inl (n : Int)) := fun n => by
    rw [valV_put]
    by_cases c : n = e
    · rw [if_pos (by rw [c]), if_pos c]
    · rw [if_neg (fun z => c (by injection z with z; omega)), if_neg c]
  refine ⟨fun p hp => putK_key (P := fun k => ∃ n : Nat, k = .inl (n : Int) ∧ n < N) h.key ⟨e, rfl, he⟩ p hp, putK_nodup _ _ h.nd, fun n => ?_, fun n k p e1 e2 => ?_⟩
  · rw [val n]
    by_cases c : n = e
    · rw [if_pos c]
      subst c
      rcases h.at_ n with ⟨_, z⟩ | ⟨q', kv, a, _⟩
      · exact .inr ⟨q, [], rfl, hq, CntD.nil.congr fun t => (z t).symm, fq⟩
      · rw [hn] at a; cases a
    · rw [if_neg c]
      exact h.at_ n
  · rw [val] at e1 e2
    by_cases c1 : n = e
    · by_cases c2 : k = e
      · rw [c1, c2]
      · rw [if_pos c1] at e1
        rw [if_neg c2] at e2
        cases e1
        exact absurd rfl (ne _ _ e2)
    · rw [if_neg c1] at e1
      by_cases c2 : k = e
      · rw [if_pos c2] at e2
        cases e2
        exact absurd rfl (ne _ _ e1)
      · rw [if_neg c2] at e2
        exact h.inj _ _ _ e1 e2
/-- the dict of a stand is written -/
theorem DD.put {H : Hp} {kvs : List (Key × V)} {f : CF} {F : Addr → Prop} {N e : Nat} {q : Addr} {kv : List (Key × V)} {g : Int → Nat} (h : DD H kvs f F N) (hq : valV kvs (.inl (e : Int)) = some (.ref q)) (c : CntD kv g) :
    DD (upd H q (.dK kv)) kvs (fun n t => if n = e then g t else f n t) F N := by
  refine ⟨h.key, h.nd, fun n => ?_, h.inj⟩
  by_cases d : n = e
  · subst d
    rcases h.at_ n with ⟨z, _⟩ | ⟨q', kv', a, _, _, fq⟩
    · rw [hq] at z; cases z
    · rw [hq] at a
      cases a
      exact .inr ⟨q, kv, hq, upd_same, c.congr fun t => by rw [if_pos rfl], fq⟩
  · rcases h.at_ n with ⟨z, zz⟩ | ⟨q', kv', a, b, c', fq⟩
    · exact .inl ⟨z, fun t => by rw [if_neg d]; exact zz t⟩
    · have : q' ≠ q := fun w => d (h.inj _ _ _ (by rw [w] at a; exact a) hq)
      exact .inr ⟨q', kv', a, by rw [upd_ne this]; exact b, c'.congr fun t => by rw [if_neg d], fq⟩
def sp_longerC (K : PySem.W.Frag) : Sp := fun vs H Q _ => ∃ (t r : Addr) (lo hi : Int) (N : Nat) (ss : List Stp) (f : CF) (kvs : List (Key × V)) (F : Addr → Prop) (T : List Int), vs = [.ref t, .ref r, .int lo, .int hi] ∧ StAt K H t ss ∧ SsOk N ss ∧ H r = some (.dK kvs) ∧ DD H kvs f F N ∧
  T.length < sizeLine ∧ (∀ k u, cNext lo hi ss f k u ≠ 0 → u ∈ T) ∧
  ∀ p kvs' H', Same H H' → H p = none → H' p = some (.dK kvs') → DD H' kvs' (cNext lo hi ss f) (fun q => H q = none ∧ q ≠ p) N → Q (.ref p) H'
theorem cNext_take {lo hi : Int} {ss : List Stp} {f : CF} {k : Nat} {t : Int} (i : Nat) (h : cNext lo hi (ss.take i) f k t ≠ 0) : cNext lo hi ss f k t ≠ 0 := by
  unfold cNext at h ⊢
  split at h
  · rename_i c
    rw [if_pos c]
    have := cSum_take ss f k t i
    omega
  · exact absurd rfl h
section
variable {P : Program} {w : World} {K : PySem.W.Frag} {mg : Str → Option Value} {base : Heap}
theorem ok_longer (T : Txt K mg) : FnOk P w K mg base (L2.CX P w) 1 T.a_longer T.fd_longer ["steps", "numbers", "low", "high"] (sp_longerC K) := by
  refine T.F_longer.okX sc_longer (fun vs H Q E h => ?_) (fun cdv A outer s H vs Q E hr h => ?_)
  · obtain ⟨t, r, lo, hi, N, ss, f, kvs, F, Tl, rfl, _⟩ := h
    rfl
  · obtain ⟨t, r, lo, hi, N, ss, f, kvs, F, Tl, rfl, ⟨us, ht, hs⟩, o, er, dd, lT, hT, k⟩ := h
    refine ⟨_, (PSs.nox (pss_cons (ps_set (i := 4) sc_longer.nd rfl (Or.inl rfl) pe_dnewK)
  (pss_cons (ps_for PassesOwn.never rfl (pi_tup (pv 0)) (pg_tup rfl (pgs_cons (pg_name (i := 5) sc_longer.nd rfl (Or.inl rfl)) (pgs_cons (pg_name (i := 6) sc_longer.nd rfl (Or.inl rfl)) (pgs_cons (pg_name (i := 7) sc_longer.nd rfl (Or.inl rfl)) (pgs_cons (pg_name (i := 8) sc_longer.nd rfl (Or.inl rfl)) pgs_nil)))))
  (C8.pss_cut (ps_set (i := 9) sc_longer.nd rfl (Or.inl rfl) (pe_dsetd (pv 4) (pv 7) pe_dnewK ⟨by rfl, by rfl, by rfl, by rfl⟩))
  (pss_one (ps_open (ps_for PassesOwn.never rfl (pi_items (pe_lk (pe_dget2 (hu_of hr) (pv 1) (pv 5) pe_dnewK ⟨by rfl, by rfl, by rfl, by rfl⟩))) (pg_tup rfl (pgs_cons (pg_name (i := 10) sc_longer.nd rfl (Or.inl rfl)) (pgs_cons (pg_name (i := 11) sc_longer.nd rfl (Or.inl rfl)) pgs_nil)))
  (pss_cons (ps_aug (i := 10) sc_longer.nd rfl (Or.inl rfl) (pv 8) ip_add)
  (pss_one (ps_if (pt_chain op_le op_le (pv 2) (pv 10) (pv 3))
  (pss_one (ps_dput (hu_of hr) (pv 9) (pv 10) (pe_op op_add (pe_dget2 (hu_of hr) (pv 9) (pv 10) pe_int ⟨by rfl, by rfl, by rfl, by rfl⟩) (pv 11)) rfl))
  pss_nil))))))))
  (pss_one (ps_ret (pv 4)))))), ?_⟩
    walk_at "begin"
    walk_at "go"
    intro D hD
    walk_at "go"
    refine ⟨t, rfl, ⟨us, (same_tups (Same.new hD)).sq ht⟩, for_tup (xs := us) (fun i σ H' => ∃ kvs' a5 a6 a7 a8 a9 a10 a11, Same H H' ∧ H' D = some (.dK kvs') ∧ DD H' kvs' (cNext lo hi (ss.take i) f) (fun q => H q = none ∧ q ≠ D) N ∧
      σ = [some (.ref t), some (.ref r), some (.int lo), some (.int hi), some (.ref D), a5, a6, a7, a8, a9, a10, a11])
      ⟨[], _, _, _, _, _, _, _, Same.new hD, upd_same, DD.nil.congr fun n u => by unfold cNext cSum; simp, rfl⟩ (fun i σ H' _ ⟨_, _, _, _, _, _, _, _, z, _⟩ => (same_tups z).sq ht) ?_ ?_⟩
    · rintro i y σ H1 hy ⟨kvs', a5, a6, a7, a8, a9, a10, a11, z, eD, ok, rfl⟩
      have il : i < ss.length := by rw [← hs.1]; exact (List.getElem?_eq_some_iff.mp hy).1
      have ei : ss[i]? = some (ss[i]'il) := List.getElem?_eq_getElem il
      obtain ⟨q, eq, hq⟩ := hs.2 i _ ei
      rw [hy] at eq
      cases eq
      have ok1 := o.ok _ (List.getElem_mem il)
      have tk : ss.take (i + 1) = ss.take i ++ [ss[i]'il] := by rw [List.take_add_one, ei]; rfl
      have hT1 : ∀ k u, cNext lo hi (ss.take (i + 1)) f k u ≠ 0 → u ∈ Tl := fun k u h => hT k u (cNext_take _ h)
      rw [tk] at hT1 ⊢
      generalize ss[i]'il = s0 at hq ok1 hT1
      generalize ss.take i = sa at ok hT1
      have n64 := o.n64
      refine k_gt ((same_tups z).sq hq) rfl ?_
      unfold stpV
      walk_at "go"
      refine k_cut (fun σ' H' => ∃ qe kvs2, Same H H' ∧ H' D = some (.dK kvs2) ∧ DD H' kvs2 (cNext lo hi sa f) (fun q => H q = none ∧ q ≠ D) N ∧ valV kvs2 (.inl (s0.e : Int)) = some (.ref qe) ∧
        σ' = [some (.ref t), some (.ref r), some (.int lo), some (.int hi), some (.ref D), some (.int (s0.b : Nat)), some (.str ⟨#[s0.c]⟩), some (.int (s0.e : Nat)), some (.int s0.g), some (.ref qe), a10, a11]) ?_ ?_
      · walk_at "go"
        refine k_dsetd ?_
        walk_at "go"
        refine ⟨D, rfl, .inl ⟨_, .inl eD⟩, ?_⟩
        walk_at "go"
        intro n0 hn0
        have nD0 : D ≠ n0 := ne_of_none eD hn0
        have eD1 : (upd H1 n0 (.dK [])) D = some (.dK kvs') := by rw [upd_ne nD0]; exact eD
        have ok1' := ok.heap (H' := upd H1 n0 (.dK [])) fun q kv _ e => by rw [upd_ne (ne_of_none e hn0)]; exact e
        have z1 : Same H (upd H1 n0 (.dK [])) := z.trans (Same.new hn0)
        have small : kvs'.length < sizeLine := Nat.lt_of_le_of_lt (Nat.le_trans ok.len n64) (by decide)
        refine ⟨kvs', .inl (s0.e : Int), eD1, rfl, small, fun v hv => ?_, fun hn => ?_⟩
        · rcases ok.at_ s0.e with ⟨q1, _⟩ | ⟨q', kv, q1, _⟩
          · rw [hv] at q1; cases q1
          · rw [hv] at q1
            cases q1
            exact ⟨q', kvs', z1, eD1, ok1', hv, rfl⟩
        · have fresh : ∀ (n : Nat) (p : Addr), valV kvs' (.inl (n : Int)) = some (.ref p) → p ≠ n0 := fun n p hp => by
            rcases ok.at_ n with ⟨q1, _⟩ | ⟨q', kv, q1, q2, _⟩
            · rw [hp] at q1; cases q1
            · rw [hp] at q1
              cases q1
              exact ne_of_none q2 hn0
          have nw := (ok1'.new ok1.e hn upd_same ⟨free_of z hn0, nD0.symm⟩ fresh).heap (H' := upd (upd H1 n0 (.dK [])) D (.dK (putK kvs' (.inl (s0.e : Int)) (.ref n0)))) fun q kv fq e => by rw [upd_ne fq.2]; exact e
          refine ⟨n0, _, Same.mut z1 hD, upd_same, nw, ?_, rfl⟩
          rw [valV_put, if_pos rfl]
      · clear ok eD z
        rintro σ' H2 ⟨qe, kvs2, z, eD, ok, vq, rfl⟩
        obtain ⟨kvT, eT, okT, fT⟩ : ∃ kvT, H2 qe = some (.dK kvT) ∧ CntD kvT (cNext lo hi sa f s0.e) ∧ H qe = none ∧ qe ≠ D := by
          rcases ok.at_ s0.e with ⟨q1, _⟩ | ⟨q', kv, q1, q2, q3, q4⟩
          · rw [vq] at q1; cases q1
          · rw [vq] at q1
            cases q1
            exact ⟨kv, q2, q3, q4⟩
        walk_at "go"
        refine k_open ?_
        walk_at "go"
        refine k_items (k_lk (k_dget2 ?_))
        walk_at "go"
        refine ⟨r, rfl, .inl ⟨_, .inl (z _ _ er)⟩, ?_⟩
        walk_at "go"
        intro n1 hn1
        obtain ⟨d, kvI, dg, ed, okI, own, nd2, ndD, ndq⟩ : ∃ (d : Addr) (kvI : List (Key × V)), (∃ o, DGet (upd H2 n1 (.dK [])) r (.int (s0.b : Nat)) o ∧ o.getD (.ref n1) = .ref d) ∧ (upd H2 n1 (.dK [])) d = some (.dK kvI) ∧ CntD kvI (f s0.b) ∧
            (∀ o, H d = some o → o = .dK kvI) ∧ (∀ q kv, H q = none → H2 q = some (.dK kv) → q ≠ d) ∧ d ≠ D ∧ d ≠ qe := by
          have dg := DGet.k (k := .inl (s0.b : Int)) (H := upd H2 n1 (.dK [])) ((Same.new hn1) _ _ (z _ _ er))
          rcases dd.at_ s0.b with ⟨v0, f0⟩ | ⟨q, kv, v1, hq1, c1, _⟩
          · rw [v0] at dg
            exact ⟨n1, [], ⟨none, dg, rfl⟩, upd_same, CntD.nil.congr fun t => (f0 t).symm, (fun o e => by rw [free_of z hn1] at e; cases e), (fun q kv _ e => ne_of_none e hn1), (ne_of_none eD hn1).symm, (ne_of_none eT hn1).symm⟩
          · rw [v1] at dg
            refine ⟨q, kv, ⟨some (.ref q), dg, rfl⟩, (Same.new hn1) _ _ (z _ _ hq1), c1, (fun o e => by rw [hq1] at e; cases e; rfl), fun q' kv' e _ w => ?_, fun w => ?_, fun w => ?_⟩
            · rw [w, hq1] at e; cases e
            · rw [w, hD] at hq1; cases hq1
            · rw [w, fT.1] at hq1; cases hq1
        obtain ⟨ov, dg, eov⟩ := dg
        refine ⟨ov, dg, d, kvI, eov, ed, fun od nf => ⟨d, od, kvI, eov, upd_same, ?_⟩⟩
        have F0 : ∀ b o, H2 b = some o → b ≠ d → (upd (upd H2 n1 (.dK [])) d (.frz od (.dK kvI))) b = some o := fun b o e n => by rw [upd_ne n, upd_ne (ne_of_none e hn1)]; exact e
        have ok0 : DD (upd (upd H2 n1 (.dK [])) d (.frz od (.dK kvI))) kvs2 (fun n u => if n = s0.e then cNext lo hi sa f s0.e u + cPart lo hi kvI s0.g 0 u else cNext lo hi sa f n u) (fun q => H q = none ∧ q ≠ D) N :=
          (ok.heap fun q kv fq e => F0 q _ e (nd2 q kv fq.1 e)).congr fun n u => by
            by_cases c : n = s0.e
            · rw [if_pos c, cPart_zero, c]; rfl
            · rw [if_neg c]
        have K0 : Keep d H (upd (upd H2 n1 (.dK [])) d (.frz od (.dK kvI))) := fun b o n e => F0 b o (z _ _ e) n
        have eD0 := F0 _ _ eD ndD.symm
        generalize hH3 : upd (upd H2 n1 (.dK [])) d (.frz od (.dK kvI)) = H3 at ok0 K0 eD0 ⊢
        have ed3 : H3 d = some (.frz od (.dK kvI)) := by rw [← hH3]; exact upd_same
        clear hH3 F0 ed dg eov hn1 okT ok eT z eD nd2
        refine for_it walk_items (fun j σ H' => ∃ a10 a11, Keep d H H' ∧ H' d = some (.frz od (.dK kvI)) ∧ H' D = some (.dK kvs2) ∧ DD H' kvs2 (fun n u => if n = s0.e then cNext lo hi sa f s0.e u + cPart lo hi kvI s0.g j u else cNext lo hi sa f n u) (fun q => H q = none ∧ q ≠ D) N ∧
          σ = [some (.ref t), some (.ref r), some (.int lo), some (.int hi), some (.ref D), some (.int (s0.b : Nat)), some (.str ⟨#[s0.c]⟩), some (.int (s0.e : Nat)), some (.int s0.g), some (.ref qe), a10, a11])
          ⟨_, _, K0, ed3, eD0, ok0, rfl⟩ (fun _ _ _ _ ⟨_, _, _, e, _⟩ => e) ?_ ?_
        · clear ok0 K0 eD0 ed3 H3
          rintro j x σ H4 H5 hj ⟨a10, a11, K4, ed4, eD4, ok4, rfl⟩ ⟨Tq, xk, xv, rfl, hTq, rfl, hxk, hxv⟩
          have ej : kvI[j]? = some (kvI[j]'hj) := List.getElem?_eq_getElem hj
          obtain ⟨⟨k0, v0⟩, ekv⟩ : ∃ kv, kvI[j]? = some kv := ⟨_, ej⟩
          have hxk : (kvI[j]?).map (fun kv => kV kv.1) = some xk := hxk
          have hxv : (kvI[j]?).map Prod.snd = some xv := hxv
          rw [ekv] at hxk hxv
          obtain ⟨tk, rfl, rfl, npos, nin⟩ := okI.has ekv
          obtain rfl : xk = V.int tk := (Option.some.inj hxk).symm
          obtain rfl : xv = V.int (f s0.b tk : Nat) := (Option.some.inj hxv).symm
          generalize f s0.b tk = n0 at ekv npos
          clear hxk hxv ej
          obtain ⟨kvT, eT, okT⟩ : ∃ kvT, H4 qe = some (.dK kvT) ∧ CntD kvT (fun u => cNext lo hi sa f s0.e u + cPart lo hi kvI s0.g j u) := by
            rcases ok4.at_ s0.e with ⟨q1, _⟩ | ⟨q', kv, q1, q2, q3, q4⟩
            · rw [vq] at q1; cases q1
            · rw [vq] at q1
              cases q1
              exact ⟨kv, q2, q3.congr fun u => by rw [if_pos rfl]⟩
          have small : kvT.length < sizeLine := Nat.lt_of_le_of_lt (okT.len (T := Tl) fun u hu => hT1 s0.e u (by
            rw [cNext_snoc]
            by_cases c : cPart lo hi kvI s0.g j u = 0
            · rw [c] at hu
              omega
            · obtain ⟨b, h2⟩ := cPart_pos okI c
              rw [if_pos ⟨rfl, b⟩]
              omega)) lT
          have zT := Same.new (o := .tup [.int tk, .int (n0 : Nat)]) hTq
          have ed5 := zT _ _ ed4
          have eD5 := zT _ _ eD4
          have eT5 := zT _ _ eT
          have K5 : Keep d H _ := K4.trans (Keep.of_same zT)
          have ok5 := ok4.heap fun q kv _ e => zT _ _ e
          refine k_gt (SqT.of upd_same) rfl ?_
          generalize upd H4 Tq (.tup [.int tk, .int (n0 : Nat)]) = H5 at ed5 eD5 eT5 K5 ok5 ⊢
          clear zT ed4 eD4 eT K4 ok4 hTq
          walk_at "go"
          refine k_chain ?_
          walk_at "go"
          have old : ¬ (lo ≤ tk + s0.g ∧ tk + s0.g ≤ hi) → DD H5 kvs2 (fun n u => if n = s0.e then cNext lo hi sa f s0.e u + cPart lo hi kvI s0.g (j + 1) u else cNext lo hi sa f n u) (fun q => H q = none ∧ q ≠ D) N := fun nb => ok5.congr fun n u => by
            by_cases c : n = s0.e
            · rw [if_pos c, if_pos c, cPart_succ ekv nin u, if_neg (fun w => nb (by rw [← w.1]; exact w.2))]
            · rw [if_neg c, if_neg c]
          refine k_ite (fun b1 => ?_) (fun b1 => ?_)
          · walk_at "go"
            refine k_ite (fun b2 => ?_) (fun b2 => ?_)
            · walk_at "go"
              refine k_dget2 ?_
              walk_at "go"
              refine ⟨qe, rfl, .inl ⟨_, .inl eT5⟩, ?_⟩
              walk_at "go"
              refine ⟨_, DGet.k (k := .inl (tk + s0.g)) eT5, ?_⟩
              have eo : (valV kvT (.inl (tk + s0.g))).getD (.int 0) = .int ((cNext lo hi sa f s0.e (tk + s0.g) + cPart lo hi kvI s0.g j (tk + s0.g) : Nat)) := by
                rw [okT.at_]
                by_cases c : cNext lo hi sa f s0.e (tk + s0.g) + cPart lo hi kvI s0.g j (tk + s0.g) = 0
                · rw [if_pos c, c]; rfl
                · rw [if_neg c]; rfl
              rw [eo]
              walk_at "go"
              refine ⟨qe, _, rfl, DPut.k (k := .inl (tk + s0.g)) eT5 small, ?_⟩
              refine ⟨_, _, K5.mut fT.1, by rw [upd_ne ndq]; exact ed5, by rw [upd_ne fT.2.symm]; exact eD5, (ok5.put vq (okT.add npos)).congr fun n u => ?_, rfl⟩
              by_cases c : n = s0.e
              · rw [if_pos c, if_pos c, cPart_succ ekv nin u]
                by_cases c2 : u = tk + s0.g
                · rw [if_pos c2, if_pos ⟨c2, by rw [c2]; exact ⟨b1, b2⟩⟩, cPart_at nin, c2]; omega
                · rw [if_neg c2, if_neg (fun w => c2 w.1)]
              · rw [if_neg c, if_neg c, if_neg c]
            · walk_at "go"
              exact ⟨_, _, K5, ed5, eD5, old (fun w => b2 w.2), rfl⟩
          · walk_at "go"
            exact ⟨_, _, K5, ed5, eD5, old (fun w => b1 w.1), rfl⟩
        · rintro σ H4 ⟨a10, a11, K4, ed4, eD4, ok4, rfl⟩
          refine ⟨d, od, .dK kvI, nf, ed4, kvs2, _, _, _, _, _, _, _, fun b o e => ?_, by rw [upd_ne ndD.symm]; exact eD4, ?_, rfl⟩
          · by_cases c : b = d
            · rw [c] at e
              rw [c, upd_same, own o e]
            · rw [upd_ne c]
              exact K4 b o c e
          · refine (ok4.heap fun q kv _ e => ?_).congr fun n u => ?_
            · rw [upd_ne (fun w => by rw [w, ed4] at e; cases e)]; exact e
            · rw [cNext_snoc]
              by_cases c : n = s0.e
              · rw [if_pos c, cPart_full okI, c]
                by_cases b : lo ≤ u ∧ u ≤ hi
                · rw [if_pos b, if_pos ⟨rfl, b⟩]
                · rw [if_neg b, if_neg (fun w => b w.2)]
              · rw [if_neg c, if_neg (fun w => c w.1.symm)]
                rfl
    · rintro σ H1 ⟨kvs', a5, a6, a7, a8, a9, a10, a11, z, eD, ok, rfl⟩
      walk_at "go"
      rw [hs.1, List.take_length] at ok
      exact k D kvs' H1 z hD eD ok
end
/-! ### the numbers of all tallies of one length -/
def sp_numbersC (K : PySem.W.Frag) (C : Addr) : Sp := fun vs H Q _ => ∃ (x : Addr) (m : MD) (L : Nat) (lo hi : Int) (T : List Int), vs = [.ref x, .int (L : Nat), .int lo, .int hi] ∧ MAt K C H x m ∧ m.Ok ∧ L ≤ 100 ∧
  T.length < sizeLine ∧ (∀ n ≤ L, ∀ k u, cLev lo hi m.ss n k u ≠ 0 → u ∈ T) ∧
  ∀ p kv H', Same H H' → H p = none → H' p = some (.dK kv) → CntD kv (cEnds lo hi m L m.es) → Q (.ref p) H'
theorem cEnds_snoc (lo hi : Int) (m : MD) (L : Nat) (es : List Nat) (e : Nat) (t : Int) : cEnds lo hi m L (es ++ [e]) t = cEnds lo hi m L es t + cLev lo hi m.ss L e t := by
  unfold cEnds
  rw [List.map_append, List.sum_append]
  simp
theorem cEnds_pos {lo hi : Int} {m : MD} {L : Nat} {es : List Nat} {t : Int} (h : cEnds lo hi m L es t ≠ 0) : ∃ e, cLev lo hi m.ss L e t ≠ 0 := by
  induction es with
  | nil => exact absurd rfl h
  | cons e es ih =>
    by_cases c : cLev lo hi m.ss L e t = 0
    · refine ih ?_
      unfold cEnds at h ⊢
      rw [List.map_cons, List.sum_cons, c] at h
      omega
    · exact ⟨e, c⟩
section
variable {P : Program} {w : World} {K : PySem.W.Frag} {mg : Str → Option Value} {base : Heap}
theorem ok_numbers (T : Txt K mg) : FnOk P w K mg base (L2.CX P w) 3 T.a_numbers T.fd_numbers ["machine", "length", "low", "high"] (sp_numbersC K T.c_Machine) := by
  refine T.F_numbers.okX sc_numbers (fun vs H Q E h => ?_) (fun cdv A outer s H vs Q E hr h => ?_)
  · obtain ⟨x, m, L, lo, hi, Tl, rfl, _⟩ := h
    rfl
  · obtain ⟨x, m, L, lo, hi, Tl, rfl, hm, o, hL, lT, hT, k⟩ := h
    obtain ⟨dx, tt, u, hx, hp0⟩ := id hm
    have n8 := o.n8
    have n1 := o.n1
    refine ⟨_, (PSs.nox (C8.pss_cut (ps_set (i := 4) sc_numbers.nd rfl (Or.inl rfl) (pe_ifExp (pt_chain op_le op_le (pv 2) pe_int (pv 3)) (pe_disp (pps_cons pe_int (pe_disp (pps_cons pe_int pe_int pps_nil) (by rfl) (by rfl) (fun z => by cases z) (by decide)) pps_nil) (by rfl) (by rfl) (fun z => by cases z) (by decide)) pe_dnewK))
  (pss_cons (ps_for PassesOwn.never rfl (pi_range1 (by rfl) T.z_range (pa_cons (pv 1) pa_nil)) (pg_name (i := 5) sc_numbers.nd rfl (Or.inl rfl))
  (pss_one (ps_set (i := 4) sc_numbers.nd rfl (Or.inl rfl) (pe_call (ok_longer T) (hr.mono (by decide)) (by rfl) T.m_longer T.k_longer T.b_longer .nil passL (pa_cons (pe_prop (pv 0) T.cl_Machine T.p_steps (ok_Machine_steps T) (hr.mono (by decide)) T.b_Machine_steps .nil passL rfl) (pa_cons (pv 4) (pa_cons (pv 2) (pa_cons (pv 3) pa_nil))))))))
  (pss_cons (ps_set (i := 6) sc_numbers.nd rfl (Or.inl rfl) pe_dnewK)
  (pss_cons (ps_for PassesOwn.never rfl (pi_tup (pe_prop (pv 0) T.cl_Machine T.p_ends (ok_Machine_ends T) (hr.mono (by decide)) T.b_Machine_ends .nil passL rfl)) (pg_name (i := 7) sc_numbers.nd rfl (Or.inl rfl))
  (pss_one (ps_open (ps_for PassesOwn.never rfl (pi_items (pe_lk (pe_dget2 (hu_of hr) (pv 4) (pv 7) pe_dnewK ⟨by rfl, by rfl, by rfl, by rfl⟩))) (pg_tup rfl (pgs_cons (pg_name (i := 8) sc_numbers.nd rfl (Or.inl rfl)) (pgs_cons (pg_name (i := 9) sc_numbers.nd rfl (Or.inl rfl)) pgs_nil)))
  (pss_one (ps_dput (hu_of hr) (pv 6) (pv 8) (pe_op op_add (pe_dget2 (hu_of hr) (pv 6) (pv 8) pe_int ⟨by rfl, by rfl, by rfl, by rfl⟩) (pv 9)) rfl))))))
  (pss_one (ps_ret (pv 6)))))))), ?_⟩
    walk_at "begin"
    -- the numbers of no letter
    refine k_cut (fun σ' H' => ∃ r kvs, Same H H' ∧ H' r = some (.dK kvs) ∧ DD H' kvs (cLev lo hi m.ss 0) (fun _ => True) m.n ∧ σ' = [some (.ref x), some (.int (L : Nat)), some (.int lo), some (.int hi), some (.ref r), none, none, none, none, none]) ?_ ?_
    · walk_at "go"
      refine k_chain ?_
      walk_at "go"
      have dz : ¬ (lo ≤ 0 ∧ 0 ≤ hi) → ∀ n t, (0 : Nat) = cLev lo hi m.ss 0 n t := fun c n t => by
        show 0 = if n = 0 ∧ t = 0 ∧ lo ≤ 0 ∧ 0 ≤ hi then 1 else 0
        rw [if_neg (fun w => c w.2.2)]
      refine k_ite (fun c1 => ?_) (fun c1 => ?_)
      · walk_at "go"
        refine k_ite (fun c2 => ?_) (fun c2 => ?_)
        · refine k_disp fun p hp => ?_
          walk_at "go"
          intro p2 hp2
          walk_at "go"
          have n12 : p ≠ p2 := ne_of_none upd_same hp2
          refine ⟨upd_same, [(.inl 0, .int 1)], rfl, (by decide : 1 ≤ 15), ?_⟩
          rw [show mergeK [] [((.inl 0 : Key), V.int 1)] = [(.inl 0, .int 1)] from rfl]
          walk_at "go"
          refine ⟨by rw [upd_ne n12, upd_ne n12, upd_same], [(.inl 0, .ref p2)], rfl, (by decide : 1 ≤ 15), ?_⟩
          rw [show mergeK [] [((.inl 0 : Key), V.ref p2)] = [(.inl 0, .ref p2)] from rfl]
          have hp20 : H p2 = none := by rw [upd_ne n12.symm] at hp2; exact hp2
          have vv : ∀ n : Nat, valV [((.inl 0 : Key), V.ref p2)] (.inl (n : Int)) = if n = 0 then some (.ref p2) else none := fun n => by
            by_cases c : n = 0
            · rw [if_pos c, c]; rfl
            · rw [if_neg c]
              exact valV_neg (p := ((.inl 0 : Key), V.ref p2)) fun z => c (by injection z with z; omega)
          walk_at "go"
          refine ⟨p, _, Same.mut (Same.mut (Same.mut (Same.new hp) hp20) hp20) hp, upd_same, ⟨fun q hq => by rw [List.mem_singleton.mp hq]; exact ⟨0, rfl, n1⟩, by simp, fun n => ?_, fun n k q e1 e2 => ?_⟩, rfl⟩
          · by_cases c : n = 0
            · refine .inr ⟨p2, [(.inl 0, .int 1)], by rw [vv, if_pos c], by rw [upd_ne n12.symm, upd_same], CntD.one.congr fun t => ?_, trivial⟩
              show _ = if n = 0 ∧ t = 0 ∧ lo ≤ 0 ∧ 0 ≤ hi then 1 else 0
              by_cases d : t = 0
              · rw [if_pos d, if_pos ⟨c, d, c1, c2⟩]
              · rw [if_neg d, if_neg (fun w => d w.2.1)]
            · refine .inl ⟨by rw [vv, if_neg c], fun t => ?_⟩
              show (if n = 0 ∧ t = 0 ∧ lo ≤ 0 ∧ 0 ≤ hi then 1 else 0) = 0
              rw [if_neg (fun w => c w.1)]
          · rw [vv] at e1 e2
            by_cases c : n = 0
            · by_cases d : k = 0
              · rw [c, d]
              · rw [if_neg d] at e2; cases e2
            · rw [if_neg c] at e1; cases e1
        · intro p hp
          walk_at "go"
          exact ⟨p, [], Same.new hp, upd_same, DD.nil.congr (dz fun w => c2 w.2), rfl⟩
      · walk_at "go"
        refine iteF ?_
        intro p hp
        walk_at "go"
        exact ⟨p, [], Same.new hp, upd_same, DD.nil.congr (dz fun w => c1 w.1), rfl⟩
    · rintro σ' H1 ⟨r, kvs, z1, er, d0, rfl⟩
      walk_at "go"
      refine k_rg (by omega) (by omega) ?_
      refine for_range (lo := 0) (n := ((L : Nat) : Int).toNat) (fun i σ H' => ∃ r kvs a5, Same H H' ∧ H' r = some (.dK kvs) ∧ DD H' kvs (cLev lo hi m.ss i) (fun _ => True) m.n ∧ σ = [some (.ref x), some (.int (L : Nat)), some (.int lo), some (.int hi), some (.ref r), a5, none, none, none, none]) ⟨r, kvs, _, z1, er, d0, rfl⟩ ?_ ?_
      · rintro i σ H2 hi2 ⟨r, kvs, a5, z, er, dd, rfl⟩
        have iL : i < L := hi2
        walk_at "go"
        refine ⟨x, dx, _, rfl, z _ _ hx, x, dx, _, .ref tt, rfl, z _ _ hx, rfl, ?_⟩
        walk_at "go"
        refine ⟨tt, r, lo, hi, m.n, m.ss, _, kvs, _, Tl, rfl, (same_tups z).stAt hp0.1, o.sok, er, dd, lT, fun k u h => hT (i + 1) (by omega) k u h, fun p kvs' H3 z3 hp ep dd3 => ?_⟩
        walk_at "go"
        exact ⟨p, kvs', _, z.trans z3, ep, dd3.weak fun _ _ => trivial, rfl⟩
      · rintro σ H2 ⟨r, kvs, a5, z, er, dd, rfl⟩
        rw [show (((L : Nat) : Int)).toNat = L from rfl] at dd
        walk_at "go"
        intro p hp
        walk_at "go"
        have zp := Same.new (o := .dK []) hp
        refine ⟨x, dx, _, rfl, zp _ _ (z _ _ hx), x, dx, _, .ref u, rfl, zp _ _ (z _ _ hx), rfl, ?_⟩
        walk_at "go"
        refine ⟨u, rfl, ⟨_, (same_tups (z.trans zp)).sq hp0.2⟩, for_tup (xs := nats m.es) (fun i σ H' => ∃ kvF a7 a8 a9, Same H2 H' ∧ H' p = some (.dK kvF) ∧ CntD kvF (cEnds lo hi m L (m.es.take i)) ∧
          σ = [some (.ref x), some (.int (L : Nat)), some (.int lo), some (.int hi), some (.ref r), a5, some (.ref p), a7, a8, a9]) ⟨[], _, _, _, zp, upd_same, CntD.nil, rfl⟩ (fun i σ H' _ ⟨_, _, _, _, z2, _⟩ => (same_tups (z.trans z2)).sq hp0.2) ?_ ?_⟩
        · rintro i y σ H3 hy ⟨kvF, a7, a8, a9, z3, ep, okF, rfl⟩
          obtain ⟨en, een, rfl⟩ := nats_at hy
          have tk : m.es.take (i + 1) = m.es.take i ++ [en] := by rw [List.take_add_one, een]; rfl
          rw [tk]
          generalize m.es.take i = ea at okF
          walk_at "go"
          refine k_open ?_
          walk_at "go"
          refine k_items (k_lk (k_dget2 ?_))
          walk_at "go"
          refine ⟨r, rfl, .inl ⟨_, .inl (z3 _ _ er)⟩, ?_⟩
          walk_at "go"
          intro n1 hn1
          obtain ⟨d, kvI, dg, ed, okI, own, ndp⟩ : ∃ (d : Addr) (kvI : List (Key × V)), (∃ o, DGet (upd H3 n1 (.dK [])) r (.int (en : Nat)) o ∧ o.getD (.ref n1) = .ref d) ∧ (upd H3 n1 (.dK [])) d = some (.dK kvI) ∧ CntD kvI (cLev lo hi m.ss L en) ∧
              (∀ o, H2 d = some o → o = .dK kvI) ∧ d ≠ p := by
            have dg := DGet.k (k := .inl (en : Int)) (H := upd H3 n1 (.dK [])) ((Same.new hn1) _ _ (z3 _ _ er))
            rcases dd.at_ en with ⟨v0, f0⟩ | ⟨q, kv, v1, hq1, c1, _⟩
            · rw [v0] at dg
              exact ⟨n1, [], ⟨none, dg, rfl⟩, upd_same, CntD.nil.congr fun t => (f0 t).symm, (fun o e => by rw [free_of z3 hn1] at e; cases e), (ne_of_none ep hn1).symm⟩
            · rw [v1] at dg
              exact ⟨q, kv, ⟨some (.ref q), dg, rfl⟩, (Same.new hn1) _ _ (z3 _ _ hq1), c1, (fun o e => by rw [hq1] at e; cases e; rfl), fun w => by rw [w, hp] at hq1; cases hq1⟩
          obtain ⟨ov, dg, eov⟩ := dg
          refine ⟨ov, dg, d, kvI, eov, ed, fun od nf => ⟨d, od, kvI, eov, upd_same, ?_⟩⟩
          have K0 : Keep d H2 (upd (upd H3 n1 (.dK [])) d (.frz od (.dK kvI))) := fun b o n e => by rw [upd_ne n, upd_ne (ne_of_none (z3 _ _ e) hn1)]; exact z3 _ _ e
          have ep0 : (upd (upd H3 n1 (.dK [])) d (.frz od (.dK kvI))) p = some (.dK kvF) := by rw [upd_ne ndp.symm, upd_ne (ne_of_none ep hn1)]; exact ep
          have ed0 : (upd (upd H3 n1 (.dK [])) d (.frz od (.dK kvI))) d = some (.frz od (.dK kvI)) := upd_same
          generalize upd (upd H3 n1 (.dK [])) d (.frz od (.dK kvI)) = H4 at K0 ep0 ed0 ⊢
          clear ed dg eov hn1 ep z3
          refine for_it walk_items (fun j σ H' => ∃ kvF a8 a9, Keep d H2 H' ∧ H' d = some (.frz od (.dK kvI)) ∧ H' p = some (.dK kvF) ∧ CntD kvF (fun t => cEnds lo hi m L ea t + cntOf (kvI.take j) t) ∧
            σ = [some (.ref x), some (.int (L : Nat)), some (.int lo), some (.int hi), some (.ref r), a5, some (.ref p), some (.int (en : Nat)), a8, a9]) ⟨kvF, _, _, K0, ed0, ep0, okF.congr fun t => rfl, rfl⟩ (fun _ _ _ _ ⟨_, _, _, _, e, _⟩ => e) ?_ ?_
          · clear okF K0 ed0 ep0 H4 kvF
            rintro j x1 σ H4 H5 hj ⟨kvF, a8, a9, K4, ed4, ep4, okF, rfl⟩ ⟨Tq, xk, xv, rfl, hTq, rfl, hxk, hxv⟩
            have ej : kvI[j]? = some (kvI[j]'hj) := List.getElem?_eq_getElem hj
            obtain ⟨⟨k0, v0⟩, ekv⟩ : ∃ kv, kvI[j]? = some kv := ⟨_, ej⟩
            have hxk : (kvI[j]?).map (fun kv => kV kv.1) = some xk := hxk
            have hxv : (kvI[j]?).map Prod.snd = some xv := hxv
            rw [ekv] at hxk hxv
            obtain ⟨tk, rfl, rfl, npos, nin⟩ := okI.has ekv
            obtain rfl : xk = V.int tk := (Option.some.inj hxk).symm
            obtain rfl : xv = V.int (cLev lo hi m.ss L en tk : Nat) := (Option.some.inj hxv).symm
            have small : kvF.length < sizeLine := Nat.lt_of_le_of_lt (okF.len (T := Tl) fun t ht => by
              by_cases c : cEnds lo hi m L ea t = 0
              · exact hT L (Nat.le_refl _) en t (okI.take_pos (j := j) (by omega))
              · obtain ⟨e', he'⟩ := cEnds_pos c
                exact hT L (Nat.le_refl _) e' t he') lT
            generalize cLev lo hi m.ss L en tk = n0 at ekv npos
            clear hxk hxv ej
            have zT := Same.new (o := .tup [.int tk, .int (n0 : Nat)]) hTq
            have ed5 := zT _ _ ed4
            have ep5 := zT _ _ ep4
            have K5 : Keep d H2 _ := K4.trans (Keep.of_same zT)
            refine k_gt (SqT.of upd_same) rfl ?_
            generalize upd H4 Tq (.tup [.int tk, .int (n0 : Nat)]) = H5 at ed5 ep5 K5 ⊢
            clear zT ed4 ep4 K4 hTq
            walk_at "go"
            refine k_dget2 ?_
            walk_at "go"
            refine ⟨p, rfl, .inl ⟨_, .inl ep5⟩, ?_⟩
            walk_at "go"
            refine ⟨_, DGet.k (k := .inl tk) ep5, ?_⟩
            have eo : (valV kvF (.inl tk)).getD (.int 0) = .int ((cEnds lo hi m L ea tk + cntOf (kvI.take j) tk : Nat)) := by
              rw [okF.at_]
              by_cases c : cEnds lo hi m L ea tk + cntOf (kvI.take j) tk = 0
              · rw [if_pos c, c]; rfl
              · rw [if_neg c]; rfl
            rw [eo]
            walk_at "go"
            refine ⟨p, _, rfl, DPut.k (k := .inl tk) ep5 small, ?_⟩
            refine ⟨_, _, _, K5.mut hp, by rw [upd_ne ndp]; exact ed5, upd_same, (okF.add npos).congr fun t => ?_, rfl⟩
            rw [cntOf_take ekv nin]
            by_cases c : t = tk
            · rw [if_pos c, if_pos c, cntOf_none nin, c]; omega
            · rw [if_neg c, if_neg c]
          · rintro σ H4 ⟨kvF, a8, a9, K4, ed4, ep4, okF, rfl⟩
            refine ⟨d, od, .dK kvI, nf, ed4, kvF, _, _, _, fun b o e => ?_, by rw [upd_ne ndp.symm]; exact ep4, okF.congr fun t => ?_, rfl⟩
            · by_cases c : b = d
              · rw [c] at e
                rw [c, upd_same, own o e]
              · rw [upd_ne c]
                exact K4 b o c e
            · rw [List.take_length, okI.cnt, cEnds_snoc]
        · rintro σ H3 ⟨kvF, a7, a8, a9, z3, ep, okF, rfl⟩
          have : (nats m.es).length = m.es.length := by unfold nats; rw [List.length_map]
          rw [this, List.take_length] at okF
          walk_at "go"
          exact k p kvF H3 (z.trans z3) (free_of z hp) ep okF
end
/-! ### rows one by one, and their counts -/
structure RC where
  w : Wd
  k : Nat
  xs : List Int
  t : Int
def RC.next (r : RC) (s : Stp) : RC := ⟨r.w ++ [s.c], s.e, r.xs ++ [r.t], r.t + s.g⟩
def rowsC (m : MD) : Nat → List RC
  | 0 => [⟨[], 0, [], 0⟩]
  | n + 1 => (rowsC m n).flatMap fun r => (fromS m r.k).map r.next
def RC.good (lo hi : Int) (r : RC) : Bool := (r.xs ++ [r.t]).all fun x => decide (lo ≤ x ∧ x ≤ hi)
theorem RC.good_next (lo hi : Int) (r : RC) (s : Stp) : (r.next s).good lo hi = (r.good lo hi && decide (lo ≤ r.t + s.g ∧ r.t + s.g ≤ hi)) := by
  unfold RC.good RC.next
  rw [List.all_append]
  simp
theorem from_len {m : MD} (o : m.Ok) (k : Nat) : (fromS m k).length ≤ 4 := by
  have up : ((fromS m k).map (·.c)).Pairwise (· < ·) := by
    rw [List.pairwise_map]
    refine (o.up.filter _).imp_of_mem fun {a b} ha hb h => ?_
    have e1 : a.b = k := by simpa using (List.mem_filter.mp ha).2
    have e2 : b.b = k := by simpa using (List.mem_filter.mp hb).2
    rcases h with h | ⟨_, h⟩
    · omega
    · exact h
  have e : (fromS m k).length = ((fromS m k).map (fun s => s.c - 97)).length := (List.length_map _).symm
  rw [e]
  refine nodup_small ?_ fun x hx => ?_
  · rw [List.pairwise_map] at up
    unfold List.Nodup
    rw [List.pairwise_map]
    refine up.imp_of_mem fun {a b} ha hb h => ?_
    have := (o.ok a (List.mem_filter.mp ha).1).c
    have := (o.ok b (List.mem_filter.mp hb).1).c
    omega
  · obtain ⟨s, hs, rfl⟩ := List.mem_map.mp hx
    have := o.ok s (List.mem_filter.mp hs).1
    have := this.c
    have := (o.ok s (List.mem_filter.mp hs).1).c'
    omega
theorem rowsC_len {m : MD} (o : m.Ok) : ∀ n, (rowsC m n).length ≤ 4 ^ n
  | 0 => Nat.le_refl _
  | n + 1 => by
    show ((rowsC m n).flatMap fun r => (fromS m r.k).map r.next).length ≤ _
    have ih := rowsC_len o n
    generalize rowsC m n = l at ih ⊢
    have : (l.flatMap fun r => (fromS m r.k).map r.next).length ≤ 4 * l.length := by
      clear ih
      induction l with
      | nil => simp
      | cons r l ih =>
        rw [List.flatMap_cons, List.length_append, List.length_map, List.length_cons]
        have := from_len o r.k
        omega
    rw [Nat.pow_succ]
    omega
theorem rowsC_ok {m : MD} (o : m.Ok) : ∀ n, ∀ r ∈ rowsC m n, r.k < m.n ∧ r.w.length = n ∧ r.xs.length = n ∧ (-(10 ^ 30 * (n : Int)) ≤ r.t ∧ r.t ≤ 10 ^ 30 * (n : Int)) ∧ ∀ x ∈ r.xs, -(10 ^ 30 * (n : Int)) ≤ x ∧ x ≤ 10 ^ 30 * (n : Int)
  | 0, r, h => by
    rw [List.mem_singleton.mp h]
    exact ⟨o.n1, rfl, rfl, ⟨by decide, by decide⟩, fun x hx => by cases hx⟩
  | n + 1, r, h => by
    obtain ⟨r0, h0, h1⟩ := List.mem_flatMap.mp h
    obtain ⟨s, hs, rfl⟩ := List.mem_map.mp h1
    obtain ⟨a, b, c, d, e⟩ := rowsC_ok o n r0 h0
    have ok := o.ok s (List.mem_filter.mp hs).1
    have g1 := ok.g
    have g2 := ok.g'
    have en : ((n + 1 : Nat) : Int) = (n : Int) + 1 := by omega
    rw [en]
    refine ⟨ok.e, ?_, ?_, ⟨?_, ?_⟩, fun x hx => ?_⟩
    · show (r0.w ++ [s.c]).length = n + 1
      rw [List.length_append, b]; rfl
    · show (r0.xs ++ [r0.t]).length = n + 1
      rw [List.length_append, c]; rfl
    · show _ ≤ r0.t + s.g
      omega
    · show r0.t + s.g ≤ _
      omega
    · have hx : x ∈ r0.xs ++ [r0.t] := hx
      rcases List.mem_append.mp hx with hx | hx
      · have := e x hx; omega
      · rw [List.mem_singleton.mp hx]; omega
def b2n (b : Bool) : Nat := if b = true then 1 else 0
theorem sum_swap {α β : Type} (l : List α) (ss : List β) (F : α → β → Nat) : (l.map fun r => (ss.map fun s => F r s).sum).sum = (ss.map fun s => (l.map fun r => F r s).sum).sum := by
  induction l with
  | nil =>
    show 0 = _
    induction ss with
    | nil => rfl
    | cons s ss ih =>
      rw [List.map_cons, List.sum_cons, ← ih]
      rfl
  | cons r l ih =>
    rw [List.map_cons, List.sum_cons, ih]
    clear ih
    induction ss with
    | nil => rfl
    | cons s ss ih =>
      simp only [List.map_cons, List.sum_cons] at ih ⊢
      omega
theorem sum_congr {α : Type} {l : List α} {F G : α → Nat} (h : ∀ x ∈ l, F x = G x) : (l.map F).sum = (l.map G).sum := by rw [List.map_congr_left h]
theorem sum_filter {α : Type} (l : List α) (p : α → Bool) (F : α → Nat) : ((l.filter p).map F).sum = (l.map fun x => if p x = true then F x else 0).sum := by
  induction l with
  | nil => rfl
  | cons a l ih =>
    rw [List.map_cons, List.sum_cons, ← ih]
    by_cases c : p a = true
    · rw [List.filter_cons_of_pos c, if_pos c]; rfl
    · rw [List.filter_cons_of_neg c, if_neg c, Nat.zero_add]
theorem sum_flat {α β : Type} (l : List α) (f : α → List β) (F : β → Nat) : ((l.flatMap f).map F).sum = (l.map fun r => ((f r).map F).sum).sum := by
  induction l with
  | nil => rfl
  | cons a l ih => rw [List.flatMap_cons, List.map_append, List.sum_append, ih]; rfl
/-- the rows to a stand with a tally, in bounds all the way -/
def cntR (lo hi : Int) (m : MD) (n k : Nat) (t : Int) : Nat := ((rowsC m n).map fun r => b2n (decide (r.k = k) && decide (r.t = t) && r.good lo hi)).sum
theorem cntR_eq (lo hi : Int) (m : MD) : ∀ n k t, cntR lo hi m n k t = cLev lo hi m.ss n k t
  | 0, k, t => by
    show b2n (decide (0 = k) && decide ((0 : Int) = t) && _) + 0 = if k = 0 ∧ t = 0 ∧ lo ≤ 0 ∧ 0 ≤ hi then 1 else 0
    have g : RC.good lo hi ⟨[], 0, [], 0⟩ = decide (lo ≤ 0 ∧ 0 ≤ hi) := by unfold RC.good; simp
    rw [g]
    unfold b2n
    by_cases c : k = 0 ∧ t = 0 ∧ lo ≤ 0 ∧ 0 ≤ hi
    · rw [if_pos c]
      obtain ⟨rfl, rfl, c⟩ := c
      simp [c]
    · rw [if_neg c, if_neg]
      simp only [Bool.and_eq_true, decide_eq_true_iff]
      exact fun ⟨⟨a, b⟩, d⟩ => c ⟨a.symm, b.symm, d⟩
  | n + 1, k, t => by
    show ((rowsC m (n + 1)).map _).sum = cNext lo hi m.ss (cLev lo hi m.ss n) k t
    show (((rowsC m n).flatMap fun r => (fromS m r.k).map r.next).map _).sum = _
    rw [sum_flat]
    unfold cNext
    have step : ∀ r : RC, (((fromS m r.k).map r.next).map fun r => b2n (decide (r.k = k) && decide (r.t = t) && r.good lo hi)).sum =
        (m.ss.map fun s => if lo ≤ t ∧ t ≤ hi then (if s.e = k then b2n (decide (r.k = s.b) && decide (r.t = t - s.g) && r.good lo hi) else 0) else 0).sum := fun r => by
      unfold fromS
      rw [List.map_map, sum_filter]
      refine sum_congr fun s _ => ?_
      show (if (s.b == r.k) = true then b2n (decide (s.e = k) && decide (r.t + s.g = t) && (r.next s).good lo hi) else 0) = _
      rw [RC.good_next]
      unfold b2n
      by_cases c1 : lo ≤ t ∧ t ≤ hi
      · rw [if_pos c1]
        by_cases c2 : s.e = k
        · rw [if_pos c2]
          by_cases c3 : r.k = s.b
          · rw [if_pos (by rw [c3]; exact beq_self_eq_true _)]
            by_cases c4 : r.t + s.g = t
            · have c5 : r.t = t - s.g := by omega
              rw [c4]
              simp [c1, c2, c3, c5]
            · have c5 : ¬ r.t = t - s.g := by omega
              simp [c4, c5]
          · have c4 : ¬ s.b = r.k := fun z => c3 z.symm
            simp [c3, c4]
        · simp [c2]
      · rw [if_neg c1]
        by_cases c4 : r.t + s.g = t
        · rw [c4, decide_eq_false c1]
          simp
        · simp [c4]
    rw [sum_congr fun r _ => step r, sum_swap]
    by_cases c : lo ≤ t ∧ t ≤ hi
    · rw [if_pos c]
      unfold cSum
      refine sum_congr fun s _ => ?_
      by_cases d : s.e = k
      · rw [if_pos d, ← cntR_eq lo hi m n s.b (t - s.g)]
        unfold cntR
        refine sum_congr fun r _ => ?_
        rw [if_pos c, if_pos d]
      · rw [if_neg d]
        have : ((rowsC m n).map fun r => if lo ≤ t ∧ t ≤ hi then (if s.e = k then b2n (decide (r.k = s.b) && decide (r.t = t - s.g) && r.good lo hi) else 0) else 0).sum = ((rowsC m n).map fun _ => 0).sum := sum_congr fun r _ => by rw [if_pos c, if_neg d]
        rw [this]
        generalize rowsC m n = l
        induction l with
        | nil => rfl
        | cons a l ih => rw [List.map_cons, List.sum_cons, ih]
    · rw [if_neg c]
      have : ∀ (F : Stp → Nat), (∀ s, F s = 0) → ∀ l : List Stp, (l.map F).sum = 0 := fun F h l => by
        induction l with
        | nil => rfl
        | cons a l ih => rw [List.map_cons, List.sum_cons, ih, h]
      refine this _ (fun s => ?_) _
      generalize rowsC m n = l
      induction l with
      | nil => rfl
      | cons a l ih => rw [List.map_cons, List.sum_cons, ih, if_neg c]
theorem cntR_pos {lo hi : Int} {m : MD} {n k : Nat} {t : Int} (h : cntR lo hi m n k t ≠ 0) : ∃ r ∈ rowsC m n, r.k = k ∧ r.t = t ∧ r.good lo hi = true := by
  unfold cntR at h
  generalize rowsC m n = l at h ⊢
  induction l with
  | nil => exact absurd rfl h
  | cons r l ih =>
    by_cases c : (decide (r.k = k) && decide (r.t = t) && r.good lo hi) = true
    · simp only [Bool.and_eq_true, decide_eq_true_iff] at c
      exact ⟨r, List.mem_cons_self, c.1.1, c.1.2, c.2⟩
    · have e : b2n (decide (r.k = k) && decide (r.t = t) && r.good lo hi) = 0 := by unfold b2n; rw [if_neg c]
      rw [List.map_cons, List.sum_cons, e, Nat.zero_add] at h
      obtain ⟨r', hr, q⟩ := ih h
      exact ⟨r', List.mem_cons_of_mem _ hr, q⟩
/-- the tallies of all rows up to a length -/
def allT (m : MD) (L : Nat) : List Int := (List.range (L + 1)).flatMap fun n => (rowsC m n).map (·.t)
theorem allT_has {lo hi : Int} {m : MD} {L n k : Nat} {t : Int} (hn : n ≤ L) (h : cLev lo hi m.ss n k t ≠ 0) : t ∈ allT m L := by
  rw [← cntR_eq] at h
  obtain ⟨r, hr, _, e, _⟩ := cntR_pos h
  exact List.mem_flatMap.mpr ⟨n, List.mem_range.mpr (by omega), List.mem_map.mpr ⟨r, hr, e⟩⟩
theorem allT_len {m : MD} (o : m.Ok) {L : Nat} (h : L ≤ 6) : (allT m L).length < sizeLine := by
  have : ∀ k, k ≤ 7 → ((List.range k).flatMap fun n => (rowsC m n).map (·.t)).length ≤ k * 4096 := fun k => by
    induction k with
    | zero => exact fun _ => Nat.le_refl _
    | succ k ih =>
      intro hk
      rw [List.range_succ, List.flatMap_append, List.length_append]
      have a := ih (by omega)
      have b := rowsC_len o k
      have c : 4 ^ k ≤ 4 ^ 6 := Nat.pow_le_pow_right (by decide) (by omega)
      have e : ([k].flatMap fun n => (rowsC m n).map (·.t)).length = (rowsC m k).length := by simp
      rw [e]
      have : (4 : Nat) ^ 6 = 4096 := by decide
      omega
  exact Nat.lt_of_le_of_lt (this (L + 1) (by omega)) (Nat.lt_of_le_of_lt (show (L + 1) * 4096 ≤ 7 * 4096 from Nat.mul_le_mul_right _ (by omega)) (by decide))
theorem CntD.list {kv : List (Key × V)} {g : Int → Nat} (h : CntD kv g) : ∃ ts : List Int, kv = ts.map (fun t => ((.inl t : Key), V.int (g t : Nat))) ∧ ts.Nodup ∧ ∀ t, t ∈ ts ↔ g t ≠ 0 := by
  have all : ∀ p ∈ kv, ∃ t : Int, p = ((.inl t : Key), V.int (g t : Nat)) := fun p hp => by
    obtain ⟨i, hi⟩ := List.getElem?_of_mem hp
    obtain ⟨t, et, ev, _, _⟩ := h.has (k := p.1) (v := p.2) hi
    exact ⟨t, by rw [← et, ← ev]⟩
  obtain ⟨ts, e⟩ : ∃ ts : List Int, kv = ts.map (fun t => ((.inl t : Key), V.int (g t : Nat))) := by
    clear h
    induction kv with
    | nil => exact ⟨[], rfl⟩
    | cons p kv ih =>
      obtain ⟨t, et⟩ := all p List.mem_cons_self
      obtain ⟨ts, e⟩ := ih fun q hq => all q (List.mem_cons_of_mem _ hq)
      exact ⟨t :: ts, by rw [List.map_cons, ← et, ← e]⟩
  refine ⟨ts, e, ?_, fun t => ⟨fun ht => ?_, fun ht => ?_⟩⟩
  · have nd := h.nd
    rw [e, List.map_map] at nd
    unfold List.Nodup at nd ⊢
    rw [List.pairwise_map] at nd
    exact nd.imp fun {a b} q z => q (by rw [z])
  · have hm : ((.inl t : Key), V.int (g t : Nat)) ∈ kv := by rw [e]; exact List.mem_map.mpr ⟨t, ht, rfl⟩
    obtain ⟨i, hi⟩ := List.getElem?_of_mem hm
    obtain ⟨t', et, _, pos, _⟩ := h.has hi
    have : t = t' := by injection et
    rw [this]
    omega
  · have q := h.at_ t
    rw [if_neg ht] at q
    have a := valV_any (.inl t : Key) kv
    rw [q] at a
    obtain ⟨p, hm, hd⟩ := List.any_eq_true.mp (a.trans rfl)
    rw [e] at hm
    obtain ⟨t', ht', rfl⟩ := List.mem_map.mp hm
    have : t' = t := by
      have z : (Sum.inl t' : Key) = .inl t := of_decide_eq_true hd
      injection z
    rw [← this]
    exact ht'
theorem sum_one {α : Type} [DecidableEq α] (a : α) : ∀ {l : List α}, l.Nodup → (l.map fun x => b2n (decide (a = x))).sum = b2n (decide (a ∈ l))
  | [], _ => by simp [b2n]
  | x :: l, h => by
    have q := List.nodup_cons.mp h
    rw [List.map_cons, List.sum_cons, sum_one a q.2]
    unfold b2n
    by_cases c : a = x
    · subst c
      simp [q.1]
    · simp [c]
/-- all rows that end well, in bounds all the way -/
def stayR (lo hi : Int) (m : MD) (n : Nat) : Nat := ((rowsC m n).map fun r => b2n (decide (r.k ∈ m.es) && r.good lo hi)).sum
theorem cEnds_rows (lo hi : Int) (m : MD) (nd : m.es.Nodup) (n : Nat) (t : Int) : cEnds lo hi m n m.es t = ((rowsC m n).map fun r => b2n (decide (r.k ∈ m.es) && decide (r.t = t) && r.good lo hi)).sum := by
  unfold cEnds
  have : (m.es.map fun e => cLev lo hi m.ss n e t).sum = (m.es.map fun e => ((rowsC m n).map fun r => b2n (decide (r.k = e) && decide (r.t = t) && r.good lo hi)).sum).sum := sum_congr fun e _ => (cntR_eq lo hi m n e t).symm
  rw [this, ← sum_swap]
  refine sum_congr fun r _ => ?_
  by_cases c : (decide (r.t = t) && r.good lo hi) = true
  · have e1 : (m.es.map fun e => b2n (decide (r.k = e) && decide (r.t = t) && r.good lo hi)) = m.es.map fun e => b2n (decide (r.k = e)) := List.map_congr_left fun e _ => by rw [Bool.and_assoc, c, Bool.and_true]
    rw [e1, sum_one _ nd, Bool.and_assoc, c, Bool.and_true]
  · have e1 : (m.es.map fun e => b2n (decide (r.k = e) && decide (r.t = t) && r.good lo hi)) = m.es.map fun _ => 0 := List.map_congr_left fun e _ => by rw [Bool.and_assoc, (Bool.eq_false_iff.mpr c), Bool.and_false]; rfl
    rw [e1, Bool.and_assoc, (Bool.eq_false_iff.mpr c), Bool.and_false]
    generalize m.es = l
    clear e1 this nd
    induction l with
    | nil => rfl
    | cons a l ih => rw [List.map_cons, List.sum_cons, ih]; rfl
theorem stay_sum {lo hi : Int} {m : MD} (nd : m.es.Nodup) {n : Nat} {ts : List Int} (nt : ts.Nodup) (h : ∀ t, t ∈ ts ↔ cEnds lo hi m n m.es t ≠ 0) : (ts.map fun t => cEnds lo hi m n m.es t).sum = stayR lo hi m n := by
  have e : (ts.map fun t => cEnds lo hi m n m.es t).sum = (ts.map fun t => ((rowsC m n).map fun r => b2n (decide (r.k ∈ m.es) && decide (r.t = t) && r.good lo hi)).sum).sum := sum_congr fun t _ => cEnds_rows lo hi m nd n t
  rw [e, ← sum_swap]
  unfold stayR
  refine sum_congr fun r hr => ?_
  by_cases c : (decide (r.k ∈ m.es) && r.good lo hi) = true
  · have e1 : (ts.map fun t => b2n (decide (r.k ∈ m.es) && decide (r.t = t) && r.good lo hi)) = ts.map fun t => b2n (decide (r.t = t)) := List.map_congr_left fun t _ => by
      rw [Bool.and_right_comm, c, Bool.true_and]
    rw [e1, sum_one _ nt, c]
    have : r.t ∈ ts := (h r.t).mpr fun z => by
      rw [cEnds_rows lo hi m nd] at z
      have : ∀ l : List RC, r ∈ l → (l.map fun r' => b2n (decide (r'.k ∈ m.es) && decide (r'.t = r.t) && r'.good lo hi)).sum ≠ 0 := fun l hl => by
        induction l with
        | nil => cases hl
        | cons a l ih =>
          rw [List.map_cons, List.sum_cons]
          rcases List.mem_cons.mp hl with rfl | hl
          · rw [Bool.and_right_comm, c, Bool.true_and, decide_eq_true rfl]
            show 1 + _ ≠ 0
            omega
          · have := ih hl
            omega
      exact this _ hr z
    rw [decide_eq_true this]
  · have e1 : (ts.map fun t => b2n (decide (r.k ∈ m.es) && decide (r.t = t) && r.good lo hi)) = ts.map fun _ => 0 := List.map_congr_left fun t _ => by rw [Bool.and_right_comm, (Bool.eq_false_iff.mpr c), Bool.false_and]; rfl
    rw [e1, Bool.eq_false_iff.mpr c]
    generalize ts = l
    clear e1 e nt h
    induction l with
    | nil => rfl
    | cons a l ih => rw [List.map_cons, List.sum_cons, ih]; rfl
/-! ### a number in its range; count_staying -/
def sp_cnumber : Sp := fun vs H Q _ => ∃ i lo hi : Int, vs = [.int i, .int lo, .int hi] ∧ lo ≤ i ∧ i ≤ hi ∧ Q .non H
def sp_cstay (K : PySem.W.Frag) (C : Addr) : Sp := fun vs H Q _ => ∃ (x : Addr) (m : MD) (L : Nat) (lo hi : Int), vs = [.ref x, .int (L : Nat), .int lo, .int hi] ∧ MAt K C H x m ∧ m.Ok ∧ L ≤ 12 ∧ -(10 ^ 40) ≤ lo ∧ lo ≤ hi ∧ hi ≤ 10 ^ 40 ∧
  (∃ T : List Int, T.length < sizeLine ∧ ∀ n ≤ L, ∀ k u, cLev lo hi m.ss n k u ≠ 0 → u ∈ T) ∧ ∀ H', Same H H' → Q (.int (stayR lo hi m L : Nat)) H'
theorem sum_cast (l : List Nat) : (l.map fun n : Nat => (n : Int)).sum = (l.sum : Nat) := by
  induction l with
  | nil => rfl
  | cons a l ih => rw [List.map_cons, List.sum_cons, List.sum_cons, ih]; omega
theorem MD.Ok.nde {m : MD} (o : m.Ok) : m.es.Nodup := o.eu.imp fun {a b} h => Nat.ne_of_lt h
section
variable {P : Program} {w : World} {K : PySem.W.Frag} {mg : Str → Option Value} {base : Heap}
theorem ok_check_number (T : Txt K mg) : FnOk P w K mg base (L2.CX P w) 3 T.a_check_number T.fd_check_number ["value", "least", "most"] sp_cnumber := by
  refine T.F_check_number.okX sc_check_number (fun vs H Q E h => ?_) (fun cdv A outer s H vs Q E hr h => ?_)
  · obtain ⟨i, lo, hi, rfl, _⟩ := h
    rfl
  · obtain ⟨i, lo, hi, rfl, h1, h2, k⟩ := h
    refine ⟨_, (PSs.nox (pss_one (ps_if (pt_not (pt_val (pe_call (ok_is_integer_between T) (hr.mono (by decide)) (by rfl) T.m_is_integer_between T.k_is_integer_between T.b_is_integer_between .nil passL (pa_cons (pv 0) (pa_cons (pv 1) (pa_cons (pv 2) pa_nil))))))
  (pss_one ps_never)
  pss_nil))), ?_⟩
    walk_at "begin"
    walk_at "go"
    refine ⟨_, _, _, rfl, .inl ⟨i, rfl, ?_⟩⟩
    rw [decide_eq_true (show lo ≤ i ∧ i ≤ hi from ⟨h1, h2⟩)]
    walk_at "go"
    refine iteF ?_
    walk_at "go"
    exact k
end
/-! ### sorted(d), any number of keys: ints, or pairs of ints -/
def prOf (H : Hp) : Value → Int × Int
  | .ref b => match H b with
    | some (.tup [.int x, .int y]) => (x, y)
    | _ => (0, 0)
  | _ => (0, 0)
/-- the tuples of these pairs -/
def PairsAt (H : Hp) (us : List V) (zs : List (Int × Int)) : Prop := us.length = zs.length ∧ ∀ (i : Nat) (q : Int × Int), zs[i]? = some q → ∃ b, us[i]? = some (V.ref b) ∧ H b = some (.tup [.int q.1, .int q.2])
open PySem.Spec PyProof.Rows in
theorem call_sortedDI {X : L2.Cx} (hcalm : X.calm = true) : CallR X (.builtin "sorted") (fun xs H Q => ∃ (a : Addr) (kvs : List (Key × V)) (ks : List Int), xs = [.ref a] ∧ Rd H a (.dK kvs) ∧ kvs.map (·.1) = ks.map Sum.inl ∧
    ∀ (ys : List Int) (p : Addr), ys.Perm ks → ys.Pairwise (· ≤ ·) → H p = none → Q (.ref p) (upd H p (.lst (ys.map V.int)))) := by
  intro pins s σ H xs us Q I r q
  obtain ⟨a, kvs, ks, rfl, hd, hks, q⟩ := q
  obtain ⟨u, rfl, rx⟩ := r.one
  cases rx
  obtain ⟨z, lo, vs, rel, dd⟩ := dk_rd I.hok hd
  obtain ⟨ep, hat⟩ := dd.dictAt
  have hkeys : vs.map (·.1) = ks.map Sum.inl := rel.keys.symm.trans hks
  have hl : vs.length = ks.length := by simpa using congrArg List.length hkeys
  have h16 : vs.length ≤ sizeLine := by rw [← rel.length]; exact z
  refine Calls.call_function_entry PyProof.Rows.kind_sorted PyProof.Rows.plain_sorted PyProof.Rows.entry_sorted (PyProof.Rows.args_sorted1 _) ?_
  unfold Builtin.«sorted»
  refine wpAny_bind (m := checkCount "sorted" 1 1 _) (wpAny_pure ?_)
  refine wpAny_bind (PySem.W.kdu_collect (A := X.A.in1) (PySem.W.kdl_dict (knd := mixKind X.prog X.w) (kvs := vs) (ep := ep) lo) (I.ok.hd hcalm) hat h16 fun h' tk acc hk hacc => ?_)
  have hal : acc.toList.length = ks.length := by rw [Array.length_toList, hacc.1, hl]
  have hS : IntsAre acc.toList ks := ints_each hal fun j v e => by
    obtain ⟨k, x, e1, e2⟩ := hacc.2 j v (by rw [← Array.getElem?_toList]; exact e)
    have e3 : (vs.map (·.1))[j]? = some k := by rw [List.getElem?_map, e1]; rfl
    rw [hkeys, List.getElem?_map] at e3
    obtain ⟨y, e4, rfl⟩ := Option.map_eq_some_iff.mp e3
    rcases keyIs_shape (show keyIs (Sum.inl y) v = true from e2) with ⟨i, t, ek, ev⟩ | ⟨z, t, ek, ev⟩
    · cases ek
      exact ⟨y, t, e4, ev⟩
    · cases ek
  have I1 : Inv X pins σ H { s with heap := h', toks := tk } := I.kept hk
  have hz : acc.toList.length ≤ sizeLine := by rw [hal, ← hl]; exact h16
  refine wpAny_bind (wpAny_newList ?_ hz)
  have hoL : (h'.push (seqObj "list" acc.toList.toArray 0)).get? h'.objs.size = some (seqObj "list" acc.toList.toArray 0) := Heap.get?_push_size _ rfl
  show wpAny _ _ _ _ _ { s with heap := h'.push (seqObj "list" acc.toList.toArray 0), toks := tk }
  refine wpAny_bind (wpAny_holding (wpAny_call_entry PyProof.Rows.slot_list_sort ⟨_, hoL, rfl⟩ PyProof.Rows.entry_list_sort
    (SrtO.list_sort_ord SrtO.swo_int hoL hz (fun h2 => SrtO.ints_sortable hS h2) fun out h1 h2 => ⟨_, rfl, ?_⟩) (PyProof.Rows.args_list_sort _)))
  obtain ⟨k1, k2, k3⟩ := SrtO.ints_out hS h1 h2
  obtain ⟨e', he'⟩ := PyProof.Rows.sortedHeap_at (vs := acc.toList) (out := out.toArray) hoL
  have hlen : ((out.map SrtO.iv).map V.int).length ≤ sizeLine := by rw [List.length_map, k2.length_eq, ← hl]; exact h16
  refine wpAny_pure ⟨_, rfl, .ref h'.objs.size, upd H h'.objs.size (.lst ((out.map SrtO.iv).map V.int)), I1.laid (t' := tk) (fun b u e => ?_) (Nat.le_refl _)
    (show ObjOk X.prog X.w _ _ _ (.lst ((out.map SrtO.iv).map V.int)) from ⟨hlen, out, e', vals_of_ints k1, he'⟩), rfl, q _ _ k2 k3 (I1.hok.fresh (Nat.le_refl _))⟩
  have hb : b < h'.objs.size := Heap.lt_size e
  rw [PyProof.Rows.sortedHeap_old (Nat.ne_of_lt hb) (by rw [size_push']; exact Nat.lt_succ_of_lt hb)]
  exact Heap.get?_push_of_some _ e
open PySem.Spec PyProof.Rows in
theorem call_sortedDT {X : L2.Cx} (hcalm : X.calm = true) : CallR X (.builtin "sorted") (fun xs H Q => ∃ (a : Addr) (kvs : List (List Key × V)) (ks : List (Int × Int)), xs = [.ref a] ∧ Rd H a (.dT kvs) ∧ kvs.map (·.1) = ks.map (fun k => [.inl k.1, .inl k.2]) ∧
    ∀ (us : List V) (zs : List (Int × Int)) (p : Addr), zs.Perm ks → PairsAt H us zs → H p = none → Q (.ref p) (upd H p (.lst us))) := by
  intro pins s σ H xs us Q I r q
  obtain ⟨d, kvs, zs, rfl, hd, hks, q⟩ := q
  obtain ⟨u, rfl, rx⟩ := r.one
  cases rx
  obtain ⟨z, hs, ks, pr, o, es, ep, ho, hx, hdt, he, hn⟩ := (show ObjOk X.prog X.w H s.heap d (.dT kvs) from hd.ok I.hok)
  have l1 : es.size = ks.length := size_of_entries he
  have l2 : kvs.length = ks.length := Paired.length pr
  have l3 : kvs.length = zs.length := by simpa using congrArg List.length hks
  have h16 : es.size ≤ sizeLine := by omega
  refine Calls.call_function_entry PyProof.Rows.kind_sorted PyProof.Rows.plain_sorted PyProof.Rows.entry_sorted (PyProof.Rows.args_sorted1 _) ?_
  unfold Builtin.«sorted»
  refine wpAny_bind (m := checkCount "sorted" 1 1 _) (wpAny_pure ?_)
  refine wpAny_bind (PySem.W.kdu_collect (A := X.A.in1) (kdl_raw hs hx hdt) (I.ok.hd hcalm) ho h16 fun h' tk acc hk it => ?_)
  have I1 : Inv X pins σ H { s with heap := h', toks := tk } := I.kept hk
  -- the keys' own tuples
  have each : ∀ (j : Nat) (v : Value), acc.toList[j]? = some v → ∃ (b : Addr) (q : Int × Int), v = .ref b ∧ zs[j]? = some q ∧ H b = some (.tup [.int q.1, .int q.2]) := fun j v hj => by
    obtain ⟨en, hen, hv⟩ := it.2 j v (by rw [← Array.getElem?_toList]; exact hj)
    have qe := entry_at he j
    rw [hen] at qe
    cases hb : ks[j]? with
    | none => rw [hb] at qe; cases qe
    | some b =>
      rw [hb] at qe
      have e2 : en = entryOfKey (tupleKind (mixKind X.prog X.w)) b := Option.some.inj qe
      have jl : j < kvs.length := by have := (List.getElem?_eq_some_iff.mp hb).1; omega
      obtain ⟨⟨k, x⟩, hkv⟩ : ∃ p, kvs[j]? = some p := ⟨kvs[j], List.getElem?_eq_getElem jl⟩
      obtain ⟨b', hb', e1, e3, _⟩ := paired_get pr hkv
      rw [hb] at hb'
      cases hb'
      have ez : zs[j]? = some (zs[j]'(by omega)) := List.getElem?_eq_getElem (by omega)
      have ek : (kvs.map (·.1))[j]? = some k := by rw [List.getElem?_map, hkv]; rfl
      rw [hks, List.getElem?_map, ez] at ek
      have ek : [Sum.inl (zs[j]'(by omega)).1, Sum.inl (zs[j]'(by omega)).2] = k := Option.some.inj ek
      refine ⟨b.2.1, _, ?_, ez, ?_⟩
      · rw [hv, e2]; rfl
      · have e3 : H b.2.1 = some (.tup (k.map kV)) := e3
        rw [e3, ← ek]
        rfl
  have hal : acc.toList.length = zs.length := by rw [Array.length_toList, it.1]; omega
  have hmap : acc.toList.map (prOf H) = zs := by
    apply List.ext_getElem?
    intro j
    rw [List.getElem?_map]
    cases hj : acc.toList[j]? with
    | none => rw [List.getElem?_eq_none (by have := List.getElem?_eq_none_iff.mp hj; omega)]; rfl
    | some v =>
      obtain ⟨b, q, rfl, e1, e2⟩ := each j v hj
      rw [e1]
      show some (prOf H (.ref b)) = some q
      unfold prOf
      simp only [e2]
  have pair : ∀ v ∈ acc.toList, ∃ b, v = .ref b ∧ H b = some (.tup [.int (prOf H v).1, .int (prOf H v).2]) := fun v hv => by
    obtain ⟨j, hj⟩ := List.getElem?_of_mem hv
    obtain ⟨b, q, rfl, e1, e2⟩ := each j v hj
    refine ⟨b, rfl, ?_⟩
    have : prOf H (.ref b) = q := by unfold prOf; simp only [e2]
    rw [this]
    exact e2
  have isP : ∀ v ∈ acc.toList, Srt.IsPair h' v (prOf H v).1 (prOf H v).2 := fun v hv => by
    obtain ⟨b, rfl, e⟩ := pair v hv
    obtain ⟨_, its2, r2, o2, ho2, hc2, n2, hd2⟩ := I1.hok _ _ e
    obtain ⟨u1, u2, rfl, ri, rj⟩ := vals2 r2
    obtain ⟨t1, rfl⟩ := ri
    obtain ⟨t2, rfl⟩ := rj
    exact ⟨b, o2, t1, t2, n2, rfl, ho2, hc2, hd2⟩
  have hz : acc.toList.length ≤ sizeLine := by omega
  refine wpAny_bind (wpAny_newList ?_ hz)
  have hoL : (h'.push (seqObj "list" acc.toList.toArray 0)).get? h'.objs.size = some (seqObj "list" acc.toList.toArray 0) := Heap.get?_push_size _ rfl
  show wpAny _ _ _ _ _ { s with heap := h'.push (seqObj "list" acc.toList.toArray 0), toks := tk }
  refine wpAny_bind (wpAny_holding (wpAny_call_entry PyProof.Rows.slot_list_sort ⟨_, hoL, rfl⟩ PyProof.Rows.entry_list_sort
    (SrtO.list_sort_ord (SrtO.swo_lex (prOf H)) hoL hz (fun h2 => SrtO.pairs_sortableO (by omega) (fun v hv => (isP v hv).keeps fun b o e _ => Heap.get?_push_of_some _ e) fun o e => ?_) fun out h1 h2 => ⟨_, rfl, ?_⟩) (PyProof.Rows.args_list_sort _)))
  · have e' : some o = some (seqObj "list" acc.toList.toArray 0) := e.symm.trans hoL
    cases e'
    intro c
    exact absurd (Value.type.inj c) (by decide)
  · have h3 : ∀ u ∈ out, ∃ a, u = Value.ref a := fun u hu => let ⟨b, e, _⟩ := pair u (h2.perm.mem_iff.mp hu); ⟨b, e⟩
    obtain ⟨ep', he'⟩ := PyProof.Rows.sortedHeap_at (vs := acc.toList) (out := out.toArray) hoL
    have hlen : (out.map backV).length ≤ sizeLine := by rw [List.length_map, h2.perm.length_eq]; exact hz
    refine wpAny_pure ⟨_, rfl, .ref h'.objs.size, upd H h'.objs.size (.lst (out.map backV)), I1.laid (t' := tk) (fun b u e => ?_) (Nat.le_refl _)
      (show ObjOk X.prog X.w _ _ _ (.lst (out.map backV)) from ⟨hlen, out, ep', vals_back h3, he'⟩), rfl, q _ (out.map (prOf H)) _ ?_ ⟨by rw [List.length_map, List.length_map], fun i q hq => ?_⟩ (I1.hok.fresh (Nat.le_refl _))⟩
    · have hb : b < h'.objs.size := Heap.lt_size e
      rw [PyProof.Rows.sortedHeap_old (Nat.ne_of_lt hb) (by rw [size_push']; exact Nat.lt_succ_of_lt hb)]
      exact Heap.get?_push_of_some _ e
    · have := h2.perm.map (prOf H)
      rw [hmap] at this
      exact this
    · rw [List.getElem?_map] at hq
      obtain ⟨v, hv, rfl⟩ := Option.map_eq_some_iff.mp hq
      obtain ⟨b, rfl, e⟩ := pair v (h2.perm.mem_iff.mp (List.mem_of_getElem? hv))
      exact ⟨b, by rw [List.getElem?_map, hv]; rfl, e⟩
/-! ### tallies, count -/
abbrev loW : Int := -(10 ^ 40)
abbrev hiW : Int := 10 ^ 40
def sp_tal (K : PySem.W.Frag) (C : Addr) : Sp := fun vs H Q _ => ∃ (x : Addr) (m : MD) (L : Nat), vs = [.ref x, .int (L : Nat)] ∧ MAt K C H x m ∧ m.Ok ∧ L ≤ 12 ∧
  (∃ T : List Int, T.length < sizeLine ∧ ∀ n ≤ L, ∀ k u, cLev loW hiW m.ss n k u ≠ 0 → u ∈ T) ∧
  ∀ p us (ts : List Int) H', Same H H' → H p = none → H' p = some (.lst us) → ts.Pairwise (· < ·) → (∀ t, t ∈ ts ↔ cEnds loW hiW m L m.es t ≠ 0) → PairsAt H' us (ts.map fun t => (t, ((cEnds loW hiW m L m.es t : Nat) : Int))) → Q (.ref p) H'
def sp_cnt (K : PySem.W.Frag) (C : Addr) : Sp := fun vs H Q _ => ∃ (x : Addr) (m : MD) (L : Nat) (t : Int), vs = [.ref x, .int (L : Nat), .int t] ∧ MAt K C H x m ∧ m.Ok ∧ L ≤ 12 ∧ loW ≤ t ∧ t ≤ hiW ∧
  (∃ T : List Int, T.length < sizeLine ∧ ∀ n ≤ L, ∀ k u, cLev loW hiW m.ss n k u ≠ 0 → u ∈ T) ∧ ∀ H', Same H H' → Q (.int (cEnds loW hiW m L m.es t : Nat)) H'
theorem asc_lt {l : List Int} (h : l.Pairwise (· ≤ ·)) (nd : l.Nodup) : l.Pairwise (· < ·) := (h.and nd).imp fun {a b} ⟨x, y⟩ => by omega
theorem PairsAt.nil {H : Hp} : PairsAt H [] [] := ⟨rfl, fun i q e => by simp at e⟩
theorem PairsAt.same {H H' : Hp} {us : List V} {l : List (Int × Int)} (h : PairsAt H us l) (z : Same H H') : PairsAt H' us l := ⟨h.1, fun i q e => let ⟨x, a, b⟩ := h.2 i q e; ⟨x, a, z _ _ b⟩⟩
theorem PairsAt.put {H : Hp} {us : List V} {l : List (Int × Int)} {F : Addr} {o : HO} (h : PairsAt H us l) (hF : ∀ xs, H F ≠ some (.tup xs)) : PairsAt (upd H F o) us l := ⟨h.1, fun i q e => let ⟨x, a, b⟩ := h.2 i q e; ⟨x, a, tupl_upd hF b⟩⟩
theorem PairsAt.snoc {H : Hp} {us : List V} {l : List (Int × Int)} {x : Addr} {q : Int × Int} (h : PairsAt H us l) (hx : H x = some (.tup [.int q.1, .int q.2])) : PairsAt H (us ++ [V.ref x]) (l ++ [q]) := by
  refine ⟨by rw [List.length_append, List.length_append, h.1]; rfl, fun i t e => ?_⟩
  by_cases c : i < l.length
  · rw [List.getElem?_append_left c] at e
    obtain ⟨a, e1, q1⟩ := h.2 i t e
    exact ⟨a, by rw [List.getElem?_append_left (by rw [h.1]; exact c)]; exact e1, q1⟩
  · rw [List.getElem?_append_right (by omega)] at e
    have z : i - l.length = 0 := by
      have := (List.getElem?_eq_some_iff.mp e).1
      simp at this
      omega
    rw [z] at e
    cases e
    exact ⟨x, by rw [List.getElem?_append_right (by rw [h.1]; omega), h.1, z]; rfl, hx⟩
section
variable {P : Program} {w : World} {K : PySem.W.Frag} {mg : Str → Option Value} {base : Heap}
theorem ok_tallies (T : Txt K mg) : FnOk P w K mg base (L2.CX P w) 6 T.a_tallies T.fd_tallies ["machine", "length"] (sp_tal K T.c_Machine) := by
  refine T.F_tallies.okX sc_tallies (fun vs H Q E h => ?_) (fun cdv A outer s H vs Q E hr h => ?_)
  · obtain ⟨x, m, L, rfl, _⟩ := h
    rfl
  · obtain ⟨x, m, L, rfl, hm, o, hL, ⟨Tl, lT, hT⟩, k⟩ := h
    obtain ⟨dx, tt, u, hx, hp0⟩ := id hm
    refine ⟨_, (PSs.nox (pss_cons (ps_expr (pe_call (ok_check_machine T) (hr.mono (by decide)) (by rfl) T.m_check_machine T.k_check_machine T.b_check_machine .nil passL (pa_cons (pv 0) pa_nil)))
  (pss_cons (ps_expr (pe_call (ok_check_number T) (hr.mono (by decide)) (by rfl) T.m_check_number T.k_check_number T.b_check_number .nil passL (pa_cons (pv 1) (pa_cons pe_int (pa_cons (pe_glob (by rfl) T.m_MOST_LENGTH T.r_MOST_LENGTH) pa_nil)))))
  (pss_cons (ps_set (i := 2) sc_tallies.nd rfl (Or.inr rfl) (pe_call (ok_numbers T) (hr.mono (by decide)) (by rfl) T.m_numbers T.k_numbers T.b_numbers .nil passL (pa_cons (pv 0) (pa_cons (pv 1) (pa_cons (pe_un un_neg (pe_glob (by rfl) T.m_MOST_NUMBER T.r_MOST_NUMBER)) (pa_cons (pe_glob (by rfl) T.m_MOST_NUMBER T.r_MOST_NUMBER) pa_nil))))))
  (pss_one (ps_ret (pe_lc (own := [("tally", 3)]) (g := (gName 3)) (tt := tYes) rfl sc_tallies.nd (pi_list (pe_callB (call_sortedDI rfl) (by rfl) T.z_sorted (by decide +kernel) (pa_cons (pv 2) pa_nil))) (blkOk_by (own := [("tally", 3)]) (N := ["machine", "length", "numbers", "tally"]) (sc := defScope s_tallies) (by decide +kernel)) (fun _ _ _ _ _ => (pg_name (i := 3) sc_tallies.nd rfl (Or.inl rfl))) (fun _ _ _ _ _ => pts_nil) (fun _ _ _ _ _ => (pe_tup (pa_cons (pv 3) (pa_cons (pe_dget (hu_of hr) (pv 2) (pv 3) (fun _ _ => rfl)) pa_nil))))))))))), ?_⟩
    walk_at "begin"
    walk_at "go"
    refine ⟨x, dx, _, rfl, hx, ?_⟩
    walk_at "go"
    refine ⟨_, _, _, rfl, by omega, by omega, ?_⟩
    walk_at "go"
    refine ⟨x, m, L, loW, hiW, Tl, rfl, hm, o, by omega, lT, hT, fun p kv H1 z1 hp ep cd => ?_⟩
    obtain ⟨ts, e, nd, hts⟩ := cd.list
    walk_at "go"
    refine ⟨p, kv, ts, rfl, .inl ep, by rw [e, List.map_map]; rfl, fun ys p2 hy1 hy2 hp2 => ?_⟩
    have z2 := Same.new (o := .lst (ys.map V.int)) hp2
    have e2 := upd_same (H := H1) (a := p2) (o := .lst (ys.map V.int))
    have ep2 := z2 _ _ ep
    generalize upd H1 p2 (.lst (ys.map V.int)) = H2 at z2 e2 ep2 ⊢
    have ly : ys.length < sizeLine := by
      rw [hy1.length_eq]
      have := cd.len (T := Tl) fun t ht => by
        obtain ⟨e, he⟩ := cEnds_pos ht
        exact hT L (Nat.le_refl _) e t he
      rw [e, List.length_map] at this
      omega
    have hy3 : ∀ t, t ∈ ys ↔ cEnds loW hiW m L m.es t ≠ 0 := fun t => (hy1.mem_iff).trans (hts t)
    have hy4 := asc_lt hy2 (hy1.symm.nodup nd)
    refine ⟨p2, rfl, ⟨_, SqL.of e2⟩, fun D hD => ?_⟩
    refine lc_list (xs := ys.map V.int) (fun i H' => ∃ us, Same H2 H' ∧ H' D = some (.lst us) ∧ PairsAt H' us ((ys.take i).map fun t => (t, ((cEnds loW hiW m L m.es t : Nat) : Int)))) ⟨[], Same.new hD, upd_same, PairsAt.nil⟩ (fun _ H' _ ⟨_, z, _⟩ => SqL.of (z _ _ e2)) ?_ ?_
    · rintro i y H3 hy ⟨us, z3, eD, pa⟩
      rw [List.getElem?_map] at hy
      obtain ⟨t, ht, rfl⟩ := Option.map_eq_some_iff.mp hy
      have tk : ((ys.take (i + 1)).map fun t => (t, ((cEnds loW hiW m L m.es t : Nat) : Int))) = ((ys.take i).map fun t => (t, ((cEnds loW hiW m L m.es t : Nat) : Int))) ++ [(t, ((cEnds loW hiW m L m.es t : Nat) : Int))] := by rw [List.take_add_one, ht, List.map_append]; rfl
      have lu : us.length < sizeLine := by
        rw [pa.1, List.length_map, List.length_take]
        omega
      walk_at "go"
      refine ⟨by rfl, ?_⟩
      walk_at "go"
      have ct : cEnds loW hiW m L m.es t ≠ 0 := (hy3 t).mp (List.mem_of_getElem? ht)
      refine k_yes rfl ?_
      walk_at "go"
      refine ⟨p, .int (cEnds loW hiW m L m.es t : Nat), rfl, (by have q := DGet.k (k := .inl t) (z3 _ _ ep2); rw [cd.at_ t, if_neg ct] at q; exact q), ?_⟩
      walk_at "go"
      refine ⟨(by decide : 2 ≤ sizeLine), fun pn hpn => ?_⟩
      have z4 := Same.new (o := .tup [V.int t, .int (cEnds loW hiW m L m.es t : Nat)]) hpn
      have eD4 := z4 _ _ eD
      refine ⟨us, eD4, lu, _, Same.mut (z3.trans z4) hD, upd_same, ?_⟩
      rw [tk]
      exact ((pa.same z4).snoc upd_same).put fun xs e => by rw [eD4] at e; cases e
    · rintro H3 ⟨us, z3, eD, pa⟩
      rw [List.length_map, List.take_length] at pa
      exact k _ _ ys H3 ((z1.trans z2).trans z3) (free_of (z1.trans z2) hD) eD hy4 hy3 pa
theorem ok_count (T : Txt K mg) : FnOk P w K mg base (L2.CX P w) 6 T.a_count T.fd_count ["machine", "length", "tally"] (sp_cnt K T.c_Machine) := by
  refine T.F_count.okX sc_count (fun vs H Q E h => ?_) (fun cdv A outer s H vs Q E hr h => ?_)
  · obtain ⟨x, m, L, t, rfl, _⟩ := h
    rfl
  · obtain ⟨x, m, L, t, rfl, hm, o, hL, t1, t2, ⟨Tl, lT, hT⟩, k⟩ := h
    obtain ⟨dx, tt, u, hx, hp0⟩ := id hm
    refine ⟨_, (PSs.nox (pss_cons (ps_expr (pe_call (ok_check_machine T) (hr.mono (by decide)) (by rfl) T.m_check_machine T.k_check_machine T.b_check_machine .nil passL (pa_cons (pv 0) pa_nil)))
  (pss_cons (ps_expr (pe_call (ok_check_number T) (hr.mono (by decide)) (by rfl) T.m_check_number T.k_check_number T.b_check_number .nil passL (pa_cons (pv 1) (pa_cons pe_int (pa_cons (pe_glob (by rfl) T.m_MOST_LENGTH T.r_MOST_LENGTH) pa_nil)))))
  (pss_cons (ps_expr (pe_call (ok_check_number T) (hr.mono (by decide)) (by rfl) T.m_check_number T.k_check_number T.b_check_number .nil passL (pa_cons (pv 2) (pa_cons (pe_un un_neg (pe_glob (by rfl) T.m_MOST_NUMBER T.r_MOST_NUMBER)) (pa_cons (pe_glob (by rfl) T.m_MOST_NUMBER T.r_MOST_NUMBER) pa_nil)))))
  (pss_one (ps_ret (pe_dget2 (hu_of hr) (pe_call (ok_numbers T) (hr.mono (by decide)) (by rfl) T.m_numbers T.k_numbers T.b_numbers .nil passL (pa_cons (pv 0) (pa_cons (pv 1) (pa_cons (pe_un un_neg (pe_glob (by rfl) T.m_MOST_NUMBER T.r_MOST_NUMBER)) (pa_cons (pe_glob (by rfl) T.m_MOST_NUMBER T.r_MOST_NUMBER) pa_nil))))) (pv 2) pe_int ⟨by rfl, by rfl, by rfl, by rfl⟩))))))), ?_⟩
    walk_at "begin"
    walk_at "go"
    refine ⟨x, dx, _, rfl, hx, ?_⟩
    walk_at "go"
    refine ⟨_, _, _, rfl, by omega, by omega, ?_⟩
    walk_at "go"
    refine ⟨_, _, _, rfl, t1, t2, ?_⟩
    walk_at "go"
    refine k_dget2 ?_
    walk_at "go"
    refine ⟨x, m, L, loW, hiW, Tl, rfl, hm, o, by omega, lT, hT, fun p kv H1 z1 hp ep cd => ?_⟩
    refine ⟨p, rfl, .inl ⟨kv, .inl ep⟩, ?_⟩
    walk_at "go"
    refine ⟨_, DGet.k (k := .inl t) ep, ?_⟩
    rw [cd.at_ t]
    by_cases c : cEnds loW hiW m L m.es t = 0
    · rw [if_pos c]
      have := k H1 z1
      rw [c] at this
      exact this
    · rw [if_neg c]
      exact k H1 z1
end
/-! ### tuples sliced and joined, the whole one among them -/
theorem k_slT {K : PySem.W.Frag} {H : Hp} {Q : VK} {a : Addr} {xs : List V} {lo hi : Option Int} (h : SqT K H a xs) (q : ∀ r H', Same H H' → SqT K H' r (cutV xs lo hi) → Q (.ref r) H') : rSlA K (.ref a) lo hi H Q := by
  refine ⟨a, xs, rfl, h, fun e => q a H (Same.refl _) ?_, fun _ p hp => q p _ (Same.new hp) (SqT.of upd_same)⟩
  have : cutV xs lo hi = xs := by
    unfold cutV
    rw [e.1, e.2, List.drop_zero, Nat.sub_zero, List.take_length]
  rw [this]
  exact h
theorem k_catT {K : PySem.W.Frag} {H : Hp} {Q : VK} {a b : Addr} {xs ys : List V} (ha : SqT K H a xs) (hb : SqT K H b ys) (l : xs.length + ys.length ≤ sizeLine) (q : ∀ r H', Same H H' → SqT K H' r (xs ++ ys) → Q (.ref r) H') : rCatA K (.ref a) (.ref b) H Q := by
  refine ⟨a, b, xs, ys, rfl, rfl, ha, hb, l, fun e => q b H (Same.refl _) (by rw [e]; exact hb), fun _ e => q a H (Same.refl _) (by rw [e, List.append_nil]; exact ha), fun _ _ p hp => q p _ (Same.new hp) (SqT.of upd_same)⟩
theorem cutV_drop (xs : List V) (k : Nat) : cutV xs (some ((k : Nat) : Int)) none = xs.drop k := by
  unfold cutV
  rw [HT.sIx_none, HT.sIx_nat]
  rcases Nat.le_total k xs.length with h | h
  · rw [Nat.min_eq_left h, List.take_of_length_le (by rw [List.length_drop]; exact Nat.le_refl _)]
  · rw [Nat.min_eq_right h, Nat.sub_self, List.take_zero, List.drop_eq_nil_of_le h]
theorem cutV_take (xs : List V) (k : Nat) : cutV xs none (some ((k : Nat) : Int)) = xs.take k := by
  unfold cutV
  rw [HT.sIx_none, HT.sIx_nat, List.drop_zero, Nat.sub_zero]
  rcases Nat.le_total k xs.length with h | h
  · rw [Nat.min_eq_left h]
  · rw [Nat.min_eq_right h, List.take_length, List.take_of_length_le h]
/-! ### the law's own rows, all of one length -/
def RowsAt (K : PySem.W.Frag) (H : Hp) (us : List V) (rs : List RC) : Prop := us.length = rs.length ∧ ∀ (i : Nat) (r : RC), rs[i]? = some r → ∃ p q, us[i]? = some (V.ref p) ∧ SqT K H p [.str (sOf r.w), .int (r.k : Nat), .ref q] ∧ SqT K H q ((r.xs ++ [r.t]).map V.int)
theorem RowsAt.tups {K : PySem.W.Frag} {H H' : Hp} {us : List V} {rs : List RC} (h : RowsAt K H us rs) (t : Tups H H') : RowsAt K H' us rs := ⟨h.1, fun i r e => let ⟨p, q, a, b, c⟩ := h.2 i r e; ⟨p, q, a, t.sq b, t.sq c⟩⟩
theorem RowsAt.nil {K : PySem.W.Frag} {H : Hp} : RowsAt K H [] [] := ⟨rfl, fun i r e => by simp at e⟩
theorem RowsAt.snoc {K : PySem.W.Frag} {H : Hp} {us : List V} {rs : List RC} {p q : Addr} {r : RC} (h : RowsAt K H us rs) (hp : SqT K H p [.str (sOf r.w), .int (r.k : Nat), .ref q]) (hq : SqT K H q ((r.xs ++ [r.t]).map V.int)) : RowsAt K H (us ++ [V.ref p]) (rs ++ [r]) := by
  refine ⟨by rw [List.length_append, List.length_append, h.1]; rfl, fun i t e => ?_⟩
  by_cases c : i < rs.length
  · rw [List.getElem?_append_left c] at e
    obtain ⟨a, b, e1, q1⟩ := h.2 i t e
    exact ⟨a, b, by rw [List.getElem?_append_left (by rw [h.1]; exact c)]; exact e1, q1⟩
  · rw [List.getElem?_append_right (by omega)] at e
    have z : i - rs.length = 0 := by
      have := (List.getElem?_eq_some_iff.mp e).1
      simp at this
      omega
    rw [z] at e
    cases e
    exact ⟨p, q, by rw [List.getElem?_append_right (by rw [h.1]; omega), h.1, z]; rfl, hp, hq⟩
def sp_lrows (K : PySem.W.Frag) : Sp := fun vs H Q _ => ∃ (d : Addr) (m : MD) (L : Nat), vs = [.ref d, .int (L : Nat)] ∧ DAt K H d m ∧ m.Ok ∧ L ≤ 6 ∧
  ∀ p us H', Same H H' → H p = none → H' p = some (.lst us) → RowsAt K H' us (rowsC m L) → Q (.ref p) H'
theorem rows_size {m : MD} (o : m.Ok) {n : Nat} (h : n ≤ 6) : (rowsC m n).length ≤ 4096 := Nat.le_trans (rowsC_len o n) (Nat.le_trans (Nat.pow_le_pow_right (by decide) h) (by decide))
section
variable {P : Program} {w : World} {K : PySem.W.Frag} {mg : Str → Option Value} {base : Heap}
theorem ok_law_rows (T : Txt K mg) : FnOk P w K mg base (L2.CX P w) 3 T.a_law_rows T.fd_law_rows ["_law_d", "_law_length"] (sp_lrows K) := by
  refine T.F_law_rows.okX sc_law_rows (fun vs H Q E h => ?_) (fun cdv A outer s H vs Q E hr h => ?_)
  · obtain ⟨d, m, L, rfl, _⟩ := h
    rfl
  · obtain ⟨d, m, L, rfl, hd, o, hL, k⟩ := h
    refine ⟨_, (PSs.nox (pss_cons (ps_set (i := 2) sc_law_rows.nd rfl (Or.inl rfl) (pe_lst (pa_cons (pe_tup (pa_cons pe_str (pa_cons pe_int (pa_cons (pe_tup (pa_cons pe_int pa_nil)) pa_nil)))) pa_nil)))
  (pss_cons (ps_for PassesOwn.never rfl (pi_range1 (by rfl) T.z_range (pa_cons (pv 1) pa_nil)) (pg_name (i := 3) sc_law_rows.nd rfl (Or.inl rfl))
  (pss_cons (ps_set (i := 4) sc_law_rows.nd rfl (Or.inl rfl) (pe_lst pa_nil))
  (pss_cons (ps_for PassesOwn.never rfl (pi_list (pv 2)) (pg_tup rfl (pgs_cons (pg_name (i := 5) sc_law_rows.nd rfl (Or.inl rfl)) (pgs_cons (pg_name (i := 6) sc_law_rows.nd rfl (Or.inl rfl)) (pgs_cons (pg_name (i := 7) sc_law_rows.nd rfl (Or.inl rfl)) pgs_nil))))
  (pss_one (ps_for PassesOwn.never rfl (pi_list (pe_call (ok_law_next T) (hr.mono (by decide)) (by rfl) T.m_law_next T.k_law_next T.b_law_next .nil passL (pa_cons (pv 0) (pa_cons (pv 6) pa_nil)))) (pg_tup rfl (pgs_cons (pg_name (i := 8) sc_law_rows.nd rfl (Or.inl rfl)) (pgs_cons (pg_name (i := 9) sc_law_rows.nd rfl (Or.inl rfl)) (pgs_cons (pg_name (i := 10) sc_law_rows.nd rfl (Or.inl rfl)) pgs_nil))))
  (pss_one (ps_expr (pe_bm PySem.F.plainAttrs_list PySem.F.slot_list_append PySem.F.type_list_append mt_append (pv 4) (pa_cons (pe_tup (pa_cons (pe_op op_add_str (pv 5) (pv 8)) (pa_cons (pv 9) (pa_cons (pe_op op_catA (pv 7) (pe_tup (pa_cons (pe_op op_add (pe_ix ix_tup (pv 7) (pe_un un_neg pe_int) (fun _ _ => rfl)) (pv 10)) pa_nil))) pa_nil)))) pa_nil)))))))
  (pss_one (ps_set (i := 2) sc_law_rows.nd rfl (Or.inl rfl) (pv 4))))))
  (pss_one (ps_ret (pv 2)))))), ?_⟩
    walk_at "begin"
    walk_at "go"
    refine ⟨(by decide : 1 ≤ sizeLine), fun q0 hq0 => ?_⟩
    walk_at "go"
    refine ⟨(by decide : 3 ≤ sizeLine), fun p0 hp0 => ?_⟩
    walk_at "go"
    refine ⟨(by decide : 1 ≤ sizeLine), fun F hF => ?_⟩
    have z3 := ((Same.new (o := .tup [V.int 0]) hq0).trans (Same.new (o := .tup [V.str "", V.int 0, V.ref q0]) hp0)).trans (Same.new (o := .lst [V.ref p0]) hF)
    have t1 := Same.new (o := .lst [V.ref p0]) hF
    have t2 := (Same.new (o := .tup [V.str "", V.int 0, V.ref q0]) hp0).trans t1
    have r0 : RowsAt K (upd (upd (upd H q0 (.tup [V.int 0])) p0 (.tup [V.str "", V.int 0, V.ref q0])) F (.lst [V.ref p0])) [V.ref p0] (rowsC m 0) :=
      RowsAt.nil.snoc (r := ⟨[], 0, [], 0⟩) (SqT.of (t1 _ _ upd_same)) (SqT.of (t2 _ _ upd_same))
    have eF := upd_same (H := upd (upd H q0 (.tup [V.int 0])) p0 (.tup [V.str "", V.int 0, V.ref q0])) (a := F) (o := .lst [V.ref p0])
    have hF0 : H F = none := free_of ((Same.new (o := .tup [V.int 0]) hq0).trans (Same.new (o := .tup [V.str "", V.int 0, V.ref q0]) hp0)) hF
    generalize upd (upd (upd H q0 (.tup [V.int 0])) p0 (.tup [V.str "", V.int 0, V.ref q0])) F (.lst [V.ref p0]) = H1 at z3 r0 eF ⊢
    clear t1 t2 hq0 hp0 hF
    walk_at "go"
    refine k_rg (by omega) (by omega) ?_
    refine for_range (lo := 0) (n := ((L : Nat) : Int).toNat) (fun i σ H' => ∃ F us a3 a4 a5 a6 a7 a8 a9 a10, Same H H' ∧ H F = none ∧ H' F = some (.lst us) ∧ RowsAt K H' us (rowsC m i) ∧ σ = [some (.ref d), some (.int (L : Nat)), some (.ref F), a3, a4, a5, a6, a7, a8, a9, a10])
      ⟨F, _, _, _, _, _, _, _, _, _, z3, hF0, eF, r0, rfl⟩ ?_ ?_
    · clear r0 eF z3 hF0 F H1
      rintro i σ H1 hi ⟨F, us, a3, a4, a5, a6, a7, a8, a9, a10, z1, hF0, eF, ra, rfl⟩
      have iL : i < L := hi
      walk_at "go"
      refine ⟨(by decide : 0 ≤ sizeLine), fun G hG => ?_⟩
      have hG0 := free_of z1 hG
      have nFG : F ≠ G := ne_of_none eF hG
      walk_at "go"
      refine ⟨F, rfl, ⟨_, SqL.of (Same.new hG _ _ eF)⟩, for_list (xs := us) (fun j σ H' => ∃ vs a5 a6 a7 a8 a9 a10, Same H1 H' ∧ H' G = some (.lst vs) ∧ RowsAt K H' vs (((rowsC m i).take j).flatMap fun r => (fromS m r.k).map r.next) ∧
        σ = [some (.ref d), some (.int (L : Nat)), some (.ref F), some (.int (0 + (i : Nat))), some (.ref G), a5, a6, a7, a8, a9, a10]) ⟨[], _, _, _, _, _, _, Same.new hG, upd_same, RowsAt.nil, rfl⟩ (fun j σ H' _ ⟨_, _, _, _, _, _, _, z2, _⟩ => SqL.of (z2 _ _ eF)) ?_ ?_⟩
      · rintro j y σ H2 hy ⟨vs, a5, a6, a7, a8, a9, a10, z2, eG, rb, rfl⟩
        have jl : j < (rowsC m i).length := by rw [← ra.1]; exact (List.getElem?_eq_some_iff.mp hy).1
        have ej : (rowsC m i)[j]? = some ((rowsC m i)[j]'jl) := List.getElem?_eq_getElem jl
        obtain ⟨p, q, ep, hp, hq⟩ := ra.2 j _ ej
        rw [hy] at ep
        cases ep
        have rok := rowsC_ok o i _ (List.getElem_mem jl)
        have tk : ((rowsC m i).take (j + 1)).flatMap (fun r => (fromS m r.k).map r.next) = ((rowsC m i).take j).flatMap (fun r => (fromS m r.k).map r.next) ++ (fromS m ((rowsC m i)[j]'jl).k).map ((rowsC m i)[j]'jl).next := by
          rw [List.take_add_one, ej, List.flatMap_append]
          simp
        have small : (((rowsC m i).take j).flatMap (fun r => (fromS m r.k).map r.next) ++ (fromS m ((rowsC m i)[j]'jl).k).map ((rowsC m i)[j]'jl).next).length ≤ 4096 := by
          rw [← tk]
          refine Nat.le_trans ?_ (rows_size o (n := i + 1) (by omega))
          show _ ≤ ((rowsC m i).flatMap fun r => (fromS m r.k).map r.next).length
          conv => rhs; rw [← List.take_append_drop (j + 1) (rowsC m i)]
          rw [List.flatMap_append, List.length_append]
          exact Nat.le_add_right _ _
        rw [tk]
        generalize (rowsC m i)[j]'jl = r0 at hp hq rok small
        generalize ((rowsC m i).take j).flatMap (fun r => (fromS m r.k).map r.next) = ps at rb small
        refine k_gt ((same_tups z2).sq hp) rfl ?_
        walk_at "go"
        refine ⟨d, r0.k, m, rfl, hd.same (z1.trans z2), o, fun pn ns H3 z3 hpn epn nx => ?_⟩
        refine ⟨pn, rfl, ⟨_, SqL.of epn⟩, for_list (xs := ns) (fun c σ H' => ∃ vs a8 a9 a10, Same H1 H' ∧ H' G = some (.lst vs) ∧ H' pn = some (.lst ns) ∧ NxAt K H' ns (fromS m r0.k) ∧ RowsAt K H' vs (ps ++ ((fromS m r0.k).take c).map r0.next) ∧
          σ = [some (.ref d), some (.int (L : Nat)), some (.ref F), some (.int (0 + (i : Nat))), some (.ref G), some (.str (sOf r0.w)), some (.int (r0.k : Nat)), some (.ref q), a8, a9, a10])
          ⟨vs, _, _, _, z2.trans z3, z3 _ _ eG, epn, nx, by rw [List.take_zero, List.map_nil, List.append_nil]; exact rb.tups (same_tups z3), rfl⟩ (fun _ _ _ _ ⟨_, _, _, _, _, _, e, _⟩ => SqL.of e) ?_ ?_⟩
        · rintro c y σ H4 hc ⟨vs, a8, a9, a10, z4, eG4, epn4, nx4, rb4, rfl⟩
          have cl : c < (fromS m r0.k).length := by rw [← nx4.1]; exact (List.getElem?_eq_some_iff.mp hc).1
          have es : (fromS m r0.k)[c]? = some ((fromS m r0.k)[c]'cl) := List.getElem?_eq_getElem cl
          have hs : (fromS m r0.k)[c]'cl ∈ fromS m r0.k := List.getElem_mem cl
          have tk : ((fromS m r0.k).take (c + 1)).map r0.next = ((fromS m r0.k).take c).map r0.next ++ [r0.next ((fromS m r0.k)[c]'cl)] := by rw [List.take_add_one, es, List.map_append]; rfl
          have lv : vs.length < sizeLine := by
            rw [rb4.1, List.length_append, List.length_map, List.length_take]
            rw [List.length_append, List.length_map] at small
            exact Nat.lt_of_le_of_lt (show _ ≤ 4096 by omega) (by decide)
          rw [tk, ← List.append_assoc]
          generalize (fromS m r0.k)[c]'cl = s0 at es hs
          obtain ⟨qn, eq, hqn⟩ := nx4.2 _ _ es
          rw [hc] at eq
          cases eq
          have ok0 := o.ok _ (List.mem_filter.mp hs).1
          refine k_gt hqn rfl ?_
          unfold nxV
          walk_at "go"
          refine ⟨.inl ⟨rfl, _, SqL.of eG4⟩, ?_⟩
          walk_at "go"
          refine ⟨_, _, rfl, rfl, by rw [sOf_len]; show r0.w.length + 1 ≤ sizeLine; exact Nat.le_trans (show r0.w.length + 1 ≤ 7 by omega) (by decide), ?_⟩
          rw [sOf_snoc]
          walk_at "go"
          have hq4 := (same_tups z4).sq hq
          refine k_ixT hq4 (v := .int r0.t) (by rw [List.map_append]; exact atI_last _ _) ?_
          walk_at "go"
          refine ⟨(by decide : 1 ≤ sizeLine), fun qa hqa => ?_⟩
          have za := Same.new (o := .tup [V.int (r0.t + s0.g)]) hqa
          refine k_catT ((same_tups za).sq hq4) (SqT.of upd_same) ?_ fun qb H5 z5 hqb => ?_
          · rw [List.length_map, List.length_append, rok.2.2.1]
            exact Nat.le_trans (show i + 1 + 1 ≤ 8 by omega) (by decide)
          have z45 := za.trans z5
          have eG5 := z45 _ _ eG4
          have epn5 := z45 _ _ epn4
          have nx5 := nx4.tups (same_tups z45)
          have rb5 := rb4.tups (same_tups z45)
          have z15 := z4.trans z45
          clear za z5 z45 hq4 hqa
          walk_at "go"
          refine ⟨(by decide : 3 ≤ sizeLine), fun pb hpb => ?_⟩
          have zb := Same.new (o := .tup [.str (sOf (r0.w ++ [s0.c])), .int (s0.e : Nat), .ref qb]) hpb
          have eG6 := zb _ _ eG5
          have npG : pn ≠ G := fun w => by
            rw [w, eG] at hpn; cases hpn
          walk_at "go"
          refine k_append eG6 lv ?_
          refine ⟨vs ++ [.ref pb], _, _, _, Same.mut (z15.trans zb) hG, upd_same, by rw [upd_ne npG]; exact zb _ _ epn5, (nx5.tups (same_tups zb)).tups (Tups.lst eG6), ?_, rfl⟩
          refine ((rb5.tups (same_tups zb)).snoc (p := pb) (q := qb) (r := r0.next s0) (SqT.of upd_same) ((same_tups zb).sq ?_)).tups (Tups.lst eG6)
          show SqT K H5 qb (((r0.xs ++ [r0.t]) ++ [r0.t + s0.g]).map V.int)
          rw [List.map_append]
          exact hqb
        · rintro σ H4 ⟨vs, a8, a9, a10, z4, eG4, epn4, nx4, rb4, rfl⟩
          rw [nx4.1, List.take_length] at rb4
          exact ⟨vs, _, _, _, _, _, _, z4, eG4, rb4, rfl⟩
      · rintro σ H2 ⟨vs, a5, a6, a7, a8, a9, a10, z2, eG, rb, rfl⟩
        rw [ra.1, List.take_length] at rb
        walk_at "go"
        exact ⟨G, vs, _, _, _, _, _, _, _, _, z1.trans z2, hG0, eG, rb, rfl⟩
    · rintro σ H2 ⟨F, us, a3, a4, a5, a6, a7, a8, a9, a10, z1, hF0, eF, ra, rfl⟩
      walk_at "go"
      exact k F us H2 z1 hF0 eF ra
end
/-! ### a machine of at most five stands that takes every string of six letters has two rows of six letters with the same tally -/
def Chn (m : MD) : Nat → List Stp → Nat → Prop
  | k, [], k' => k = k'
  | k, s :: ps, k' => s ∈ m.ss ∧ s.b = k ∧ Chn m s.e ps k'
def gainS (ps : List Stp) : Int := (ps.map fun s => s.g).sum
theorem Chn.app {m : MD} : ∀ {ps qs : List Stp} {k j i : Nat}, Chn m k ps j → Chn m j qs i → Chn m k (ps ++ qs) i
  | [], _, _, _, _, h, g => by cases (show _ = _ from h); exact g
  | s :: ps, qs, k, j, i, h, g => ⟨h.1, h.2.1, Chn.app (ps := ps) h.2.2 g⟩
theorem Chn.lt {m : MD} (o : m.Ok) : ∀ {ps : List Stp} {k j : Nat}, k < m.n → Chn m k ps j → j < m.n
  | [], k, j, h, c => by cases (show k = j from c); exact h
  | s :: ps, k, j, h, c => Chn.lt o (ps := ps) (o.ok s c.1).e c.2.2
theorem chn_row {m : MD} : ∀ {ps : List Stp} {n k : Nat} {r : RC}, r ∈ rowsC m n → Chn m r.k ps k → ∃ r' ∈ rowsC m (n + ps.length), r'.k = k ∧ r'.w = r.w ++ ps.map (fun s => s.c) ∧ r'.t = r.t + gainS ps
  | [], n, k, r, hr, h => ⟨r, hr, h, by simp, by simp [gainS]⟩
  | s :: ps, n, k, r, hr, h => by
    have hs : r.next s ∈ rowsC m (n + 1) := List.mem_flatMap.mpr ⟨r, hr, List.mem_map.mpr ⟨s, List.mem_filter.mpr ⟨h.1, by rw [h.2.1]; exact beq_self_eq_true _⟩, rfl⟩⟩
    obtain ⟨r', h1, h2, h3, h4⟩ := chn_row (ps := ps) hs h.2.2
    refine ⟨r', by rw [List.length_cons, show n + (ps.length + 1) = n + 1 + ps.length by omega]; exact h1, h2, ?_, ?_⟩
    · rw [h3]
      show (r.w ++ [s.c]) ++ _ = _
      rw [List.append_assoc]
      rfl
    · rw [h4]
      show r.t + s.g + gainS ps = r.t + (s.g + gainS ps)
      omega
def Full (m : MD) (k : Nat) : Prop := (fromS m k).length = 4
theorem flat_len {m : MD} (o : m.Ok) : ∀ l : List RC, (l.flatMap fun r => (fromS m r.k).map r.next).length ≤ 4 * l.length ∧ ((l.flatMap fun r => (fromS m r.k).map r.next).length = 4 * l.length → ∀ r ∈ l, Full m r.k)
  | [] => ⟨Nat.le_refl _, fun _ r h => by cases h⟩
  | a :: l => by
    obtain ⟨h1, h2⟩ := flat_len o l
    have fl := from_len o a.k
    rw [List.flatMap_cons, List.length_append, List.length_map, List.length_cons]
    refine ⟨by omega, fun e r hr => ?_⟩
    rcases List.mem_cons.mp hr with rfl | hr
    · show (fromS m r.k).length = 4
      omega
    · exact h2 (by omega) r hr
theorem full_down {m : MD} (o : m.Ok) {n : Nat} (h : (rowsC m (n + 1)).length = 4 ^ (n + 1)) : (rowsC m n).length = 4 ^ n ∧ ∀ r ∈ rowsC m n, Full m r.k := by
  have a := rowsC_len o n
  have e : (rowsC m (n + 1)).length = ((rowsC m n).flatMap fun r => (fromS m r.k).map r.next).length := rfl
  obtain ⟨h1, h2⟩ := flat_len o (rowsC m n)
  rw [Nat.pow_succ] at h
  exact ⟨by omega, h2 (by omega)⟩
theorem full_all {m : MD} (o : m.Ok) (h6 : (rowsC m 6).length = 4 ^ 6) : ∀ n ≤ 5, ∀ r ∈ rowsC m n, Full m r.k := by
  have h5 := full_down o h6
  have h4 := full_down o h5.1
  have h3 := full_down o h4.1
  have h2 := full_down o h3.1
  have h1 := full_down o h2.1
  have h0 := full_down o h1.1
  intro n hn
  have : n = 0 ∨ n = 1 ∨ n = 2 ∨ n = 3 ∨ n = 4 ∨ n = 5 := by omega
  rcases this with rfl | rfl | rfl | rfl | rfl | rfl
  · exact h0.2
  · exact h1.2
  · exact h2.2
  · exact h3.2
  · exact h4.2
  · exact h5.2
/-- the steps of a stand that takes all letters -/
theorem full_steps {m : MD} (o : m.Ok) {k : Nat} (h : Full m k) : ∃ a b c d : Stp, fromS m k = [a, b, c, d] ∧ a.c = 97 ∧ b.c = 98 ∧ c.c = 99 ∧ d.c = 100 := by
  have up : ((fromS m k).map (·.c)).Pairwise (· < ·) := by
    rw [List.pairwise_map]
    refine (o.up.filter _).imp_of_mem fun {a b} ha hb h => ?_
    have e1 : a.b = k := by simpa using (List.mem_filter.mp ha).2
    have e2 : b.b = k := by simpa using (List.mem_filter.mp hb).2
    rcases h with h | ⟨_, h⟩
    · omega
    · exact h
  have bd : ∀ s ∈ fromS m k, 97 ≤ s.c ∧ s.c ≤ 100 := fun s hs => ⟨(o.ok s (List.mem_filter.mp hs).1).c, (o.ok s (List.mem_filter.mp hs).1).c'⟩
  unfold Full at h
  generalize fromS m k = l at h up bd
  match l, h, up, bd with
  | [a, b, c, d], _, up, bd =>
    simp only [List.map_cons, List.map_nil, List.pairwise_cons, List.mem_cons, List.not_mem_nil, or_false, forall_eq_or_imp, forall_eq] at up bd
    exact ⟨a, b, c, d, rfl, by omega, by omega, by omega, by omega⟩
/-! balls in a graph -/
def Bal (E : Nat → Nat → Prop) (x : Nat) : Nat → Nat → Prop
  | 0, j => j = x
  | n + 1, j => Bal E x n j ∨ ∃ i, Bal E x n i ∧ E i j
theorem Bal.mono {E : Nat → Nat → Prop} {x : Nat} : ∀ {n k j : Nat}, n ≤ k → Bal E x n j → Bal E x k j
  | n, 0, j, h, b => by cases (show n = 0 by omega); exact b
  | n, k + 1, j, h, b => by
    by_cases c : n = k + 1
    · rw [← c]; exact b
    · exact .inl (Bal.mono (by omega) b)
theorem Bal.grow {E : Nat → Nat → Prop} {x : Nat} : ∀ n, (∃ l : List Nat, l.Nodup ∧ l.length = n + 1 ∧ ∀ j ∈ l, Bal E x n j) ∨ ∀ k j, Bal E x k j → Bal E x n j
  | 0 => .inl ⟨[x], by simp, rfl, fun j hj => List.mem_singleton.mp hj⟩
  | n + 1 => by
    rcases Bal.grow (E := E) (x := x) n with ⟨l, nd, ll, hl⟩ | st
    · by_cases c : ∀ j, Bal E x (n + 1) j → Bal E x n j
      · refine .inr fun k j => ?_
        have : ∀ k j, Bal E x k j → Bal E x n j := fun k => by
          induction k with
          | zero => exact fun j h => Bal.mono (Nat.zero_le _) h
          | succ k ih =>
            rintro j (h | ⟨i, h, e⟩)
            · exact ih j h
            · exact c j (.inr ⟨i, ih i h, e⟩)
        exact fun h => .inl (this k j h)
      · obtain ⟨j, hj⟩ := Classical.not_forall.mp c
        obtain ⟨h1, h2⟩ := Classical.not_imp.mp hj
        refine .inl ⟨j :: l, List.nodup_cons.mpr ⟨fun w => h2 (hl j w), nd⟩, by rw [List.length_cons, ll], fun i hi => ?_⟩
        rcases List.mem_cons.mp hi with rfl | hi
        · exact h1
        · exact .inl (hl i hi)
    · exact .inr fun k j h => .inl (st k j h)
def Rch (m : MD) (k j : Nat) : Prop := ∃ ps, Chn m k ps j
theorem Rch.refl {m : MD} (k : Nat) : Rch m k k := ⟨[], rfl⟩
theorem Rch.trans {m : MD} {a b c : Nat} (h : Rch m a b) (g : Rch m b c) : Rch m a c := let ⟨p, hp⟩ := h; let ⟨q, hq⟩ := g; ⟨p ++ q, hp.app hq⟩
theorem nodup_lt {n : Nat} {l : List Nat} (nd : l.Nodup) (h : ∀ j ∈ l, j < n) : l.length ≤ n := by
  have := nodup_sub nd (T := List.range n) fun j hj => List.mem_range.mpr (h j hj)
  rwa [List.length_range] at this
/-- a stand to which all lead back that it leads to -/
theorem bottom {m : MD} (o : m.Ok) : ∃ e, Rch m 0 e ∧ ∀ j, Rch m e j → Rch m j e := by
  refine Classical.byContradiction fun no => ?_
  have step : ∀ x, Rch m 0 x → ∃ j, Rch m x j ∧ ¬ Rch m j x := fun x hx => Classical.byContradiction fun w => no ⟨x, hx, fun j hj => Classical.byContradiction fun z => w ⟨j, hj, z⟩⟩
  have all : ∀ n, ∃ (l : List Nat) (x : Nat), l.Nodup ∧ l.length = n + 1 ∧ Rch m 0 x ∧ ∀ y ∈ l, Rch m 0 y ∧ Rch m y x := fun n => by
    induction n with
    | zero => exact ⟨[0], 0, by simp, rfl, Rch.refl 0, fun y hy => by rw [List.mem_singleton.mp hy]; exact ⟨Rch.refl 0, Rch.refl 0⟩⟩
    | succ n ih =>
      obtain ⟨l, x, nd, ll, hx, h⟩ := ih
      obtain ⟨j, h1, h2⟩ := step x hx
      refine ⟨j :: l, j, List.nodup_cons.mpr ⟨fun w => h2 (h j w).2, nd⟩, by rw [List.length_cons, ll], hx.trans h1, fun y hy => ?_⟩
      rcases List.mem_cons.mp hy with rfl | hy
      · exact ⟨hx.trans h1, Rch.refl _⟩
      · exact ⟨(h y hy).1, (h y hy).2.trans h1⟩
  obtain ⟨l, x, nd, ll, _, h⟩ := all m.n
  have := nodup_lt nd fun j hj => let ⟨ps, c⟩ := (h j hj).1; Chn.lt o o.n1 c
  omega
open Classical in
noncomputable def comp (m : MD) (e : Nat) : List Nat := (List.range m.n).filter fun j => decide (Rch m e j)
open Classical in
theorem comp_mem {m : MD} {e j : Nat} : j ∈ comp m e ↔ j < m.n ∧ Rch m e j := by
  unfold comp
  rw [List.mem_filter, List.mem_range, decide_eq_true_iff]
open Classical in
theorem comp_nodup {m : MD} {e : Nat} : (comp m e).Nodup := List.nodup_range.filter _
def Edge (m : MD) (a b : Nat) : Prop := ∃ s ∈ m.ss, s.b = a ∧ s.e = b
theorem bal_chn {m : MD} {x : Nat} : ∀ {n j : Nat}, Bal (Edge m) x n j → ∃ ps, ps.length ≤ n ∧ Chn m x ps j
  | 0, j, h => ⟨[], Nat.le_refl _, (show j = x from h).symm⟩
  | n + 1, j, .inl h => let ⟨ps, l, c⟩ := bal_chn h; ⟨ps, by omega, c⟩
  | n + 1, j, .inr ⟨i, h, s, hs, e1, e2⟩ => let ⟨ps, l, c⟩ := bal_chn h; ⟨ps ++ [s], by rw [List.length_append, List.length_singleton]; omega, c.app ⟨hs, e1, e2⟩⟩
theorem chn_bal {m : MD} {x : Nat} : ∀ {ps : List Stp} {j n : Nat}, Bal (Edge m) x n j → ∀ {i}, Chn m j ps i → ∃ k, Bal (Edge m) x k i
  | [], j, n, b, i, c => by cases (show j = i from c); exact ⟨n, b⟩
  | s :: ps, j, n, b, i, c => chn_bal (ps := ps) (n := n + 1) (.inr ⟨j, b, s, c.1, c.2.1, rfl⟩) c.2.2
/-- backwards, in one component -/
def Back (m : MD) (e : Nat) (a b : Nat) : Prop := Edge m b a ∧ Rch m e b
theorem back_chn {m : MD} {e : Nat} : ∀ {n j : Nat}, Bal (Back m e) e n j → Rch m e j ∧ ∃ ps, ps.length ≤ n ∧ Chn m j ps e
  | 0, j, h => by cases (show j = e from h); exact ⟨Rch.refl _, [], Nat.le_refl _, rfl⟩
  | n + 1, j, .inl h => let ⟨r, ps, l, c⟩ := back_chn h; ⟨r, ps, by omega, c⟩
  | n + 1, j, .inr ⟨i, h, ⟨s, hs, e1, e2⟩, r⟩ => by
    obtain ⟨_, ps, l, c⟩ := back_chn h
    exact ⟨r, s :: ps, by rw [List.length_cons]; omega, hs, e1, by rw [e2]; exact c⟩
theorem chn_back {m : MD} {e : Nat} : ∀ {ps : List Stp} {j : Nat}, Rch m e j → Chn m j ps e → ∃ k, Bal (Back m e) e k j
  | [], j, r, c => ⟨0, c⟩
  | s :: ps, j, r, c => by
    have r' : Rch m e s.e := r.trans ⟨[s], c.1, c.2.1, rfl⟩
    obtain ⟨k, b⟩ := chn_back (ps := ps) r' c.2.2
    exact ⟨k + 1, .inr ⟨s.e, b, ⟨s, c.1, c.2.1, rfl⟩, r⟩⟩
structure Hub (m : MD) (e : Nat) (u : List Stp) : Prop where
  way : Chn m 0 u e
  short : u.length + (comp m e).length ≤ m.n
  back : ∀ j, Rch m e j → ∃ ps, ps.length + 1 ≤ (comp m e).length ∧ Chn m j ps e
  two : ∀ n, (∃ l : List Nat, l.Nodup ∧ l.length = n + 1 ∧ ∀ j ∈ l, Rch m e j ∧ ∃ ps, ps.length ≤ n ∧ Chn m j ps e) ∨ ∀ j, Rch m e j → ∃ ps, ps.length ≤ n ∧ Chn m j ps e
theorem hub {m : MD} (o : m.Ok) : ∃ e u, Hub m e u := by
  obtain ⟨e, h0, hb⟩ := bottom o
  have elt : e < m.n := let ⟨ps, c⟩ := h0; Chn.lt o o.n1 c
  have clen : (comp m e).length ≤ m.n := nodup_lt comp_nodup fun j hj => (comp_mem.mp hj).1
  -- the first stand of the component
  obtain ⟨e2, u, he2, hu, lu⟩ : ∃ e2 u, Rch m e e2 ∧ Chn m 0 u e2 ∧ u.length + (comp m e).length ≤ m.n := by
    rcases Bal.grow (E := Edge m) (x := 0) (m.n - (comp m e).length) with ⟨l, nd, ll, hl⟩ | st
    · have : ∃ j ∈ l, Rch m e j := Classical.byContradiction fun w => by
        have nd2 : (l ++ comp m e).Nodup := by
          rw [List.nodup_append]
          exact ⟨nd, comp_nodup, fun a ha b hb' ab => w ⟨a, ha, by rw [ab]; exact (comp_mem.mp hb').2⟩⟩
        have := nodup_lt (n := m.n) nd2 fun j hj => by
          rcases List.mem_append.mp hj with hj | hj
          · obtain ⟨ps, _, c⟩ := bal_chn (hl j hj)
            exact Chn.lt o o.n1 c
          · exact (comp_mem.mp hj).1
        rw [List.length_append] at this
        omega
      obtain ⟨j, hj, r⟩ := this
      obtain ⟨ps, lp, c⟩ := bal_chn (hl j hj)
      exact ⟨j, ps, r, c, by omega⟩
    · obtain ⟨ps, c⟩ := h0
      obtain ⟨k, b⟩ := chn_bal (n := 0) (show Bal (Edge m) 0 0 0 from rfl) c
      obtain ⟨qs, lq, c2⟩ := bal_chn (st k e b)
      exact ⟨e, qs, Rch.refl _, c2, by omega⟩
  have hb2 : ∀ j, Rch m e2 j → Rch m j e2 := fun j hj => (hb j (he2.trans hj)).trans he2
  have c2 : (comp m e2).length ≤ (comp m e).length := nodup_sub comp_nodup fun j hj => comp_mem.mpr ⟨(comp_mem.mp hj).1, he2.trans (comp_mem.mp hj).2⟩
  have lt2 : ∀ j, Rch m e2 j → j < m.n := fun j ⟨ps, c⟩ => Chn.lt o (Chn.lt o o.n1 hu) c
  have pos : 1 ≤ (comp m e2).length := List.length_pos_of_mem (comp_mem.mpr ⟨lt2 e2 (Rch.refl _), Rch.refl _⟩)
  have two : ∀ n, (∃ l : List Nat, l.Nodup ∧ l.length = n + 1 ∧ ∀ j ∈ l, Rch m e2 j ∧ ∃ ps, ps.length ≤ n ∧ Chn m j ps e2) ∨ ∀ j, Rch m e2 j → ∃ ps, ps.length ≤ n ∧ Chn m j ps e2 := fun n => by
    rcases Bal.grow (E := Back m e2) (x := e2) n with ⟨l, nd, ll, hl⟩ | st
    · exact .inl ⟨l, nd, ll, fun j hj => back_chn (hl j hj)⟩
    · refine .inr fun j hj => ?_
      obtain ⟨ps, c⟩ := hb2 j hj
      obtain ⟨k, b⟩ := chn_back hj c
      exact (back_chn (st k j b)).2
  refine ⟨e2, u, hu, by omega, fun j hj => ?_, two⟩
  rcases two ((comp m e2).length - 1) with ⟨l, nd, ll, hl⟩ | st
  · have sub : ∀ x ∈ l, x ∈ comp m e2 := fun x hx => comp_mem.mpr ⟨lt2 x (hl x hx).1, (hl x hx).1⟩
    have : j ∈ l := Classical.byContradiction fun w => by
      have := nodup_sub (T := comp m e2) (List.nodup_cons.mpr ⟨w, nd⟩) fun x hx => by
        rcases List.mem_cons.mp hx with rfl | hx
        · exact comp_mem.mpr ⟨lt2 _ hj, hj⟩
        · exact sub x hx
      rw [List.length_cons] at this
      omega
    obtain ⟨ps, lp, c⟩ := (hl j this).2
    exact ⟨ps, by omega, c⟩
  · obtain ⟨ps, lp, c⟩ := st j hj
    exact ⟨ps, by omega, c⟩
/-! the two rows -/
theorem gain_app (p q : List Stp) : gainS (p ++ q) = gainS p + gainS q := by unfold gainS; rw [List.map_append, List.sum_append]
theorem gain_cons (s : Stp) (q : List Stp) : gainS (s :: q) = s.g + gainS q := rfl
theorem chn_more {m : MD} (o : m.Ok) (hf : ∀ n ≤ 5, ∀ r ∈ rowsC m n, Full m r.k) : ∀ (x n : Nat) {k : Nat} {r : RC}, r ∈ rowsC m n → r.k = k → n + x ≤ 6 → ∃ qs j, qs.length = x ∧ Chn m k qs j
  | 0, n, k, r, hr, e, h => ⟨[], k, rfl, rfl⟩
  | x + 1, n, k, r, hr, e, h => by
    subst e
    obtain ⟨a, _, _, _, ea, _⟩ := full_steps o (hf n (by omega) r hr)
    have ha : a ∈ fromS m r.k := by rw [ea]; exact List.mem_cons_self
    have hs : r.next a ∈ rowsC m (n + 1) := List.mem_flatMap.mpr ⟨r, hr, List.mem_map.mpr ⟨a, ha, rfl⟩⟩
    obtain ⟨qs, j, l, c⟩ := chn_more o hf x (n + 1) hs rfl (by omega)
    exact ⟨a :: qs, j, by rw [List.length_cons, l], (List.mem_filter.mp ha).1, by simpa using (List.mem_filter.mp ha).2, c⟩
/-- two chains alike in all but their letters -/
theorem two_rows {m : MD} (o : m.Ok) (hf : ∀ n ≤ 5, ∀ r ∈ rowsC m n, Full m r.k) {p q : List Stp} {k : Nat} (hp : Chn m 0 p k) (hq : Chn m 0 q k) (l : p.length = q.length) (l6 : p.length ≤ 6) (g : gainS p = gainS q) (ne : p.map (fun s => s.c) ≠ q.map (fun s => s.c))
    (np : ∃ s ∈ p, s.c ≠ 100) (nq : ∃ s ∈ q, s.c ≠ 100) : ∃ r1 ∈ rowsC m 6, ∃ r2 ∈ rowsC m 6, r1.t = r2.t ∧ r1.w ≠ r2.w ∧ r1.w ≠ List.replicate 6 100 ∧ r2.w ≠ List.replicate 6 100 := by
  have z : (⟨[], 0, [], 0⟩ : RC) ∈ rowsC m 0 := List.mem_singleton.mpr rfl
  obtain ⟨r0, h0, e0, _, _⟩ := chn_row z hp
  rw [Nat.zero_add] at h0
  obtain ⟨qs, j, lq, c⟩ := chn_more o hf (6 - p.length) p.length h0 e0 (by omega)
  obtain ⟨r1, h1, e1, w1, t1⟩ := chn_row z (hp.app c)
  obtain ⟨r2, h2, e2, w2, t2⟩ := chn_row z (hq.app c)
  have s1 : 0 + (p ++ qs).length = 6 := by rw [List.length_append]; omega
  have s2 : 0 + (q ++ qs).length = 6 := by rw [List.length_append]; omega
  rw [s1] at h1
  rw [s2] at h2
  have no : ∀ {ps : List Stp} {w : Wd}, w = [] ++ (ps ++ qs).map (fun s => s.c) → (∃ s ∈ ps, s.c ≠ 100) → w ≠ List.replicate 6 100 := fun {ps w} ew ⟨s, hs, hc⟩ er => by
    have : s.c ∈ w := by rw [ew, List.nil_append, List.map_append]; exact List.mem_append_left _ (List.mem_map_of_mem hs)
    rw [er] at this
    exact hc (List.eq_of_mem_replicate this)
  refine ⟨r1, h1, r2, h2, ?_, ?_, no w1 np, no w2 nq⟩
  · rw [t1, t2, gain_app, gain_app, g]
  · rw [w1, w2, List.nil_append, List.nil_append, List.map_append, List.map_append]
    exact fun e => ne (List.append_cancel_right e)
theorem swap_ne {m : MD} {u : List Stp} {x y : Stp} {v w : List Stp} (h : x.c ≠ y.c) : (u ++ x :: v).map (fun s => s.c) ≠ (u ++ y :: w).map (fun s => s.c) := fun e => by
  rw [List.map_append, List.map_append] at e
  have := List.append_cancel_left e
  exact h (List.cons.inj this).1
theorem collide {m : MD} (o : m.Ok) (n5 : m.n ≤ 5) (h6 : (rowsC m 6).length = 4 ^ 6) : ∃ r1 ∈ rowsC m 6, ∃ r2 ∈ rowsC m 6, r1.t = r2.t ∧ r1.w ≠ r2.w ∧ r1.w ≠ List.replicate 6 100 ∧ r2.w ≠ List.replicate 6 100 := by
  have hf := full_all o h6
  obtain ⟨e, u, H⟩ := hub o
  have lu := H.short
  have lt : ∀ j, Rch m e j → j < m.n := fun j ⟨ps, c⟩ => Chn.lt o (Chn.lt o o.n1 H.way) c
  have pos : 1 ≤ (comp m e).length := List.length_pos_of_mem (comp_mem.mpr ⟨lt e (Rch.refl _), Rch.refl _⟩)
  have fe : Full m e := by
    obtain ⟨r0, h0, e0, _, _⟩ := chn_row (m := m) (n := 0) (r := ⟨[], 0, [], 0⟩) (List.mem_singleton.mpr rfl) H.way
    rw [← e0]
    exact hf _ (by omega) r0 h0
  obtain ⟨a, b, c, d, ef, ca, cb, cc, cd⟩ := full_steps o fe
  have st : ∀ s ∈ [a, b, c, d], s ∈ m.ss ∧ s.b = e ∧ Rch m e s.e := fun s hs => by
    have hs : s ∈ fromS m e := by rw [ef]; exact hs
    have h1 := (List.mem_filter.mp hs).1
    have h2 : s.b = e := by simpa using (List.mem_filter.mp hs).2
    exact ⟨h1, h2, [s], h1, h2, rfl⟩
  -- two letters to the same stand
  have par : ∀ x ∈ [a, b, c, d], ∀ y ∈ [a, b, c, d], x.c ≠ y.c → x.e = y.e → ∃ r1 ∈ rowsC m 6, ∃ r2 ∈ rowsC m 6, r1.t = r2.t ∧ r1.w ≠ r2.w ∧ r1.w ≠ List.replicate 6 100 ∧ r2.w ≠ List.replicate 6 100 := fun x hx y hy hc he => by
    obtain ⟨x1, x2, x3⟩ := st x hx
    obtain ⟨y1, y2, y3⟩ := st y hy
    obtain ⟨ps, lp, cp⟩ := H.back x.e x3
    have cA : Chn m 0 (u ++ x :: (ps ++ [y])) y.e := H.way.app ⟨x1, x2, cp.app ⟨y1, y2, rfl⟩⟩
    have cB : Chn m 0 (u ++ y :: (ps ++ [x])) y.e := H.way.app ⟨y1, y2, (he ▸ cp).app ⟨x1, x2, he⟩⟩
    refine two_rows o hf cA cB (by simp) (by simp; omega) (by simp only [gain_app, gain_cons]; show _ + (_ + (_ + (_ + 0))) = _ + (_ + (_ + (_ + 0))); omega) (swap_ne (m := m) hc) ?_ ?_
    · by_cases z : x.c = 100
      · exact ⟨y, by simp, fun w => hc (by rw [z, w])⟩
      · exact ⟨x, by simp, z⟩
    · by_cases z : x.c = 100
      · exact ⟨y, by simp, fun w => hc (by rw [z, w])⟩
      · exact ⟨x, by simp, z⟩
  -- two loops
  have loops : ∀ x ∈ [a, b, c, d], ∀ y ∈ [a, b, c, d], x.c ≠ y.c → ∀ ps qs, Chn m x.e ps e → Chn m y.e qs e → u.length + ps.length + qs.length ≤ 4 → ∃ r1 ∈ rowsC m 6, ∃ r2 ∈ rowsC m 6, r1.t = r2.t ∧ r1.w ≠ r2.w ∧ r1.w ≠ List.replicate 6 100 ∧ r2.w ≠ List.replicate 6 100 := fun x hx y hy hc ps qs cp cq l4 => by
    obtain ⟨x1, x2, x3⟩ := st x hx
    obtain ⟨y1, y2, y3⟩ := st y hy
    have cA : Chn m 0 (u ++ x :: (ps ++ y :: qs)) e := H.way.app ⟨x1, x2, cp.app ⟨y1, y2, cq⟩⟩
    have cB : Chn m 0 (u ++ y :: (qs ++ x :: ps)) e := H.way.app ⟨y1, y2, cq.app ⟨x1, x2, cp⟩⟩
    refine two_rows o hf cA cB (by simp; omega) (by simp; omega) (by simp only [gain_app, gain_cons]; omega) (swap_ne (m := m) hc) ?_ ?_
    · by_cases z : x.c = 100
      · exact ⟨y, by simp, fun w => hc (by rw [z, w])⟩
      · exact ⟨x, by simp, z⟩
    · by_cases z : x.c = 100
      · exact ⟨y, by simp, fun w => hc (by rw [z, w])⟩
      · exact ⟨x, by simp, z⟩
  refine Classical.byContradiction fun no => ?_
  have ne : ∀ x ∈ [a, b, c, d], ∀ y ∈ [a, b, c, d], x.c ≠ y.c → x.e ≠ y.e := fun x hx y hy hc he => no (par x hx y hy hc he)
  have nl : ∀ x ∈ [a, b, c, d], ∀ y ∈ [a, b, c, d], x.c ≠ y.c → ∀ ps qs, Chn m x.e ps e → Chn m y.e qs e → 4 < u.length + ps.length + qs.length := fun x hx y hy hc ps qs cp cq => Nat.lt_of_not_le fun w => no (loops x hx y hy hc ps qs cp cq w)
  -- the four ends are unlike
  have nd4 : [a.e, b.e, c.e, d.e].Nodup := by
    have ab := ne a (by simp) b (by simp) (by omega)
    have ac := ne a (by simp) c (by simp) (by omega)
    have ad := ne a (by simp) d (by simp) (by omega)
    have bc := ne b (by simp) c (by simp) (by omega)
    have bd := ne b (by simp) d (by simp) (by omega)
    have cd' := ne c (by simp) d (by simp) (by omega)
    simp [ab, ac, ad, bc, bd, cd']
  have sub4 : ∀ j ∈ [a.e, b.e, c.e, d.e], j ∈ comp m e := fun j hj => by
    have : ∃ s ∈ [a, b, c, d], j = s.e := by
      rcases List.mem_cons.mp hj with rfl | hj
      · exact ⟨a, by simp, rfl⟩
      rcases List.mem_cons.mp hj with rfl | hj
      · exact ⟨b, by simp, rfl⟩
      rcases List.mem_cons.mp hj with rfl | hj
      · exact ⟨c, by simp, rfl⟩
      rcases List.mem_cons.mp hj with rfl | hj
      · exact ⟨d, by simp, rfl⟩
      cases hj
    obtain ⟨s, hs, rfl⟩ := this
    exact comp_mem.mpr ⟨lt _ (st s hs).2.2, (st s hs).2.2⟩
  have c4 := nodup_sub nd4 sub4
  have c4 : 4 ≤ (comp m e).length := c4
  -- an end's step
  have back4 : ∀ j ∈ [a.e, b.e, c.e, d.e], ∃ s ∈ [a, b, c, d], s.e = j := fun j hj => by
    simp only [List.mem_cons, List.not_mem_nil, or_false] at hj
    rcases hj with rfl | rfl | rfl | rfl
    · exact ⟨a, by simp, rfl⟩
    · exact ⟨b, by simp, rfl⟩
    · exact ⟨c, by simp, rfl⟩
    · exact ⟨d, by simp, rfl⟩
  have eqe : ∀ x ∈ [a, b, c, d], ∀ y ∈ [a, b, c, d], x.c = y.c → x.e = y.e := fun x hx y hy h => by
    have : x = y := by
      simp only [List.mem_cons, List.not_mem_nil, or_false] at hx hy
      rcases hx with rfl | rfl | rfl | rfl <;> rcases hy with rfl | rfl | rfl | rfl <;> first | rfl | (exfalso; omega)
    rw [this]
  have pairs : ∀ j1 ∈ [a.e, b.e, c.e, d.e], ∀ j2 ∈ [a.e, b.e, c.e, d.e], j1 ≠ j2 → ∀ ps qs, Chn m j1 ps e → Chn m j2 qs e → 4 < u.length + ps.length + qs.length := fun j1 h1 j2 h2 hj ps qs cp cq => by
    obtain ⟨x, hx, rfl⟩ := back4 j1 h1
    obtain ⟨y, hy, rfl⟩ := back4 j2 h2
    exact nl x hx y hy (fun w => hj (eqe x hx y hy w)) ps qs cp cq
  by_cases he : e ∈ [a.e, b.e, c.e, d.e]
  · -- a loop of one step, and any other
    obtain ⟨j2, h2, hne⟩ : ∃ j2 ∈ [a.e, b.e, c.e, d.e], e ≠ j2 := Classical.byContradiction fun w => by
      have : ∀ j ∈ [a.e, b.e, c.e, d.e], e = j := fun j hj => Classical.byContradiction fun z => w ⟨j, hj, z⟩
      have h1 := this a.e (by simp)
      have h2 := this b.e (by simp)
      have := ne a (by simp) b (by simp) (by omega)
      exact this (h1.symm.trans h2)
    obtain ⟨qs, lq, cq⟩ := H.back j2 (comp_mem.mp (sub4 j2 h2)).2
    have := pairs e he j2 h2 hne [] qs rfl cq
    simp only [List.length_nil] at this
    omega
  · -- e is no end: five stands in all
    have nd5 : (e :: [a.e, b.e, c.e, d.e]).Nodup := List.nodup_cons.mpr ⟨he, nd4⟩
    have c5 := nodup_sub (T := comp m e) nd5 fun j hj => by
      rcases List.mem_cons.mp hj with rfl | hj
      · exact comp_mem.mpr ⟨lt _ (Rch.refl _), Rch.refl _⟩
      · exact sub4 j hj
    have c5 : 5 ≤ (comp m e).length := c5
    have all : ∀ j, Rch m e j → j ≠ e → j ∈ [a.e, b.e, c.e, d.e] := fun j hj hne => Classical.byContradiction fun w => by
      have := nodup_lt (n := m.n) (l := j :: e :: [a.e, b.e, c.e, d.e]) (List.nodup_cons.mpr ⟨fun z => by
        rcases List.mem_cons.mp z with z | z
        · exact hne z
        · exact w z, nd5⟩) fun i hi => by
          rcases List.mem_cons.mp hi with rfl | hi
          · exact lt _ hj
          rcases List.mem_cons.mp hi with rfl | hi
          · exact lt _ (Rch.refl _)
          · exact (comp_mem.mp (sub4 i hi)).1
      have : 6 ≤ m.n := this
      omega
    have u0 : u.length = 0 := by omega
    rcases H.two 2 with ⟨l, nd, ll, hl⟩ | sb
    · -- two of the three that are near
      have two : ∃ j1 ∈ l, ∃ j2 ∈ l, j1 ≠ e ∧ j2 ≠ e ∧ j1 ≠ j2 := by
        match l, ll, nd with
        | [p, q, r], _, nd =>
          simp only [List.nodup_cons, List.mem_cons, List.not_mem_nil, or_false, not_or] at nd
          obtain ⟨⟨n1, n2⟩, n3, _⟩ := nd
          by_cases z1 : p = e
          · exact ⟨q, by simp, r, by simp, fun w => n1 (by rw [z1, w]), fun w => n2 (by rw [z1, w]), n3⟩
          · by_cases z2 : q = e
            · exact ⟨p, by simp, r, by simp, z1, fun w => n3 (by rw [z2, w]), n2⟩
            · exact ⟨p, by simp, q, by simp, z1, z2, n1⟩
      obtain ⟨j1, h1, j2, h2, e1, e2, hj⟩ := two
      obtain ⟨r1, ps, lp, cp⟩ := hl j1 h1
      obtain ⟨r2, qs, lq, cq⟩ := hl j2 h2
      have := pairs j1 (all j1 r1 e1) j2 (all j2 r2 e2) hj ps qs cp cq
      omega
    · obtain ⟨ps, lp, cp⟩ := sb a.e (st a (by simp)).2.2
      obtain ⟨qs, lq, cq⟩ := sb b.e (st b (by simp)).2.2
      have := pairs a.e (by simp) b.e (by simp) (ne a (by simp) b (by simp) (by omega)) ps qs cp cq
      omega
/-- the last row of all -/
theorem last_row {m : MD} (o : m.Ok) (hf : ∀ n ≤ 5, ∀ r ∈ rowsC m n, Full m r.k) : ∀ n, n ≤ 6 → ∃ l r, rowsC m n = l ++ [r] ∧ r.w = List.replicate n 100
  | 0, _ => ⟨[], ⟨[], 0, [], 0⟩, rfl, rfl⟩
  | n + 1, h => by
    obtain ⟨l, r, e, ew⟩ := last_row o hf n (by omega)
    obtain ⟨a, b, c, d, ef, _, _, _, cd⟩ := full_steps o (hf n (by omega) r (by rw [e]; simp))
    refine ⟨(l.flatMap fun r => (fromS m r.k).map r.next) ++ [r.next a, r.next b, r.next c], r.next d, ?_, ?_⟩
    · show (rowsC m n).flatMap (fun r => (fromS m r.k).map r.next) = _
      rw [e, List.flatMap_append]
      simp [ef]
    · show r.w ++ [d.c] = _
      rw [ew, cd, List.replicate_succ']
theorem crowd {m : MD} (o : m.Ok) (n5 : m.n ≤ 5) (h6 : (rowsC m 6).length = 4096) : ¬ (((rowsC m 6).take 4095).map fun r => r.t).Nodup := fun nd => by
  obtain ⟨l, r, e, ew⟩ := last_row o (full_all o h6) 6 (Nat.le_refl _)
  have ll : l.length = 4095 := by
    have := congrArg List.length e
    rw [h6, List.length_append, List.length_singleton] at this
    omega
  rw [e, List.take_append_of_le_length (by omega), List.take_of_length_le (by omega)] at nd
  obtain ⟨r1, h1, r2, h2, et, en, e1, e2⟩ := collide o n5 h6
  have inl : ∀ x ∈ rowsC m 6, x.w ≠ List.replicate 6 100 → x ∈ l := fun x hx hw => by
    rw [e] at hx
    rcases List.mem_append.mp hx with hx | hx
    · exact hx
    · exact absurd (by rw [List.mem_singleton.mp hx]; exact ew) hw
  have inj : ∀ {l : List RC}, (l.map fun r => r.t).Nodup → ∀ {x y}, x ∈ l → y ∈ l → x.t = y.t → x = y := fun {l} => by
    induction l with
    | nil => exact fun _ _ _ h => by cases h
    | cons z l ih =>
      intro nd x y hx hy h
      rw [List.map_cons] at nd
      obtain ⟨n1, n2⟩ := List.nodup_cons.mp nd
      rcases List.mem_cons.mp hx with ex | hx2
      · rcases List.mem_cons.mp hy with ey | hy2
        · rw [ex, ey]
        · exact absurd (List.mem_map.mpr ⟨y, hy2, by rw [← h, ex]⟩) n1
      · rcases List.mem_cons.mp hy with ey | hy2
        · exact absurd (List.mem_map.mpr ⟨x, hx2, by rw [h, ey]⟩) n1
        · exact ih n2 hx2 hy2 h
  exact en (by rw [inj nd (inl r1 h1 e1) (inl r2 h2 e2) et])
/-! ### sorted(set(xs)), xs a list of ints: up to 4096, of which two of the first 4095 are alike if there are as many -/
structure Room (ns : List Int) : Prop where
  len : ns.length ≤ 4096
  two : ns.length = 4096 → ¬ (ns.take 4095).Nodup
theorem nodup_of_cover {α : Type} [DecidableEq α] : ∀ {T K : List α}, K.Nodup → (∀ x ∈ K, x ∈ T) → T.length ≤ K.length → T.Nodup
  | [], _, _, _, _ => .nil
  | a :: T, K, nd, sub, le => by
    rw [List.length_cons] at le
    have no : ∀ {l : List α}, l.Nodup → (∀ x ∈ l, x ∈ T) → l.length ≤ T.length := fun h1 h2 => nodup_sub h1 h2
    by_cases c : a ∈ K
    · have l1 : (K.erase a).length = K.length - 1 := List.length_erase_of_mem c
      have sub1 : ∀ x ∈ K.erase a, x ∈ T := fun x hx => by
        have := (List.Nodup.mem_erase_iff nd).mp hx
        rcases List.mem_cons.mp (sub x this.2) with e | h
        · exact absurd e this.1
        · exact h
      refine List.nodup_cons.mpr ⟨fun h => ?_, nodup_of_cover (nd.erase a) sub1 (by omega)⟩
      have := no nd fun x hx => by
        rcases List.mem_cons.mp (sub x hx) with e | h'
        · rw [e]; exact h
        · exact h'
      omega
    · have := no nd fun x hx => by
        rcases List.mem_cons.mp (sub x hx) with e | h'
        · exact absurd (e ▸ hx) c
        · exact h'
      omega
/-- there is room for one more -/
theorem Room.more {w : World} {h : Heap} {a : Addr} {ns : List Int} (R : Room ns) {i c : Nat} (hi : i < ns.length) (hc : c ≤ i) (S : SetR w h a (fun j => decide (j ∈ ns.take i)) c) : c + 1 < PySem.scanBound := by
  have e : PySem.scanBound = 4096 := rfl
  rw [e]
  have := R.len
  by_cases z : c ≤ 4094
  · omega
  · have i5 : i = 4095 := by omega
    have c5 : c = 4095 := by omega
    have n6 : ns.length = 4096 := by omega
    obtain ⟨o, es, ep, t, ho, hx, hd, g, nd, hm, hb, hf, hn, hr, hl⟩ := S
    refine absurd ?_ (R.two n6)
    refine nodup_of_cover nd (fun x hx => ?_) ?_
    · have := (hm x).mpr hx
      rw [i5] at this
      exact of_decide_eq_true this
    · have e1 : es.toList.length = c := by rw [Array.length_toList]; exact hn
      rw [List.length_take, List.length_map]
      omega
section
open PySem.Spec PyProof.Rows
variable {prog : Program} {w : World} {A : Around} {E : Value → Shared → Prop} {s : Shared}
/-- one turn of the set's making after the other -/
theorem set_fill {I : Addr} {fp wr : List Addr} {G : Array GenState → Array GenState → Prop} {n : Nat} {Pv : Nat → Value → Prop} {St : Nat → Shared → Prop} {R : Result → Shared → Prop}
    (W : WalksS prog w A.in1 I fp wr G n Pv St) (S : Addr) (hSf : S ∉ fp) (ns : List Int) (hn : n = ns.length) (room : Room ns) (hval : ∀ i v, Pv i v → ∃ k t, ns[i]? = some k ∧ v = .int k t)
    (hR : ∀ s' c, Moved (S :: wr) G s s' → SetR w s'.heap S (fun j => decide (j ∈ ns)) c → R (.ok (.ret .none)) s') :
    ∀ (k i : Nat) (s1 : Shared), n - i = k → i ≤ n → St i s1 → (∃ c, c ≤ i ∧ SetR w s1.heap S (fun j => decide (j ∈ ns.take i)) c) → Moved (S :: wr) G s s1 →
      codeAny (model prog w) A (.builtin "set.update.loop" ⟨[.ref S, .ref I], []⟩) R s1 := by
  have nSw : S ∉ wr := fun h => hSf (W.sub _ h)
  have wid : ∀ b ∈ wr, b ∈ S :: wr := fun b hb => List.mem_cons_of_mem _ hb
  intro k
  induction k with
  | zero =>
    rintro i s1 hk hi hst ⟨c, hc, hS⟩ mv
    obtain rfl : i = n := by omega
    refine codeAny_builtin F.entry_set_update_loop ?_
    rw [Around.under_plainId F.plain_set_update_loop _]
    show wpAny _ A.in1 (pyNext (.ref I) >>= _) _ _ s1
    refine wpAny_bind (W.done s1 _ _ hst fun s2 hm => ?_)
    rw [List.take_of_length_le (by omega)] at hS
    exact wpAny_pure (hR s2 c (Moved.trans W.gtrans mv (hm.mono wid)) (hS.at fun o e => hm.heap S o nSw e))
  | succ k ih =>
    rintro i s1 hk hi hst ⟨c, hc, hS⟩ mv
    have il : i < n := by omega
    refine codeAny_builtin F.entry_set_update_loop ?_
    rw [Around.under_plainId F.plain_set_update_loop _]
    show wpAny _ A.in1 (pyNext (.ref I) >>= _) _ _ s1
    refine wpAny_bind (W.item i s1 _ _ il hst fun v s2 hP hst2 hm => ?_)
    obtain ⟨z, t, hz, rfl⟩ := hval i v hP
    have hS2 : SetR w s2.heap S (fun j => decide (j ∈ ns.take i)) c := hS.at fun o e => hm.heap S o nSw e
    show wpAny _ A.in1 (holding [Value.int z t] (setAdd S (.int z t)) >>= _) _ _ s2
    refine wpAny_bind (wpAny_holding ?_)
    unfold setAdd
    refine wpAny_holding (wpAny_bind ((intKind prog w).pyHash (k := z) (intKind_is _ _ _ _) ?_))
    refine setR_add_hashed (s := { s2 with toks := s2.toks + 1 }) hS2 (room.more (by omega) hc hS2) fun h' sb hS3 => ?_
    have hS4 : SetR w h' S (fun j => decide (j ∈ ns.take (i + 1))) (if decide (z ∈ ns.take i) = true then c else c + 1) := hS3.congr fun j => by
      rw [List.take_add_one, hz]
      simp [List.mem_append]
    refine wpAny_pure ⟨plainId_quiet F.plain_set_update_loop _, ih (i + 1) _ (by omega) il (W.frame _ s2 _ _ hst2 (Nat.le_succ _) fun b hb o e => ?_) ⟨_, by split <;> omega, hS4⟩ ?_⟩
    · rw [sb.2 b (fun h : b = S => hSf (by rw [← h]; exact hb))]; exact e
    · refine (Moved.trans W.gtrans mv (hm.mono wid)).then_heap (Nat.le_succ _) fun b o hb e => ?_
      rw [sb.2 b (fun h : b = S => hb (by rw [h]; exact List.mem_cons_self))]; exact e
set_option maxHeartbeats 3200000 in
theorem call_setL {l : Addr} {items : Array Value} (ns : List Int) {Q : Value → Shared → Prop} (hh : A.handled = none) (hl : s.heap.IsList l items) (hit : IntsAre items.toList ns) (room : Room ns)
    (h : ∀ (h' : Heap) (tk c : Nat), SetR w h' s.heap.objs.size (fun j => decide (j ∈ ns)) c → (∀ b o, s.heap.get? b = some o → h'.get? b = some o) → Q (.ref s.heap.objs.size) { s with heap := h', toks := tk }) :
    wpAny (model prog w) A (call (.type "set") [.ref l]) Q E s := by
  have hsz : items.size = ns.length := by rw [← IntsAre.length hit, Array.length_toList]
  obtain ⟨c, tl, hmro⟩ := F.called_set.mro
  have hmade := F.called_set.made
  have hsub := F.called_set.sub
  have h1 := F.called_set.notType
  have h2 := F.called_set.canCreate
  have hct := F.typeCall_set_1 (.ref l)
  refine wpAny_call (codeAny_of_tree ?_)
  show wpAny _ _ (callAny (.type "set") _) _ _ _
  refine wpAny_pure ⟨Code.quiet_builtin _ (by decide +kernel), codeAny_builtin F.entry_type_call ?_⟩
  rw [Around.under_plain (weight_type_call_type "set" [.ref l] []) rfl]
  repeat (any_goals (first | assumption | wp_step))
  refine codeAny_mono (code_set_led1 (.ref l) (E := E) (Q₁ := fun obj s₁ => obj = .ref s.heap.objs.size ∧ s₁ = { s with heap := s.heap.push { cls := .type "set", dict := none, data := .set #[] 0 (.fresh 0 0 (!w.params.followText "set-order")) } }) ⟨rfl, rfl⟩) fun r s₁ hr => ?_
  cases r with
  | error e => exact hr
  | ok fl =>
    cases fl with
    | ret obj =>
      obtain ⟨rfl, rfl⟩ := hr
      have hS : (s.heap.push { cls := .type "set", dict := none, data := .set #[] 0 (.fresh 0 0 (!w.params.followText "set-order")) }).get? s.heap.objs.size = some { cls := .type "set", dict := none, data := .set #[] 0 (.fresh 0 0 (!w.params.followText "set-order")) } := Heap.get?_push_size _ rfl
      have hT : Shared.TypeIs { s with heap := s.heap.push { cls := .type "set", dict := none, data := .set #[] 0 (.fresh 0 0 (!w.params.followText "set-order")) } } (.ref s.heap.objs.size) "set" := ⟨_, hS, rfl⟩
      have hli := F.called_set.init.lookup
      have hbi := F.called_set.init.bind (.ref s.heap.objs.size)
      repeat (any_goals (first | assumption | wp_step))
      refine codeAny_mono (codeAny_call_builtin (R := wants (fun r s₂ => r = .none ∧ ∃ h' tk c, s₂ = { s with heap := h', toks := tk } ∧ SetR w h' s.heap.objs.size (fun j => decide (j ∈ ns)) c ∧
          (∀ b o, s.heap.get? b = some o → h'.get? b = some o)) E) F.called_set.init.plain F.entry_set_init (check_set_init_1 hT ?_)) fun r₂ s₂ hr₂ => ?_
      · obtain ⟨ol, hol, hcl, nl, hdl⟩ := hl
        obtain ⟨ocls, odict, odata, oslots⟩ := ol
        simp only at hcl hdl
        subst hcl; subst hdl
        have hol1 : (s.heap.push { cls := .type "set", dict := none, data := .set #[] 0 (.fresh 0 0 (!w.params.followText "set-order")) }).get? l = some { cls := .type "list", dict := odict, data := .seq items nl, slots := oslots } := Heap.get?_push_of_some _ hol
        have hl1 : (s.heap.push { cls := .type "set", dict := none, data := .set #[] 0 (.fresh 0 0 (!w.params.followText "set-order")) }).IsList l items := ⟨_, hol1, rfl, nl, rfl⟩
        have hsls := F.sub_list_set
        have hslf := F.sub_list_frozenset
        have hne : (Value.type "list" == Value.type "dict") = false := by decide
        unfold Builtin.«set.__init__» noKeywords Builtin.Frozenset.updateFrom
        generalize hPI : pyIter = PI
        wp_walk
        subst hPI
        refine wpAny_pyIter_list hl1 ?_
        refine wpAny_bind (wpAny_runValue ?_)
        have llt : l < s.heap.objs.size := Heap.lt_size hol
        have hz1 : (s.heap.push { cls := .type "set", dict := none, data := .set #[] 0 (.fresh 0 0 (!w.params.followText "set-order")) }).objs.size = s.heap.objs.size + 1 := Heap.size_push ..
        have hh3 : A.in1.in1.in1.handled = none := by simp [hh]
        have hneI : l ≠ (s.heap.push { cls := .type "set", dict := none, data := .set #[] 0 (.fresh 0 0 (!w.params.followText "set-order")) }).objs.size := by rw [hz1]; exact Nat.ne_of_lt (Nat.lt_succ_of_lt llt)
        have hSf : s.heap.objs.size ∉ [(s.heap.push { cls := .type "set", dict := none, data := .set #[] 0 (.fresh 0 0 (!w.params.followText "set-order")) }).objs.size, l] := by
          simp only [List.mem_cons, List.not_mem_nil, or_false, not_or]
          exact ⟨by rw [hz1]; exact Nat.ne_of_lt (Nat.lt_succ_self _), Nat.ne_of_gt llt⟩
        have hval : ∀ (i : Nat) (v : Value), items[i]? = some v → ∃ k t, ns[i]? = some k ∧ v = .int k t := fun i v hv => by
          have hi : i < ns.length := by rw [← hsz]; exact (Array.getElem?_eq_some_iff.mp hv).1
          obtain ⟨t, e⟩ := PyProof.Rows.IntsAre.int_at hit i v (by rw [Array.getElem?_toList]; exact hv)
          refine ⟨ns[i], t, List.getElem?_eq_getElem hi, ?_⟩
          rw [e, List.getD_eq_getElem?_getD, List.getElem?_eq_getElem hi]
          rfl
        have hw := Walks.list hh3 ((s.heap.push { cls := .type "set", dict := none, data := .set #[] 0 (.fresh 0 0 (!w.params.followText "set-order")) }).objs.size) l hneI items (prog := prog) (w := w)
        refine set_fill hw.toS s.heap.objs.size hSf ns hsz room hval (fun s' c' hm hS' => ?_) (items.size - 0) 0 _ (by omega) (Nat.zero_le _)
          ⟨⟨_, Heap.get?_push_size _ rfl, rfl, rfl⟩, (hl1.push _)⟩ ⟨0, Nat.le_refl 0, setR_new_at (Heap.get?_push_of_some _ hS)⟩ (Moved.refl fun _ => rfl)
        obtain ⟨h', g2, d', tk', os'⟩ := s'
        have eg : g2 = s.gens := hm.gens
        have ed : d' = s.drawn := hm.drawn
        have eo : os' = s.os := hm.os
        subst eg; subst ed; subst eo
        show wpAny _ _ _ _ _ _
        refine wpAny_pure ?_
        show wpAny _ _ (ret Value.none) _ _ _
        refine wpAny_pure ⟨rfl, h', tk', c', rfl, hS', fun b o e => ?_⟩
        have blt : b < s.heap.objs.size := Heap.lt_size e
        refine hm.heap b o ?_ (Heap.get?_push_of_some _ (Heap.get?_push_of_some _ e))
        simp only [List.mem_cons, List.not_mem_nil, or_false, not_or]
        exact ⟨Nat.ne_of_lt blt, by rw [hz1]; exact Nat.ne_of_lt (Nat.lt_succ_of_lt blt)⟩
      · cases r₂ with
        | error e => exact hr₂
        | ok fl₂ =>
          cases fl₂ with
          | ret r =>
            obtain ⟨rfl, h', tk, c', rfl, hS', hk'⟩ := hr₂
            repeat (any_goals (first | assumption | wp_step))
            exact h _ _ _ hS' hk'
          | _ => exact hr₂.elim
    | _ => exact hr.elim
end
section
open PySem.Spec PyProof.Rows
variable {X : L2.Cx}
theorem cr_setL (hc : X.calm = true) : CallR X (.type "set") (fun xs H Q => ∃ (a : Addr) (ns : List Int), xs = [.ref a] ∧ SqL X.K H a (ns.map V.int) ∧ Room ns ∧ ∀ p c, H p = none → Q (.ref p) (upd H p (SetO X.w p (fun j => decide (j ∈ ns)) c))) := by
  intro pins s σ H vs us Q I r h
  obtain ⟨a, ns, rfl, hs, room, q⟩ := h
  obtain ⟨its, rv, hl, hz⟩ := I.list hs
  rw [Vals.ref1 r]
  refine call_setL ns (I.ok.hd hc) hl.isList (by simpa using ints_of_vals rv) room fun h' tk c hS hk => ?_
  exact ⟨.ref _, upd H s.heap.objs.size (SetO X.w s.heap.objs.size (fun j => decide (j ∈ ns)) c), I.laid (t' := tk) hk (Nat.le_refl _) (setO_new hS), rfl, q _ _ (I.hok.fresh (Nat.le_refl _))⟩
/-- sorted of a set of ints, any number of them -/
theorem cr_sortedSetA (hc : X.calm = true) : CallR X (.builtin "sorted") (fun vs H Q => ∃ (a : Addr) (S : Int → Bool) (n : Nat), vs = [V.ref a] ∧ H a = some (SetO X.w a S n) ∧
    ∀ (ns : List Int) (p : Addr), ns.Pairwise (· < ·) → (∀ k : Int, k ∈ ns ↔ S k = true) → H p = none → Q (.ref p) (upd H p (.lst (ns.map V.int)))) := by
  intro pins s σ H vs us Q I r h
  obtain ⟨a, S, n, rfl, ha, q⟩ := h
  obtain ⟨o, es, ep, t, ho, hex, hd, g, nd, hm, hb, hf, hn, hr, hl⟩ := setO_get I ha
  rw [Vals.ref1 r]
  refine Calls.call_function_entry kind_sorted plain_sorted entry_sorted (args_sorted1 _) ?_
  unfold Builtin.«sorted»
  refine wpAny_bind (m := checkCount "sorted" 1 1 _) (wpAny_pure ?_)
  refine wpAny_bind (collect_set (A := X.A.in1) (I.ok.hd hc) ⟨o, ho, hex.1, hd⟩ hf hb hr hl fun s1 vs k1 hz g1 o1 pm => ?_)
  have hI : IntsAre vs (vs.map Builtin.Re.reRawOf) := ints_of vs fun v hv => by
    obtain ⟨e, he, q⟩ := List.mem_map.mp (pm.mem_iff.mp hv)
    obtain ⟨k, tk, h1, _⟩ := g e he
    exact ⟨k, tk, by rw [← q]; exact h1⟩
  have pk : (vs.map Builtin.Re.reRawOf).Perm (es.toList.map keyOf) := by
    have q := pm.map Builtin.Re.reRawOf
    rw [List.map_map] at q
    exact q
  have lv : vs.length ≤ sizeLine := by
    rw [pm.length_eq, List.length_map, Array.length_toList]
    exact fits_of_scanBound hb
  refine wpAny_bind (wpAny_newList ?_ lv)
  have hoL : (s1.heap.push (seqObj "list" vs.toArray 0)).get? s1.heap.objs.size = some (seqObj "list" vs.toArray 0) := Heap.get?_push_size _ rfl
  refine wpAny_bind (wpAny_holding (wpAny_call_entry slot_list_sort ⟨_, hoL, rfl⟩ entry_list_sort (SrtO.list_sort_ord SrtO.swo_int hoL lv (fun h2 => SrtO.ints_sortable hI h2) fun out a1 a2 => ⟨_, rfl, ?_⟩) (args_list_sort _)))
  obtain ⟨b1, b2, b3⟩ := SrtO.ints_out hI a1 a2
  obtain ⟨ep', he'⟩ := sortedHeap_at (vs := vs) (out := out.toArray) hoL
  have pn : (out.map SrtO.iv).Perm (es.toList.map keyOf) := b2.trans pk
  have hlen : ((out.map SrtO.iv).map V.int).length ≤ sizeLine := by
    rw [List.length_map, b2.length_eq, List.length_map]
    exact lv
  have hfree : H s1.heap.objs.size = none := I.hok.fresh hz
  have kk : ∀ b u, s.heap.get? b = some u → (sortedHeap (s1.heap.push (seqObj "list" vs.toArray 0)) s1.heap.objs.size vs out.toArray).get? b = some u := fun b u e => by
    have q := k1 b u e
    have hlt := Heap.lt_size q
    rw [sortedHeap_old (Nat.ne_of_lt hlt) (by rw [size_push']; exact Nat.lt_succ_of_lt hlt)]
    exact Heap.get?_push_of_some _ q
  have J : Inv X pins σ (upd H s1.heap.objs.size (.lst ((out.map SrtO.iv).map V.int))) { s with heap := sortedHeap (s1.heap.push (seqObj "list" vs.toArray 0)) s1.heap.objs.size vs out.toArray, gens := s1.gens, drawn := s1.drawn, toks := s1.toks } :=
    I.call (ch := []) (Un.laid kk hz hfree) (I.hok.laid kk hz ⟨hlen, out, ep', vals_of_ints b1, he'⟩) (by rw [g1]; exact I.bare) (fun _ z => nomatch z)
  have e : ({ s1 with heap := sortedHeap (s1.heap.push (seqObj "list" vs.toArray 0)) s1.heap.objs.size vs out.toArray } : Shared) = { s with heap := sortedHeap (s1.heap.push (seqObj "list" vs.toArray 0)) s1.heap.objs.size vs out.toArray, gens := s1.gens, drawn := s1.drawn, toks := s1.toks } := by
    cases s1
    cases s
    cases o1
    rfl
  refine wpAny_pure ⟨_, rfl, .ref s1.heap.objs.size, upd H s1.heap.objs.size (.lst ((out.map SrtO.iv).map V.int)), ?_, rfl, q _ _ (asc_lt b3 (pn.nodup_iff.mpr nd)) (fun k => by rw [pn.mem_iff, ← hm k]) hfree⟩
  show Inv X pins σ _ ({ s1 with heap := sortedHeap (s1.heap.push (seqObj "list" vs.toArray 0)) s1.heap.objs.size vs out.toArray } : Shared)
  rw [e]
  exact J
end
/-! ### the law -/
def sumsR (m : MD) (L : Nat) : List Int := ((rowsC m L).filter fun r => decide (r.k ∈ m.es)).map fun r => r.t
theorem count_sum {α : Type} (p : α → Bool) (f : α → Int) (t : Int) : ∀ l : List α, ((l.filter p).map f).count t = (l.map fun r => b2n (p r && decide (f r = t))).sum
  | [] => rfl
  | a :: l => by
    rw [List.map_cons, List.sum_cons, ← count_sum p f t l]
    by_cases c : p a = true
    · rw [List.filter_cons_of_pos c, List.map_cons, List.count_cons, c, Bool.true_and]
      by_cases d : f a = t
      · rw [d]
        simp [b2n]
        omega
      · rw [decide_eq_false d]
        simp [b2n, d]
    · rw [List.filter_cons_of_neg c, Bool.eq_false_iff.mpr c, Bool.false_and]
      simp [b2n]
theorem good_wide {m : MD} (o : m.Ok) {L : Nat} (hL : L ≤ 6) {r : RC} (hr : r ∈ rowsC m L) : r.good loW hiW = true := by
  obtain ⟨_, _, _, h1, h2⟩ := rowsC_ok o L r hr
  unfold RC.good
  rw [List.all_eq_true]
  intro x hx
  refine decide_eq_true ?_
  unfold loW hiW
  rcases List.mem_append.mp hx with hx | hx
  · have := h2 x hx
    omega
  · rw [List.mem_singleton.mp hx]
    omega
theorem sums_cnt {m : MD} (o : m.Ok) {L : Nat} (hL : L ≤ 6) (t : Int) : (sumsR m L).count t = cEnds loW hiW m L m.es t := by
  unfold sumsR
  rw [count_sum, cEnds_rows loW hiW m o.nde]
  refine sum_congr fun r hr => ?_
  rw [good_wide o hL hr, Bool.and_true]
theorem sums_mem {m : MD} (o : m.Ok) {L : Nat} (hL : L ≤ 6) (t : Int) : t ∈ sumsR m L ↔ cEnds loW hiW m L m.es t ≠ 0 := by
  rw [← sums_cnt o hL, ← List.count_pos_iff]
  omega
theorem sums_len {m : MD} (o : m.Ok) {L : Nat} (hL : L ≤ 6) : (sumsR m L).length ≤ 4096 := by
  unfold sumsR
  rw [List.length_map]
  exact Nat.le_trans (List.length_filter_le _ _) (rows_size o hL)
theorem sums_in {m : MD} (o : m.Ok) {L : Nat} (hL : L ≤ 6) {t : Int} (h : t ∈ sumsR m L) : loW ≤ t ∧ t ≤ hiW := by
  unfold sumsR at h
  obtain ⟨r, hr, rfl⟩ := List.mem_map.mp h
  obtain ⟨_, _, _, h1, _⟩ := rowsC_ok o L r (List.mem_filter.mp hr).1
  unfold loW hiW
  omega
theorem sums_room {m : MD} (o : m.Ok) (n5 : m.n ≤ 5) {L : Nat} (hL : L ≤ 6) : Room (sumsR m L) := by
  refine ⟨sums_len o hL, fun e => ?_⟩
  have e2 : ((rowsC m L).filter fun r => decide (r.k ∈ m.es)).length = 4096 := by
    unfold sumsR at e
    rw [List.length_map] at e
    exact e
  have le := List.length_filter_le (fun r : RC => decide (r.k ∈ m.es)) (rowsC m L)
  have a := rowsC_len o L
  have L6 : L = 6 := by
    refine Classical.byContradiction fun w => ?_
    have : (4 : Nat) ^ L ≤ 4 ^ 5 := Nat.pow_le_pow_right (by decide) (by omega)
    have : (4 : Nat) ^ 5 = 1024 := by decide
    omega
  subst L6
  have b := rows_size o (n := 6) (Nat.le_refl _)
  have fl : ((rowsC m 6).filter fun r => decide (r.k ∈ m.es)) = rowsC m 6 := List.filter_eq_self.mpr (List.length_filter_eq_length_iff.mp (by omega))
  unfold sumsR
  rw [fl, ← List.map_take]
  exact crowd o n5 (by omega)
def prD (q : Int × Int) : PyData := .tuple [.int q.1, .int q.2]
theorem dp_prs {K : PySem.W.Frag} {H : Hp} : ∀ {us : List V} {l : List (Int × Int)}, PairsAt H us l → DpAll K H us (l.map prD)
  | [], [], _ => .nil
  | [], _ :: _, h => by have := h.1; simp at this
  | _ :: _, [], h => by have := h.1; simp at this
  | v :: us, s :: l, h => by
    obtain ⟨p, e, q⟩ := h.2 0 s rfl
    have ev : v = .ref p := Option.some.inj e
    subst ev
    exact .cons (.tup (SqT.of q) (.cons (.int _) (.cons (.int _) .nil))) (dp_prs (l := l) ⟨by have := h.1; simpa using this, fun i t et => h.2 (i + 1) t et⟩)
theorem prs_shaped : ∀ l : List (Int × Int), PyData.canLayAll0 (l.map prD) = true ∧ PyData.depthAll (l.map prD) ≤ 3
  | [] => ⟨rfl, Nat.zero_le _⟩
  | s :: l => by
    obtain ⟨h1, h2⟩ := prs_shaped l
    constructor
    · show (PyData.canLay0 (prD s) && PyData.canLayAll0 (l.map prD)) = true
      rw [h1, Bool.and_true]
      rfl
    · show max (PyData.depth (prD s)) (PyData.depthAll (l.map prD)) ≤ 3
      have : PyData.depth (prD s) ≤ 3 := by
        show max _ (max _ _) + 1 ≤ 3
        simp [PyData.depth, PyData.depthAll]
      omega
theorem prs_sh (l : List (Int × Int)) : SeqAt.shaped (.list (l.map prD)) = true := by
  obtain ⟨h1, h2⟩ := prs_shaped l
  show (PyData.canLayAll0 (l.map prD) && decide (PyData.depthAll (l.map prD) + 1 ≤ 64)) = true
  rw [h1, Bool.true_and]
  exact decide_eq_true (by omega)
theorem asc_ext : ∀ {l r : List Int}, l.Pairwise (· < ·) → r.Pairwise (· < ·) → (∀ t, t ∈ l ↔ t ∈ r) → l = r
  | [], [], _, _, _ => rfl
  | [], b :: r, _, _, h => absurd ((h b).mpr List.mem_cons_self) (by simp)
  | a :: l, [], _, _, h => absurd ((h a).mp List.mem_cons_self) (by simp)
  | a :: l, b :: r, p, q, h => by
    obtain ⟨p1, p2⟩ := List.pairwise_cons.mp p
    obtain ⟨q1, q2⟩ := List.pairwise_cons.mp q
    have e : a = b := by
      rcases List.mem_cons.mp ((h a).mp List.mem_cons_self) with e | e
      · exact e
      · rcases List.mem_cons.mp ((h b).mpr List.mem_cons_self) with e2 | e2
        · exact e2.symm
        · have := p1 b e2
          have := q1 a e
          omega
    subst e
    rw [asc_ext p2 q2 fun t => ?_]
    constructor
    · intro ht
      rcases List.mem_cons.mp ((h t).mp (List.mem_cons_of_mem _ ht)) with e | e
      · have := p1 t ht
        omega
      · exact e
    · intro ht
      rcases List.mem_cons.mp ((h t).mpr (List.mem_cons_of_mem _ ht)) with e | e
      · have := q1 t ht
        omega
      · exact e
def sp_law (K : PySem.W.Frag) : Sp := fun vs H Q _ => ∃ (sc : Addr) (ns : List Int), vs = [.ref sc] ∧ ScAt K H sc (ns.map V.int) ∧ ns.length ≤ 63 ∧ ∀ H', Q (.bl true) H'
section
variable {P : Program} {w : World} {K : PySem.W.Frag} {mg : Str → Option Value} {base : Heap}
theorem ok_law (T : Txt K mg) : FnOk P w K mg base (L2.CX P w) 20 T.a_law T.fd_law ["_law_script"] (sp_law K) := by
  refine T.F_law.okX sc_law (fun vs H Q E h => ?_) (fun cdv A outer s H vs Q E hr h => ?_)
  · obtain ⟨sc, ns, rfl, _⟩ := h
    rfl
  · obtain ⟨sc, ns, rfl, hsc, hns, k⟩ := h
    refine ⟨_, (PSs.nox (pss_cons (ps_set (i := 1) sc_law.nd rfl (Or.inl rfl) (pe_lst (pa_cons (pv 0) (pa_cons pe_int (pa_cons pe_int (pa_cons pe_int pa_nil))))))
  (pss_cons (ps_set (i := 2) sc_law.nd rfl (Or.inr rfl) (pe_call (ok_law_parts T) (hr.mono (by decide)) (by rfl) T.m_law_parts T.k_law_parts T.b_law_parts .nil passL (pa_cons (pv 1) (pa_cons pe_int (pa_cons (pe_ix ix_list (pe_lst (pa_cons pe_int (pa_cons (pe_op op_pow pe_int pe_int) pa_nil))) (pe_call (ok_law_taken T) (hr.mono (by decide)) (by rfl) T.m_law_taken T.k_law_taken T.b_law_taken .nil passL (pa_cons (pv 1) (pa_cons pe_int pa_nil))) (fun _ _ => rfl)) pa_nil)))))
  (pss_cons (ps_par (i := 3) (j := 4) (by rfl) sc_law.nd rfl rfl (by decide) rfl rfl (pa_cons (pe_call (ok_law_machine T) (hr.mono (by decide)) (by rfl) T.m_law_machine T.k_law_machine T.b_law_machine .nil passL (pa_cons (pv 2) pa_nil)) (pa_cons (pe_call (ok_law_taken T) (hr.mono (by decide)) (by rfl) T.m_law_taken T.k_law_taken T.b_law_taken .nil passL (pa_cons (pv 1) (pa_cons pe_int pa_nil))) pa_nil)) (by rfl))
  (C8.pss_cut (ps_set (i := 5) sc_law.nd rfl (Or.inr rfl) (pe_lc (own := [("_law_word", 8), ("_law_stand", 9), ("_law_told", 10)]) (g := (gTup K 3 (gCons (gName 8) (gCons (gName 9) (gCons (gName 10) gNil))))) rfl sc_law.nd (pi_list (pe_call (ok_law_rows T) (hr.mono (by decide)) (by rfl) T.m_law_rows T.k_law_rows T.b_law_rows .nil passL (pa_cons (pv 2) (pa_cons (pv 4) pa_nil)))) (blkOk_by (own := [("_law_word", 8), ("_law_stand", 9), ("_law_told", 10)]) (N := ["_law_script", "_law_row", "_law_d", "_law_machine_here", "_law_length", "_law_sums", "_law_due", "_law_tally", "_law_word", "_law_stand", "_law_told"]) (sc := defScope s_law) (by decide +kernel)) (fun _ _ _ _ _ => (pg_tup rfl (pgs_cons (pg_name (i := 8) sc_law.nd rfl (Or.inl rfl)) (pgs_cons (pg_name (i := 9) sc_law.nd rfl (Or.inl rfl)) (pgs_cons (pg_name (i := 10) sc_law.nd rfl (Or.inl rfl)) pgs_nil))))) (fun _ _ _ _ _ => (pts_one (pt_cmpR (show OpR _ _ (rIn K false) from op_in_seq) (pv 9) (pe_dget (hu_of hr) (pv 2) pe_str (fun _ _ => rfl)) (by rfl)))) (fun _ _ _ _ _ => (pe_ix (show IxR _ (rIxT K) from ix_tup) (pv 10) (pe_un un_neg pe_int) (fun _ _ => rfl)))))
  (C8.pss_cut (ps_setLc (i := 6) (own := [("_law_tally", 7)]) (g := (gName 7)) (tt := tYes) rfl sc_law.nd rfl rfl (sw_true rfl rfl rfl (by decide +kernel)) (pi_list (pe_callB (cr_sortedSetA rfl) (by rfl) T.z_sorted (by decide +kernel) (pa_cons (pe_callTy (cr_setL rfl) (by rfl) T.z_set (by decide +kernel) (pa_cons (pv 5) pa_nil)) pa_nil))) (blkOk_by (own := [("_law_tally", 7)]) (N := ["_law_script", "_law_row", "_law_d", "_law_machine_here", "_law_length", "_law_sums", "_law_due", "_law_tally", "_law_word", "_law_stand", "_law_told"]) (sc := defScope s_law) (by decide +kernel)) (fun _ _ _ _ _ => (pg_name (i := 7) sc_law.nd rfl (Or.inl rfl))) (fun _ _ _ _ _ => pts_nil) (fun _ _ _ _ _ => (pe_tup (pa_cons (pv 7) (pa_cons (show PE _ _ (tBM K "list" (rCntI K) _ _) from (pe_bm PySem.F.plainAttrs_list PySem.F.slot_list_count PySem.F.type_list_count (show MtR _ "list.count" (rCntI K) from mt_lcount) (pv 5) (pa_cons (pv 7) pa_nil))) pa_nil)))))
  (pss_cons (ps_if (pt_cmpR (op_neD hr.units) (pe_call (ok_tallies T) (hr.mono (by decide)) (by rfl) T.m_tallies T.k_tallies T.b_tallies .nil passL (pa_cons (pv 3) (pa_cons (pv 4) pa_nil))) (pv 6) (nomark _))
  (pss_one (ps_ret pe_bl))
  pss_nil)
  (pss_cons (ps_for PassesOwn.never rfl (pi_list (pe_op op_cat (pe_lst (pa_cons pe_int (pa_cons pe_int (pa_cons (pe_un un_neg pe_int) (pa_cons (pe_op op_sub (pe_call (ok_law_taken T) (hr.mono (by decide)) (by rfl) T.m_law_taken T.k_law_taken T.b_law_taken .nil passL (pa_cons (pv 1) (pa_cons pe_int pa_nil))) pe_int) pa_nil))))) (pe_slice sl_list (pv 5) po_none (po_some pe_int)))) (pg_name (i := 7) sc_law.nd rfl (Or.inl rfl))
  (pss_one (ps_if (pt_cmpR op_ne (pe_call (ok_count T) (hr.mono (by decide)) (by rfl) T.m_count T.k_count T.b_count .nil passL (pa_cons (pv 3) (pa_cons (pv 4) (pa_cons (pv 7) pa_nil)))) (pe_bm PySem.F.plainAttrs_list PySem.F.slot_list_count PySem.F.type_list_count mt_lcount (pv 5) (pa_cons (pv 7) pa_nil)) (nomark _))
  (pss_one (ps_ret pe_bl))
  pss_nil)))
  (pss_one (ps_ret pe_bl)))))))))), ?_⟩
    walk_at "begin"
    walk_at "go"
    refine ⟨(by decide : 4 ≤ sizeLine), fun a ha => ?_⟩
    have R1 : RowOk K (upd H a (.lst [.ref sc, .int 0, .int 221, .int 0])) a := ⟨sc, ns, 0, 221, 0, upd_same, hsc.same (Same.new ha), hns, by decide, by decide, by decide⟩
    generalize upd H a (.lst [.ref sc, .int 0, .int 221, .int 0]) = H1 at R1 ⊢
    walk_at "go"
    refine k_I (by exact ⟨by decide, by decide, by decide⟩) ?_
    walk_at "go"
    refine ⟨(by decide : 2 ≤ sizeLine), fun p2 hp2 => ?_⟩
    have n2 := R1.ne hp2
    have R2 := R1.same (Same.new (o := .lst [V.int 2, .int (10 ^ Int.toNat 29)]) hp2)
    walk_at "go"
    refine ⟨a, 2, rfl, by decide, by decide, R2, fun y1 H2 y10 y12 R3 K2 => ?_⟩
    have e1 : H2 p2 = some (.lst [V.int 2, .int (10 ^ Int.toNat 29)]) := K2 _ _ n2.symm upd_same
    obtain ⟨sz, hsz, z0, z1⟩ : ∃ sz : Int, atI [V.int 2, .int (10 ^ Int.toNat 29)] y1 = some (.int sz) ∧ 0 ≤ sz ∧ 2 * sz + 1 ≤ 10 ^ 30 := by
      have : y1 = 0 ∨ y1 = 1 := by omega
      rcases this with rfl | rfl
      · exact ⟨2, rfl, by decide, by decide⟩
      · exact ⟨_, rfl, by decide, by decide⟩
    refine k_ixL (SqL.of e1) hsz ?_
    walk_at "go"
    clear e1 K2 R2 R1 hsz n2
    refine ⟨a, 5, sz, rfl, by decide, by decide, z0, z1, R3, fun d m H4 o hst hg hd R4 K4 hd0 => ?_⟩
    clear K4 hd0 R3
    walk_at "go"
    refine ⟨d, m, rfl, hd, o, fun x H5 z5 hx hm => ?_⟩
    have hd5 := hd.same z5
    have R5 := R4.same z5
    walk_at "go"
    refine ⟨a, 7, rfl, by decide, by decide, R5, fun L H6 L0 L6 R6 K6 => ?_⟩
    obtain ⟨lr5, er5⟩ := R5.lst
    have hd6 := hd5.keep K6 er5
    have hm6 := hm.keep K6 er5
    clear hd5 hm er5 R5 K6 z5 hx hd R4
    obtain ⟨L, rfl⟩ := Int.eq_ofNat_of_zero_le L0
    have L6 : L ≤ 6 := by omega
    walk_at "go"
    refine k_cut (fun σ' H' => ∃ p5, p5 ≠ a ∧ Same H6 H' ∧ H' p5 = some (.lst ((sumsR m L).map V.int)) ∧ σ' = [some (.ref sc), some (.ref a), some (.ref d), some (.ref x), some (.int (L : Nat)), some (.ref p5), none, none, none, none, none]) ?_ ?_
    · walk_at "go"
      refine ⟨d, m, L, rfl, hd6, o, L6, fun pr us H7 z7 hpr epr ra => ?_⟩
      have hd7 := hd6.same z7
      obtain ⟨t, u, ed, hpa⟩ := id hd7
      refine ⟨pr, rfl, ⟨_, SqL.of epr⟩, fun Lq hLq => ?_⟩
      refine lc_list (xs := us) (fun i H' => Same H7 H' ∧ H' Lq = some (.lst ((((rowsC m L).take i).filter fun r => decide (r.k ∈ m.es)).map fun r => V.int r.t))) ⟨Same.new hLq, upd_same⟩ (fun _ H' _ ⟨z, _⟩ => SqL.of (z _ _ epr)) ?_ ?_
      · rintro i y H8 hy ⟨z8, e8⟩
        have jl : i < (rowsC m L).length := by rw [← ra.1]; exact (List.getElem?_eq_some_iff.mp hy).1
        have ej : (rowsC m L)[i]? = some ((rowsC m L)[i]'jl) := List.getElem?_eq_getElem jl
        obtain ⟨q, q2, eq, hq, hq2⟩ := ra.2 i _ ej
        rw [hy] at eq
        cases eq
        have tk : (rowsC m L).take (i + 1) = (rowsC m L).take i ++ [(rowsC m L)[i]'jl] := by rw [List.take_add_one, ej]; rfl
        have small : ((((rowsC m L).take i).filter fun r => decide (r.k ∈ m.es)).map fun r => V.int r.t).length < sizeLine := by
          rw [List.length_map]
          have a1 := List.length_filter_le (fun r : RC => decide (r.k ∈ m.es)) ((rowsC m L).take i)
          rw [List.length_take] at a1
          have := rows_size o L6
          exact Nat.lt_of_le_of_lt (show _ ≤ 4096 by omega) (by decide)
        rw [tk, List.filter_append, List.map_append]
        generalize (rowsC m L)[i]'jl = r0 at hq hq2
        refine k_gt ((same_tups z8).sq hq) rfl ?_
        walk_at "go"
        refine ⟨by rfl, ?_⟩
        walk_at "go"
        refine ⟨d, .ref u, rfl, DGet.k (k := .inr "ends") (z8 _ _ ed), ?_⟩
        refine k_in (.inr ((same_tups z8).sq hpa.2)) rfl (flat_nats _) ?_
        rw [inV_nats]
        walk_at "go"
        refine k_ite (fun c1 => ?_) (fun c1 => ?_)
        · walk_at "go"
          refine k_ixT ((same_tups z8).sq hq2) (v := .int r0.t) (by rw [List.map_append]; exact atI_last _ _) ?_
          refine ⟨_, e8, small, Same.mut z8 hLq, ?_⟩
          rw [upd_same, List.filter_cons_of_pos (by exact decide_eq_true c1)]
          rfl
        · refine ⟨z8, ?_⟩
          rw [e8, List.filter_cons_of_neg (by rw [decide_eq_false c1]; exact Bool.false_ne_true)]
          simp
      · rintro H8 ⟨z8, e8⟩
        rw [ra.1, List.take_length] at e8
        walk_at "go"
        exact ⟨Lq, (by obtain ⟨lr, er⟩ := R6.lst; exact (ne_of_none (z7 _ _ er) hLq).symm), z7.trans z8, by rw [e8]; unfold sumsR; rw [List.map_map]; rfl, rfl⟩
    · rintro σ' H7 ⟨p5, n5a, z7, e7, rfl⟩
      replace hm6 := hm6.same z7
      replace R6 := R6.same z7
      clear hd6 z7 H6
      refine k_cut (fun σ' H' => ∃ (pd : Addr) (us : List V) (ys : List Int), Same H7 H' ∧ H' pd = some (.lst us) ∧ ys.Pairwise (· < ·) ∧ (∀ t : Int, t ∈ ys ↔ cEnds loW hiW m L m.es t ≠ 0) ∧ PairsAt H' us (ys.map fun t => (t, ((cEnds loW hiW m L m.es t : Nat) : Int))) ∧
        σ' = [some (.ref sc), some (.ref a), some (.ref d), some (.ref x), some (.int (L : Nat)), some (.ref p5), some (.ref pd), none, none, none, none]) ?_ ?_
      · walk_at "go"
        refine ⟨p5, sumsR m L, rfl, SqL.of e7, sums_room o hst L6, fun pS cS hpS => ?_⟩
        have zS := Same.new (o := SetO w pS (fun j => decide (j ∈ sumsR m L)) cS) hpS
        have eS := upd_same (H := H7) (a := pS) (o := SetO w pS (fun j => decide (j ∈ sumsR m L)) cS)
        generalize upd H7 pS (SetO w pS (fun j => decide (j ∈ sumsR m L)) cS) = H8 at zS eS ⊢
        walk_at "go"
        refine ⟨pS, _, cS, rfl, eS, fun ys p2 hy1 hy2 hp2 => ?_⟩
        have hy3 : ∀ t, t ∈ ys ↔ cEnds loW hiW m L m.es t ≠ 0 := fun t => by
          rw [hy2 t, decide_eq_true_iff]
          exact sums_mem o L6 t
        have z2 := Same.new (o := .lst (ys.map V.int)) hp2
        have e2 := upd_same (H := H8) (a := p2) (o := .lst (ys.map V.int))
        have z9 := zS.trans z2
        generalize upd H8 p2 (.lst (ys.map V.int)) = H9 at z9 e2 ⊢
        clear z2 hp2 eS zS hpS H8
        have ly : ys.length < sizeLine := Nat.lt_of_le_of_lt (nodup_sub (T := sumsR m L) (hy1.imp fun {a b} h => by omega) fun t ht => (sums_mem o L6 t).mpr ((hy3 t).mp ht)) (Nat.lt_of_le_of_lt (sums_len o L6) (by decide))
        refine ⟨p2, rfl, ⟨_, SqL.of e2⟩, fun Lq hLq => ?_⟩
        refine lc_list (xs := ys.map V.int) (fun i H' => ∃ us, Same H9 H' ∧ H' Lq = some (.lst us) ∧ PairsAt H' us ((ys.take i).map fun t => (t, ((cEnds loW hiW m L m.es t : Nat) : Int)))) ⟨[], Same.new hLq, upd_same, PairsAt.nil⟩ (fun _ H' _ ⟨_, z, _⟩ => SqL.of (z _ _ e2)) ?_ ?_
        · rintro i y H10 hy ⟨us, z10, eD, pa⟩
          rw [List.getElem?_map] at hy
          obtain ⟨t, ht, rfl⟩ := Option.map_eq_some_iff.mp hy
          have tk : ((ys.take (i + 1)).map fun t => (t, ((cEnds loW hiW m L m.es t : Nat) : Int))) = ((ys.take i).map fun t => (t, ((cEnds loW hiW m L m.es t : Nat) : Int))) ++ [(t, ((cEnds loW hiW m L m.es t : Nat) : Int))] := by rw [List.take_add_one, ht, List.map_append]; rfl
          have lu : us.length < sizeLine := by
            rw [pa.1, List.length_map, List.length_take]
            omega
          walk_at "go"
          refine ⟨by rfl, ?_⟩
          walk_at "go"
          refine k_yes rfl ?_
          walk_at "go"
          refine ⟨.inl ⟨rfl, _, SqL.of ((z9.trans z10) _ _ e7)⟩, ?_⟩
          walk_at "go"
          refine ⟨p5, sumsR m L, t, rfl, rfl, SqL.of ((z9.trans z10) _ _ e7), ?_⟩
          rw [sums_cnt o L6]
          walk_at "go"
          refine ⟨(by decide : 2 ≤ sizeLine), fun pn hpn => ?_⟩
          have z4 := Same.new (o := .tup [V.int t, .int (cEnds loW hiW m L m.es t : Nat)]) hpn
          have eD4 := z4 _ _ eD
          refine ⟨us, eD4, lu, _, Same.mut (z10.trans z4) hLq, upd_same, ?_⟩
          rw [tk]
          exact ((pa.same z4).snoc upd_same).put fun xs e => by rw [eD4] at e; cases e
        · rintro H10 ⟨us, z10, eD, pa⟩
          rw [List.length_map, List.take_length] at pa
          walk_at "go"
          exact ⟨Lq, us, ys, z9.trans z10, eD, hy1, hy3, pa, rfl⟩
      · rintro σ' H8 ⟨pd, us, ys, z8, ed, asc, mem, pa, rfl⟩
        replace hm6 := hm6.same z8
        replace R6 := R6.same z8
        replace e7 := z8 _ _ e7
        clear z8 H7
        have sup : ∃ Tl : List Int, Tl.length < sizeLine ∧ ∀ n ≤ L, ∀ k u, cLev loW hiW m.ss n k u ≠ 0 → u ∈ Tl := ⟨allT m L, allT_len o L6, fun n hn k u h => allT_has hn h⟩
        walk_at "go"
        refine ⟨x, m, L, rfl, hm6, o, by omega, sup, fun pT usT ts H9 z9 hpT epT asc2 mem2 paT => ?_⟩
        replace hm6 := hm6.same z9
        replace R6 := R6.same z9
        replace e7 := z9 _ _ e7
        replace ed := z9 _ _ ed
        replace pa := pa.same z9
        clear z9 hpT H8
        have ey : ts = ys := asc_ext asc2 asc fun t => (mem2 t).trans (mem t).symm
        subst ey
        walk_at "go"
        refine k_neD (.lst (SqL.of epT) (dp_prs paT)) (.lst (SqL.of ed) (dp_prs pa)) (prs_sh _) (prs_sh _) ?_
        rw [SeqAt.eqv_refl (.list _) (show PyData.canLay0 (.list (List.map prD _)) = true from (prs_shaped _).1)]
        walk_at "go"
        refine iteF ?_
        walk_at "go"
        clear pa paT epT ed
        refine ⟨a, 9, rfl, by decide, by decide, R6, fun v H10 v0 v9 R10 K10 => ?_⟩
        obtain ⟨lr6, er6⟩ := R6.lst
        replace hm6 := hm6.keep K10 er6
        replace e7 := K10 _ _ n5a e7
        clear K10 er6 R6 R10 H9
        walk_at "go"
        refine ⟨(by decide : 4 ≤ sizeLine), fun p4 hp4 => ?_⟩
        have z4 := Same.new (o := .lst [V.int 0, .int 1, .int (-1), .int (v - 4)]) hp4
        have e4 := upd_same (H := H10) (a := p4) (o := .lst [V.int 0, .int 1, .int (-1), .int (v - 4)])
        replace hm6 := hm6.same z4
        replace e7 := z4 _ _ e7
        generalize upd H10 p4 (.lst [V.int 0, .int 1, .int (-1), .int (v - 4)]) = H11 at e4 hm6 e7 ⊢
        clear z4 hp4 H10
        walk_at "go"
        refine ⟨p5, _, rfl, SqL.of e7, fun p3 hp3 => ?_⟩
        rw [show cutV ((sumsR m L).map V.int) none (some 3) = ((sumsR m L).map V.int).take 3 from cutV_take _ 3]
        have z3 := Same.new (o := .lst (((sumsR m L).map V.int).take 3)) hp3
        have e3 := upd_same (H := H11) (a := p3) (o := .lst (((sumsR m L).map V.int).take 3))
        replace hm6 := hm6.same z3
        replace e7 := z3 _ _ e7
        replace e4 := z3 _ _ e4
        generalize upd H11 p3 (.lst (((sumsR m L).map V.int).take 3)) = H12 at e3 e4 hm6 e7 ⊢
        clear z3 hp3 H11
        walk_at "go"
        refine ⟨p4, p3, _, _, rfl, rfl, e4, e3, ?_, fun p6 hp6 => ?_⟩
        · have := List.length_take_le 3 ((sumsR m L).map V.int)
          exact Nat.le_trans (show 4 + _ ≤ 7 by omega) (by decide)
        have val : ∀ y ∈ [V.int 0, .int 1, .int (-1), .int (v - 4)] ++ ((sumsR m L).map V.int).take 3, ∃ t, y = .int t ∧ loW ≤ t ∧ t ≤ hiW := fun y hy => by
          rcases List.mem_append.mp hy with hy | hy
          · simp only [List.mem_cons, List.not_mem_nil, or_false] at hy
            unfold loW hiW
            rcases hy with rfl | rfl | rfl | rfl
            · exact ⟨_, rfl, by omega, by omega⟩
            · exact ⟨_, rfl, by omega, by omega⟩
            · exact ⟨_, rfl, by omega, by omega⟩
            · exact ⟨_, rfl, by omega, by omega⟩
          · obtain ⟨t, ht, rfl⟩ := List.mem_map.mp (List.mem_of_mem_take hy)
            exact ⟨t, rfl, sums_in o L6 ht⟩
        generalize [V.int 0, .int 1, .int (-1), .int (v - 4)] ++ ((sumsR m L).map V.int).take 3 = xs at val ⊢
        have z6 := Same.new (o := .lst xs) hp6
        have e6 := upd_same (H := H12) (a := p6) (o := .lst xs)
        replace hm6 := hm6.same z6
        replace e7 := z6 _ _ e7
        generalize upd H12 p6 (.lst xs) = H13 at e6 hm6 e7 ⊢
        clear z6 hp6 e3 e4 H12
        refine ⟨p6, rfl, ⟨_, SqL.of e6⟩, for_list (xs := xs) (fun j σ H' => ∃ a7, Same H13 H' ∧ σ = [some (.ref sc), some (.ref a), some (.ref d), some (.ref x), some (.int (L : Nat)), some (.ref p5), some (.ref pd), a7, none, none, none])
          ⟨_, fun _ _ e => e, rfl⟩ (fun _ _ H' _ ⟨_, z, _⟩ => SqL.of (z _ _ e6)) ?_ ?_⟩
        · rintro j y σ H14 hy ⟨a7, z14, rfl⟩
          obtain ⟨t, rfl, t1, t2⟩ := val y (List.mem_of_getElem? hy)
          walk_at "go"
          refine ⟨x, m, L, t, rfl, hm6.same z14, o, by omega, t1, t2, sup, fun H15 z15 => ?_⟩
          walk_at "go"
          refine ⟨.inl ⟨rfl, _, SqL.of ((z14.trans z15) _ _ e7)⟩, ?_⟩
          walk_at "go"
          refine ⟨p5, sumsR m L, t, rfl, rfl, SqL.of ((z14.trans z15) _ _ e7), ?_⟩
          rw [sums_cnt o L6]
          walk_at "go"
          refine k_no (by rw [decide_eq_true rfl]; rfl) ?_
          walk_at "go"
          exact ⟨_, z14.trans z15, rfl⟩
        · rintro σ H14 ⟨a7, z14, rfl⟩
          walk_at "go"
          exact k _
end
/-! ### what the written part says -/
theorem exc_self {K : PySem.W.Frag} {S : Addr} (hb : PySem.W.subIn K (.ref S) (.type "BaseException") = some true) (hc : PySem.W.isClsIn K S = true) (ht : PySem.W.typeIn K (.ref S) = some (.type "type")) (hs : PySem.W.subIn K (.ref S) (.ref S) = some true) : PySem.W.exmOne K (.ref S) (.ref S) = some true := by
  have hc' : (PySem.W.clsIn K S).isSome = true := hc
  unfold PySem.W.exmOne PySem.W.kitCls
  simp only [hb, ht, hc', hs, beq_self_eq_true, Bool.and_self, if_true]
theorem bb_Machine_init (kV doc pm : Value) (an : Option Addr) (cdv ct : Value) (us : List Value) (hl : us.length = 4) : bindArgs (PySem.W.fnOf "__init__" "Machine.__init__" (defArgs s_Machine_init) (defBody s_Machine_init) (defScope s_Machine_init) .none kV doc pm an cdv ct) ⟨us, []⟩ = pure ((["self", "stands", "steps", "ends"] : List Str).zip us) := match us, hl with | [_, _, _, _], _ => rfl
theorem bb_Machine_stands (kV doc pm : Value) (an : Option Addr) (cdv ct : Value) (us : List Value) (hl : us.length = 1) : bindArgs (PySem.W.fnOf "stands" "Machine.stands" (defArgs s_Machine_stands) (defBody s_Machine_stands) (defScope s_Machine_stands) .none kV doc pm an cdv ct) ⟨us, []⟩ = pure ((["self"] : List Str).zip us) := match us, hl with | [_], _ => rfl
theorem bb_Machine_steps (kV doc pm : Value) (an : Option Addr) (cdv ct : Value) (us : List Value) (hl : us.length = 1) : bindArgs (PySem.W.fnOf "steps" "Machine.steps" (defArgs s_Machine_steps) (defBody s_Machine_steps) (defScope s_Machine_steps) .none kV doc pm an cdv ct) ⟨us, []⟩ = pure ((["self"] : List Str).zip us) := match us, hl with | [_], _ => rfl
theorem bb_Machine_ends (kV doc pm : Value) (an : Option Addr) (cdv ct : Value) (us : List Value) (hl : us.length = 1) : bindArgs (PySem.W.fnOf "ends" "Machine.ends" (defArgs s_Machine_ends) (defBody s_Machine_ends) (defScope s_Machine_ends) .none kV doc pm an cdv ct) ⟨us, []⟩ = pure ((["self"] : List Str).zip us) := match us, hl with | [_], _ => rfl
theorem bb_is_whole_number (kV doc pm : Value) (an : Option Addr) (cdv ct : Value) (us : List Value) (hl : us.length = 1) : bindArgs (PySem.W.fnOf "is_whole_number" "is_whole_number" (defArgs s_is_whole_number) (defBody s_is_whole_number) (defScope s_is_whole_number) .none kV doc pm an cdv ct) ⟨us, []⟩ = pure ((["value"] : List Str).zip us) := match us, hl with | [_], _ => rfl
theorem bb_is_integer_between (kV doc pm : Value) (an : Option Addr) (cdv ct : Value) (us : List Value) (hl : us.length = 3) : bindArgs (PySem.W.fnOf "is_integer_between" "is_integer_between" (defArgs s_is_integer_between) (defBody s_is_integer_between) (defScope s_is_integer_between) .none kV doc pm an cdv ct) ⟨us, []⟩ = pure ((["value", "least", "most"] : List Str).zip us) := match us, hl with | [_, _, _], _ => rfl
theorem bb_is_stand (kV doc pm : Value) (an : Option Addr) (cdv ct : Value) (us : List Value) (hl : us.length = 2) : bindArgs (PySem.W.fnOf "_is_stand" "_is_stand" (defArgs s_is_stand) (defBody s_is_stand) (defScope s_is_stand) .none kV doc pm an cdv ct) ⟨us, []⟩ = pure ((["stands", "value"] : List Str).zip us) := match us, hl with | [_, _], _ => rfl
theorem bb_check_stands (kV doc pm : Value) (an : Option Addr) (cdv ct : Value) (us : List Value) (hl : us.length = 1) : bindArgs (PySem.W.fnOf "_check_stands" "_check_stands" (defArgs s_check_stands) (defBody s_check_stands) (defScope s_check_stands) .none kV doc pm an cdv ct) ⟨us, []⟩ = pure ((["stands"] : List Str).zip us) := match us, hl with | [_], _ => rfl
theorem bb_is_step (kV doc pm : Value) (an : Option Addr) (cdv ct : Value) (us : List Value) (hl : us.length = 2) : bindArgs (PySem.W.fnOf "_is_step" "_is_step" (defArgs s_is_step) (defBody s_is_step) (defScope s_is_step) .none kV doc pm an cdv ct) ⟨us, []⟩ = pure ((["stands", "value"] : List Str).zip us) := match us, hl with | [_, _], _ => rfl
theorem bb_check_steps (kV doc pm : Value) (an : Option Addr) (cdv ct : Value) (us : List Value) (hl : us.length = 2) : bindArgs (PySem.W.fnOf "_check_steps" "_check_steps" (defArgs s_check_steps) (defBody s_check_steps) (defScope s_check_steps) .none kV doc pm an cdv ct) ⟨us, []⟩ = pure ((["stands", "steps"] : List Str).zip us) := match us, hl with | [_, _], _ => rfl
theorem bb_is_ascending (kV doc pm : Value) (an : Option Addr) (cdv ct : Value) (us : List Value) (hl : us.length = 2) : bindArgs (PySem.W.fnOf "is_ascending" "is_ascending" (defArgs s_is_ascending) (defBody s_is_ascending) (defScope s_is_ascending) .none kV doc pm an cdv ct) ⟨us, []⟩ = pure ((["value", "many"] : List Str).zip us) := match us, hl with | [_, _], _ => rfl
theorem bb_check_ends (kV doc pm : Value) (an : Option Addr) (cdv ct : Value) (us : List Value) (hl : us.length = 2) : bindArgs (PySem.W.fnOf "_check_ends" "_check_ends" (defArgs s_check_ends) (defBody s_check_ends) (defScope s_check_ends) .none kV doc pm an cdv ct) ⟨us, []⟩ = pure ((["stands", "ends"] : List Str).zip us) := match us, hl with | [_, _], _ => rfl
theorem bb_check_machine (kV doc pm : Value) (an : Option Addr) (cdv ct : Value) (us : List Value) (hl : us.length = 1) : bindArgs (PySem.W.fnOf "check_machine" "check_machine" (defArgs s_check_machine) (defBody s_check_machine) (defScope s_check_machine) .none kV doc pm an cdv ct) ⟨us, []⟩ = pure ((["value"] : List Str).zip us) := match us, hl with | [_], _ => rfl
theorem bb_check_number (kV doc pm : Value) (an : Option Addr) (cdv ct : Value) (us : List Value) (hl : us.length = 3) : bindArgs (PySem.W.fnOf "check_number" "check_number" (defArgs s_check_number) (defBody s_check_number) (defScope s_check_number) .none kV doc pm an cdv ct) ⟨us, []⟩ = pure ((["value", "least", "most"] : List Str).zip us) := match us, hl with | [_, _, _], _ => rfl
theorem bb_longer (kV doc pm : Value) (an : Option Addr) (cdv ct : Value) (us : List Value) (hl : us.length = 4) : bindArgs (PySem.W.fnOf "_longer" "_longer" (defArgs s_longer) (defBody s_longer) (defScope s_longer) .none kV doc pm an cdv ct) ⟨us, []⟩ = pure ((["steps", "numbers", "low", "high"] : List Str).zip us) := match us, hl with | [_, _, _, _], _ => rfl
theorem bb_numbers (kV doc pm : Value) (an : Option Addr) (cdv ct : Value) (us : List Value) (hl : us.length = 4) : bindArgs (PySem.W.fnOf "_numbers" "_numbers" (defArgs s_numbers) (defBody s_numbers) (defScope s_numbers) .none kV doc pm an cdv ct) ⟨us, []⟩ = pure ((["machine", "length", "low", "high"] : List Str).zip us) := match us, hl with | [_, _, _, _], _ => rfl
theorem bb_tallies (kV doc pm : Value) (an : Option Addr) (cdv ct : Value) (us : List Value) (hl : us.length = 2) : bindArgs (PySem.W.fnOf "tallies" "tallies" (defArgs s_tallies) (defBody s_tallies) (defScope s_tallies) .none kV doc pm an cdv ct) ⟨us, []⟩ = pure ((["machine", "length"] : List Str).zip us) := match us, hl with | [_, _], _ => rfl
theorem bb_count (kV doc pm : Value) (an : Option Addr) (cdv ct : Value) (us : List Value) (hl : us.length = 3) : bindArgs (PySem.W.fnOf "count" "count" (defArgs s_count) (defBody s_count) (defScope s_count) .none kV doc pm an cdv ct) ⟨us, []⟩ = pure ((["machine", "length", "tally"] : List Str).zip us) := match us, hl with | [_, _, _], _ => rfl
theorem bb_law_taken (kV doc pm : Value) (an : Option Addr) (cdv ct : Value) (us : List Value) (hl : us.length = 2) : bindArgs (PySem.W.fnOf "_law_taken" "_law_taken" (defArgs s_law_taken) (defBody s_law_taken) (defScope s_law_taken) .none kV doc pm an cdv ct) ⟨us, []⟩ = pure ((["_law_row", "_law_many"] : List Str).zip us) := match us, hl with | [_, _], _ => rfl
theorem bb_law_parts (kV doc pm : Value) (an : Option Addr) (cdv ct : Value) (us : List Value) (hl : us.length = 3) : bindArgs (PySem.W.fnOf "_law_parts" "_law_parts" (defArgs s_law_parts) (defBody s_law_parts) (defScope s_law_parts) .none kV doc pm an cdv ct) ⟨us, []⟩ = pure ((["_law_row", "_law_stands", "_law_size"] : List Str).zip us) := match us, hl with | [_, _, _], _ => rfl
theorem bb_law_machine (kV doc pm : Value) (an : Option Addr) (cdv ct : Value) (us : List Value) (hl : us.length = 1) : bindArgs (PySem.W.fnOf "_law_machine" "_law_machine" (defArgs s_law_machine) (defBody s_law_machine) (defScope s_law_machine) .none kV doc pm an cdv ct) ⟨us, []⟩ = pure ((["_law_d"] : List Str).zip us) := match us, hl with | [_], _ => rfl
theorem bb_law_next (kV doc pm : Value) (an : Option Addr) (cdv ct : Value) (us : List Value) (hl : us.length = 2) : bindArgs (PySem.W.fnOf "_law_next" "_law_next" (defArgs s_law_next) (defBody s_law_next) (defScope s_law_next) .none kV doc pm an cdv ct) ⟨us, []⟩ = pure ((["_law_d", "_law_stand"] : List Str).zip us) := match us, hl with | [_, _], _ => rfl
theorem bb_law_rows (kV doc pm : Value) (an : Option Addr) (cdv ct : Value) (us : List Value) (hl : us.length = 2) : bindArgs (PySem.W.fnOf "_law_rows" "_law_rows" (defArgs s_law_rows) (defBody s_law_rows) (defScope s_law_rows) .none kV doc pm an cdv ct) ⟨us, []⟩ = pure ((["_law_d", "_law_length"] : List Str).zip us) := match us, hl with | [_, _], _ => rfl
theorem bb_law (kV doc pm : Value) (an : Option Addr) (cdv ct : Value) (us : List Value) (hl : us.length = 1) : bindArgs (PySem.W.fnOf "law" "law" (defArgs s_law) (defBody s_law) (defScope s_law) .none kV doc pm an cdv ct) ⟨us, []⟩ = pure ((["_law_script"] : List Str).zip us) := match us, hl with | [_], _ => rfl
set_option maxHeartbeats 0 in
def txt_mk {K : PySem.W.Frag} {h : Heap} {mg : Str → Option Value} (X : K.In h) (G : h.Ns mainGlobals mg)
    {a_Machine_init : Addr} {od_Machine_init an_Machine_init : Option Addr} {sl_Machine_init : Array (Option Value)} {oc_Machine_init kV_Machine_init dc_Machine_init pm_Machine_init cd_Machine_init ct_Machine_init : Value}
    {a_Machine_stands : Addr} {od_Machine_stands an_Machine_stands : Option Addr} {sl_Machine_stands : Array (Option Value)} {oc_Machine_stands kV_Machine_stands dc_Machine_stands pm_Machine_stands cd_Machine_stands ct_Machine_stands : Value}
    {a_Machine_steps : Addr} {od_Machine_steps an_Machine_steps : Option Addr} {sl_Machine_steps : Array (Option Value)} {oc_Machine_steps kV_Machine_steps dc_Machine_steps pm_Machine_steps cd_Machine_steps ct_Machine_steps : Value}
    {a_Machine_ends : Addr} {od_Machine_ends an_Machine_ends : Option Addr} {sl_Machine_ends : Array (Option Value)} {oc_Machine_ends kV_Machine_ends dc_Machine_ends pm_Machine_ends cd_Machine_ends ct_Machine_ends : Value}
    {a_is_whole_number : Addr} {od_is_whole_number an_is_whole_number : Option Addr} {sl_is_whole_number : Array (Option Value)} {oc_is_whole_number kV_is_whole_number dc_is_whole_number pm_is_whole_number cd_is_whole_number ct_is_whole_number : Value}
    {a_is_integer_between : Addr} {od_is_integer_between an_is_integer_between : Option Addr} {sl_is_integer_between : Array (Option Value)} {oc_is_integer_between kV_is_integer_between dc_is_integer_between pm_is_integer_between cd_is_integer_between ct_is_integer_between : Value}
    {a_is_stand : Addr} {od_is_stand an_is_stand : Option Addr} {sl_is_stand : Array (Option Value)} {oc_is_stand kV_is_stand dc_is_stand pm_is_stand cd_is_stand ct_is_stand : Value}
    {a_check_stands : Addr} {od_check_stands an_check_stands : Option Addr} {sl_check_stands : Array (Option Value)} {oc_check_stands kV_check_stands dc_check_stands pm_check_stands cd_check_stands ct_check_stands : Value}
    {a_is_step : Addr} {od_is_step an_is_step : Option Addr} {sl_is_step : Array (Option Value)} {oc_is_step kV_is_step dc_is_step pm_is_step cd_is_step ct_is_step : Value}
    {a_check_steps : Addr} {od_check_steps an_check_steps : Option Addr} {sl_check_steps : Array (Option Value)} {oc_check_steps kV_check_steps dc_check_steps pm_check_steps cd_check_steps ct_check_steps : Value}
    {a_is_ascending : Addr} {od_is_ascending an_is_ascending : Option Addr} {sl_is_ascending : Array (Option Value)} {oc_is_ascending kV_is_ascending dc_is_ascending pm_is_ascending cd_is_ascending ct_is_ascending : Value}
    {a_check_ends : Addr} {od_check_ends an_check_ends : Option Addr} {sl_check_ends : Array (Option Value)} {oc_check_ends kV_check_ends dc_check_ends pm_check_ends cd_check_ends ct_check_ends : Value}
    {a_check_machine : Addr} {od_check_machine an_check_machine : Option Addr} {sl_check_machine : Array (Option Value)} {oc_check_machine kV_check_machine dc_check_machine pm_check_machine cd_check_machine ct_check_machine : Value}
    {a_check_number : Addr} {od_check_number an_check_number : Option Addr} {sl_check_number : Array (Option Value)} {oc_check_number kV_check_number dc_check_number pm_check_number cd_check_number ct_check_number : Value}
    {a_longer : Addr} {od_longer an_longer : Option Addr} {sl_longer : Array (Option Value)} {oc_longer kV_longer dc_longer pm_longer cd_longer ct_longer : Value}
    {a_numbers : Addr} {od_numbers an_numbers : Option Addr} {sl_numbers : Array (Option Value)} {oc_numbers kV_numbers dc_numbers pm_numbers cd_numbers ct_numbers : Value}
    {a_tallies : Addr} {od_tallies an_tallies : Option Addr} {sl_tallies : Array (Option Value)} {oc_tallies kV_tallies dc_tallies pm_tallies cd_tallies ct_tallies : Value}
    {a_count : Addr} {od_count an_count : Option Addr} {sl_count : Array (Option Value)} {oc_count kV_count dc_count pm_count cd_count ct_count : Value}
    {a_law_taken : Addr} {od_law_taken an_law_taken : Option Addr} {sl_law_taken : Array (Option Value)} {oc_law_taken kV_law_taken dc_law_taken pm_law_taken cd_law_taken ct_law_taken : Value}
    {a_law_parts : Addr} {od_law_parts an_law_parts : Option Addr} {sl_law_parts : Array (Option Value)} {oc_law_parts kV_law_parts dc_law_parts pm_law_parts cd_law_parts ct_law_parts : Value}
    {a_law_machine : Addr} {od_law_machine an_law_machine : Option Addr} {sl_law_machine : Array (Option Value)} {oc_law_machine kV_law_machine dc_law_machine pm_law_machine cd_law_machine ct_law_machine : Value}
    {a_law_next : Addr} {od_law_next an_law_next : Option Addr} {sl_law_next : Array (Option Value)} {oc_law_next kV_law_next dc_law_next pm_law_next cd_law_next ct_law_next : Value}
    {a_law_rows : Addr} {od_law_rows an_law_rows : Option Addr} {sl_law_rows : Array (Option Value)} {oc_law_rows kV_law_rows dc_law_rows pm_law_rows cd_law_rows ct_law_rows : Value}
    {a_law : Addr} {od_law an_law : Option Addr} {sl_law : Array (Option Value)} {oc_law kV_law dc_law pm_law cd_law ct_law : Value}
    {c_Machine : Addr}
    {q_stands : Addr} {rest_stands : List Value}
    {q_steps : Addr} {rest_steps : List Value}
    {q_ends : Addr} {rest_ends : List Value}
    {t_MOST_STANDS : Tok}
    {t_MOST_GAIN : Tok}
    {a_LETTERS : Addr}
    {t_MOST_NUMBER : Tok}
    {t_MOST_LENGTH : Tok}
    (g_is_whole_number : PySem.W.nsIn K mainGlobals "is_whole_number" = some (some (.ref a_is_whole_number)))
    (g_is_integer_between : PySem.W.nsIn K mainGlobals "is_integer_between" = some (some (.ref a_is_integer_between)))
    (g_is_stand : PySem.W.nsIn K mainGlobals "_is_stand" = some (some (.ref a_is_stand)))
    (g_check_stands : PySem.W.nsIn K mainGlobals "_check_stands" = some (some (.ref a_check_stands)))
    (g_is_step : PySem.W.nsIn K mainGlobals "_is_step" = some (some (.ref a_is_step)))
    (g_check_steps : PySem.W.nsIn K mainGlobals "_check_steps" = some (some (.ref a_check_steps)))
    (g_is_ascending : PySem.W.nsIn K mainGlobals "is_ascending" = some (some (.ref a_is_ascending)))
    (g_check_ends : PySem.W.nsIn K mainGlobals "_check_ends" = some (some (.ref a_check_ends)))
    (g_check_machine : PySem.W.nsIn K mainGlobals "check_machine" = some (some (.ref a_check_machine)))
    (g_check_number : PySem.W.nsIn K mainGlobals "check_number" = some (some (.ref a_check_number)))
    (g_longer : PySem.W.nsIn K mainGlobals "_longer" = some (some (.ref a_longer)))
    (g_numbers : PySem.W.nsIn K mainGlobals "_numbers" = some (some (.ref a_numbers)))
    (g_tallies : PySem.W.nsIn K mainGlobals "tallies" = some (some (.ref a_tallies)))
    (g_count : PySem.W.nsIn K mainGlobals "count" = some (some (.ref a_count)))
    (g_law_taken : PySem.W.nsIn K mainGlobals "_law_taken" = some (some (.ref a_law_taken)))
    (g_law_parts : PySem.W.nsIn K mainGlobals "_law_parts" = some (some (.ref a_law_parts)))
    (g_law_machine : PySem.W.nsIn K mainGlobals "_law_machine" = some (some (.ref a_law_machine)))
    (g_law_next : PySem.W.nsIn K mainGlobals "_law_next" = some (some (.ref a_law_next)))
    (g_law_rows : PySem.W.nsIn K mainGlobals "_law_rows" = some (some (.ref a_law_rows)))
    (g_law : PySem.W.nsIn K mainGlobals "law" = some (some (.ref a_law)))
    (g_Machine : PySem.W.nsIn K mainGlobals "Machine" = some (some (.ref c_Machine)))
    (g_MOST_STANDS : PySem.W.nsIn K mainGlobals "MOST_STANDS" = some (some (.int 8 t_MOST_STANDS)))
    (g_MOST_GAIN : PySem.W.nsIn K mainGlobals "MOST_GAIN" = some (some (.int 1000000000000000000000000000000 t_MOST_GAIN)))
    (g_LETTERS : PySem.W.nsIn K mainGlobals "LETTERS" = some (some (.ref a_LETTERS)))
    (g_MOST_NUMBER : PySem.W.nsIn K mainGlobals "MOST_NUMBER" = some (some (.int 10000000000000000000000000000000000000000 t_MOST_NUMBER)))
    (g_MOST_LENGTH : PySem.W.nsIn K mainGlobals "MOST_LENGTH" = some (some (.int 12 t_MOST_LENGTH)))
    (zz_bool : PySem.W.nsIn K mainGlobals "bool" = some none)
    (zz_enumerate : PySem.W.nsIn K mainGlobals "enumerate" = some none)
    (zz_int : PySem.W.nsIn K mainGlobals "int" = some none)
    (zz_isinstance : PySem.W.nsIn K mainGlobals "isinstance" = some none)
    (zz_len : PySem.W.nsIn K mainGlobals "len" = some none)
    (zz_list : PySem.W.nsIn K mainGlobals "list" = some none)
    (zz_max : PySem.W.nsIn K mainGlobals "max" = some none)
    (zz_min : PySem.W.nsIn K mainGlobals "min" = some none)
    (zz_range : PySem.W.nsIn K mainGlobals "range" = some none)
    (zz_set : PySem.W.nsIn K mainGlobals "set" = some none)
    (zz_sorted : PySem.W.nsIn K mainGlobals "sorted" = some none)
    (zz_str : PySem.W.nsIn K mainGlobals "str" = some none)
    (zz_sum : PySem.W.nsIn K mainGlobals "sum" = some none)
    (zz_tuple : PySem.W.nsIn K mainGlobals "tuple" = some none)
    (l_Machine_init : K.lookup a_Machine_init = some ⟨oc_Machine_init, od_Machine_init, .func (PySem.W.fnOf "__init__" "Machine.__init__" (defArgs s_Machine_init) (defBody s_Machine_init) (defScope s_Machine_init) .none kV_Machine_init dc_Machine_init pm_Machine_init an_Machine_init cd_Machine_init ct_Machine_init), sl_Machine_init⟩)
    (c_Machine_init : PySem.W.codeIn K cd_Machine_init "Machine.__init__" = true)
    (kk_Machine_init : PySem.W.keepIn K (.ref a_Machine_init) = true)
    (l_Machine_stands : K.lookup a_Machine_stands = some ⟨oc_Machine_stands, od_Machine_stands, .func (PySem.W.fnOf "stands" "Machine.stands" (defArgs s_Machine_stands) (defBody s_Machine_stands) (defScope s_Machine_stands) .none kV_Machine_stands dc_Machine_stands pm_Machine_stands an_Machine_stands cd_Machine_stands ct_Machine_stands), sl_Machine_stands⟩)
    (c_Machine_stands : PySem.W.codeIn K cd_Machine_stands "Machine.stands" = true)
    (kk_Machine_stands : PySem.W.keepIn K (.ref a_Machine_stands) = true)
    (l_Machine_steps : K.lookup a_Machine_steps = some ⟨oc_Machine_steps, od_Machine_steps, .func (PySem.W.fnOf "steps" "Machine.steps" (defArgs s_Machine_steps) (defBody s_Machine_steps) (defScope s_Machine_steps) .none kV_Machine_steps dc_Machine_steps pm_Machine_steps an_Machine_steps cd_Machine_steps ct_Machine_steps), sl_Machine_steps⟩)
    (c_Machine_steps : PySem.W.codeIn K cd_Machine_steps "Machine.steps" = true)
    (kk_Machine_steps : PySem.W.keepIn K (.ref a_Machine_steps) = true)
    (l_Machine_ends : K.lookup a_Machine_ends = some ⟨oc_Machine_ends, od_Machine_ends, .func (PySem.W.fnOf "ends" "Machine.ends" (defArgs s_Machine_ends) (defBody s_Machine_ends) (defScope s_Machine_ends) .none kV_Machine_ends dc_Machine_ends pm_Machine_ends an_Machine_ends cd_Machine_ends ct_Machine_ends), sl_Machine_ends⟩)
    (c_Machine_ends : PySem.W.codeIn K cd_Machine_ends "Machine.ends" = true)
    (kk_Machine_ends : PySem.W.keepIn K (.ref a_Machine_ends) = true)
    (l_is_whole_number : K.lookup a_is_whole_number = some ⟨oc_is_whole_number, od_is_whole_number, .func (PySem.W.fnOf "is_whole_number" "is_whole_number" (defArgs s_is_whole_number) (defBody s_is_whole_number) (defScope s_is_whole_number) .none kV_is_whole_number dc_is_whole_number pm_is_whole_number an_is_whole_number cd_is_whole_number ct_is_whole_number), sl_is_whole_number⟩)
    (c_is_whole_number : PySem.W.codeIn K cd_is_whole_number "is_whole_number" = true)
    (kk_is_whole_number : PySem.W.keepIn K (.ref a_is_whole_number) = true)
    (l_is_integer_between : K.lookup a_is_integer_between = some ⟨oc_is_integer_between, od_is_integer_between, .func (PySem.W.fnOf "is_integer_between" "is_integer_between" (defArgs s_is_integer_between) (defBody s_is_integer_between) (defScope s_is_integer_between) .none kV_is_integer_between dc_is_integer_between pm_is_integer_between an_is_integer_between cd_is_integer_between ct_is_integer_between), sl_is_integer_between⟩)
    (c_is_integer_between : PySem.W.codeIn K cd_is_integer_between "is_integer_between" = true)
    (kk_is_integer_between : PySem.W.keepIn K (.ref a_is_integer_between) = true)
    (l_is_stand : K.lookup a_is_stand = some ⟨oc_is_stand, od_is_stand, .func (PySem.W.fnOf "_is_stand" "_is_stand" (defArgs s_is_stand) (defBody s_is_stand) (defScope s_is_stand) .none kV_is_stand dc_is_stand pm_is_stand an_is_stand cd_is_stand ct_is_stand), sl_is_stand⟩)
    (c_is_stand : PySem.W.codeIn K cd_is_stand "_is_stand" = true)
    (kk_is_stand : PySem.W.keepIn K (.ref a_is_stand) = true)
    (l_check_stands : K.lookup a_check_stands = some ⟨oc_check_stands, od_check_stands, .func (PySem.W.fnOf "_check_stands" "_check_stands" (defArgs s_check_stands) (defBody s_check_stands) (defScope s_check_stands) .none kV_check_stands dc_check_stands pm_check_stands an_check_stands cd_check_stands ct_check_stands), sl_check_stands⟩)
    (c_check_stands : PySem.W.codeIn K cd_check_stands "_check_stands" = true)
    (kk_check_stands : PySem.W.keepIn K (.ref a_check_stands) = true)
    (l_is_step : K.lookup a_is_step = some ⟨oc_is_step, od_is_step, .func (PySem.W.fnOf "_is_step" "_is_step" (defArgs s_is_step) (defBody s_is_step) (defScope s_is_step) .none kV_is_step dc_is_step pm_is_step an_is_step cd_is_step ct_is_step), sl_is_step⟩)
    (c_is_step : PySem.W.codeIn K cd_is_step "_is_step" = true)
    (kk_is_step : PySem.W.keepIn K (.ref a_is_step) = true)
    (l_check_steps : K.lookup a_check_steps = some ⟨oc_check_steps, od_check_steps, .func (PySem.W.fnOf "_check_steps" "_check_steps" (defArgs s_check_steps) (defBody s_check_steps) (defScope s_check_steps) .none kV_check_steps dc_check_steps pm_check_steps an_check_steps cd_check_steps ct_check_steps), sl_check_steps⟩)
    (c_check_steps : PySem.W.codeIn K cd_check_steps "_check_steps" = true)
    (kk_check_steps : PySem.W.keepIn K (.ref a_check_steps) = true)
    (l_is_ascending : K.lookup a_is_ascending = some ⟨oc_is_ascending, od_is_ascending, .func (PySem.W.fnOf "is_ascending" "is_ascending" (defArgs s_is_ascending) (defBody s_is_ascending) (defScope s_is_ascending) .none kV_is_ascending dc_is_ascending pm_is_ascending an_is_ascending cd_is_ascending ct_is_ascending), sl_is_ascending⟩)
    (c_is_ascending : PySem.W.codeIn K cd_is_ascending "is_ascending" = true)
    (kk_is_ascending : PySem.W.keepIn K (.ref a_is_ascending) = true)
    (l_check_ends : K.lookup a_check_ends = some ⟨oc_check_ends, od_check_ends, .func (PySem.W.fnOf "_check_ends" "_check_ends" (defArgs s_check_ends) (defBody s_check_ends) (defScope s_check_ends) .none kV_check_ends dc_check_ends pm_check_ends an_check_ends cd_check_ends ct_check_ends), sl_check_ends⟩)
    (c_check_ends : PySem.W.codeIn K cd_check_ends "_check_ends" = true)
    (kk_check_ends : PySem.W.keepIn K (.ref a_check_ends) = true)
    (l_check_machine : K.lookup a_check_machine = some ⟨oc_check_machine, od_check_machine, .func (PySem.W.fnOf "check_machine" "check_machine" (defArgs s_check_machine) (defBody s_check_machine) (defScope s_check_machine) .none kV_check_machine dc_check_machine pm_check_machine an_check_machine cd_check_machine ct_check_machine), sl_check_machine⟩)
    (c_check_machine : PySem.W.codeIn K cd_check_machine "check_machine" = true)
    (kk_check_machine : PySem.W.keepIn K (.ref a_check_machine) = true)
    (l_check_number : K.lookup a_check_number = some ⟨oc_check_number, od_check_number, .func (PySem.W.fnOf "check_number" "check_number" (defArgs s_check_number) (defBody s_check_number) (defScope s_check_number) .none kV_check_number dc_check_number pm_check_number an_check_number cd_check_number ct_check_number), sl_check_number⟩)
    (c_check_number : PySem.W.codeIn K cd_check_number "check_number" = true)
    (kk_check_number : PySem.W.keepIn K (.ref a_check_number) = true)
    (l_longer : K.lookup a_longer = some ⟨oc_longer, od_longer, .func (PySem.W.fnOf "_longer" "_longer" (defArgs s_longer) (defBody s_longer) (defScope s_longer) .none kV_longer dc_longer pm_longer an_longer cd_longer ct_longer), sl_longer⟩)
    (c_longer : PySem.W.codeIn K cd_longer "_longer" = true)
    (kk_longer : PySem.W.keepIn K (.ref a_longer) = true)
    (l_numbers : K.lookup a_numbers = some ⟨oc_numbers, od_numbers, .func (PySem.W.fnOf "_numbers" "_numbers" (defArgs s_numbers) (defBody s_numbers) (defScope s_numbers) .none kV_numbers dc_numbers pm_numbers an_numbers cd_numbers ct_numbers), sl_numbers⟩)
    (c_numbers : PySem.W.codeIn K cd_numbers "_numbers" = true)
    (kk_numbers : PySem.W.keepIn K (.ref a_numbers) = true)
    (l_tallies : K.lookup a_tallies = some ⟨oc_tallies, od_tallies, .func (PySem.W.fnOf "tallies" "tallies" (defArgs s_tallies) (defBody s_tallies) (defScope s_tallies) .none kV_tallies dc_tallies pm_tallies an_tallies cd_tallies ct_tallies), sl_tallies⟩)
    (c_tallies : PySem.W.codeIn K cd_tallies "tallies" = true)
    (kk_tallies : PySem.W.keepIn K (.ref a_tallies) = true)
    (l_count : K.lookup a_count = some ⟨oc_count, od_count, .func (PySem.W.fnOf "count" "count" (defArgs s_count) (defBody s_count) (defScope s_count) .none kV_count dc_count pm_count an_count cd_count ct_count), sl_count⟩)
    (c_count : PySem.W.codeIn K cd_count "count" = true)
    (kk_count : PySem.W.keepIn K (.ref a_count) = true)
    (l_law_taken : K.lookup a_law_taken = some ⟨oc_law_taken, od_law_taken, .func (PySem.W.fnOf "_law_taken" "_law_taken" (defArgs s_law_taken) (defBody s_law_taken) (defScope s_law_taken) .none kV_law_taken dc_law_taken pm_law_taken an_law_taken cd_law_taken ct_law_taken), sl_law_taken⟩)
    (c_law_taken : PySem.W.codeIn K cd_law_taken "_law_taken" = true)
    (kk_law_taken : PySem.W.keepIn K (.ref a_law_taken) = true)
    (l_law_parts : K.lookup a_law_parts = some ⟨oc_law_parts, od_law_parts, .func (PySem.W.fnOf "_law_parts" "_law_parts" (defArgs s_law_parts) (defBody s_law_parts) (defScope s_law_parts) .none kV_law_parts dc_law_parts pm_law_parts an_law_parts cd_law_parts ct_law_parts), sl_law_parts⟩)
    (c_law_parts : PySem.W.codeIn K cd_law_parts "_law_parts" = true)
    (kk_law_parts : PySem.W.keepIn K (.ref a_law_parts) = true)
    (l_law_machine : K.lookup a_law_machine = some ⟨oc_law_machine, od_law_machine, .func (PySem.W.fnOf "_law_machine" "_law_machine" (defArgs s_law_machine) (defBody s_law_machine) (defScope s_law_machine) .none kV_law_machine dc_law_machine pm_law_machine an_law_machine cd_law_machine ct_law_machine), sl_law_machine⟩)
    (c_law_machine : PySem.W.codeIn K cd_law_machine "_law_machine" = true)
    (kk_law_machine : PySem.W.keepIn K (.ref a_law_machine) = true)
    (l_law_next : K.lookup a_law_next = some ⟨oc_law_next, od_law_next, .func (PySem.W.fnOf "_law_next" "_law_next" (defArgs s_law_next) (defBody s_law_next) (defScope s_law_next) .none kV_law_next dc_law_next pm_law_next an_law_next cd_law_next ct_law_next), sl_law_next⟩)
    (c_law_next : PySem.W.codeIn K cd_law_next "_law_next" = true)
    (kk_law_next : PySem.W.keepIn K (.ref a_law_next) = true)
    (l_law_rows : K.lookup a_law_rows = some ⟨oc_law_rows, od_law_rows, .func (PySem.W.fnOf "_law_rows" "_law_rows" (defArgs s_law_rows) (defBody s_law_rows) (defScope s_law_rows) .none kV_law_rows dc_law_rows pm_law_rows an_law_rows cd_law_rows ct_law_rows), sl_law_rows⟩)
    (c_law_rows : PySem.W.codeIn K cd_law_rows "_law_rows" = true)
    (kk_law_rows : PySem.W.keepIn K (.ref a_law_rows) = true)
    (l_law : K.lookup a_law = some ⟨oc_law, od_law, .func (PySem.W.fnOf "law" "law" (defArgs s_law) (defBody s_law) (defScope s_law) .none kV_law dc_law pm_law an_law cd_law ct_law), sl_law⟩)
    (c_law : PySem.W.codeIn K cd_law "law" = true)
    (kk_law : PySem.W.keepIn K (.ref a_law) = true)
    (pg_Machine : PySem.W.plainGet K c_Machine Str.empty = true)
    (hd_Machine : PySem.W.hasDictIn K c_Machine = true)
    (po_Machine : PySem.W.plainOver K c_Machine = true)
    (sa_Machine : PySem.W.findIn K (.ref c_Machine) "__setattr__" = some (some (.builtin "object.__setattr__")))
    (mi_Machine : PySem.W.makesIn K c_Machine = true)
    (kc_Machine : PySem.W.keepIn K (.ref c_Machine) = true)
    (fi_Machine : PySem.W.findIn K (.ref c_Machine) "__init__" = some (some (.ref a_Machine_init)))
    (if_Machine : PySem.W.isFn K (.ref a_Machine_init) = true)
    (nf_stands : PySem.W.findIn K (.ref c_Machine) "_stands" = some none)
    (nf_steps : PySem.W.findIn K (.ref c_Machine) "_steps" = some none)
    (nf_ends : PySem.W.findIn K (.ref c_Machine) "_ends" = some none)
    (pf_stands : PySem.W.findIn K (.ref c_Machine) "stands" = some (some (.ref q_stands)))
    (pt_stands : PySem.W.specialIn K (.ref q_stands) "__get__" = some (some (.builtin "property.__get__")))
    (pk_stands : PySem.W.takesIn K (.ref q_stands) = some true)
    (pr_stands : PySem.W.recIn K q_stands "property" = some (.ref a_Machine_stands :: rest_stands))
    (pf_steps : PySem.W.findIn K (.ref c_Machine) "steps" = some (some (.ref q_steps)))
    (pt_steps : PySem.W.specialIn K (.ref q_steps) "__get__" = some (some (.builtin "property.__get__")))
    (pk_steps : PySem.W.takesIn K (.ref q_steps) = some true)
    (pr_steps : PySem.W.recIn K q_steps "property" = some (.ref a_Machine_steps :: rest_steps))
    (pf_ends : PySem.W.findIn K (.ref c_Machine) "ends" = some (some (.ref q_ends)))
    (pt_ends : PySem.W.specialIn K (.ref q_ends) "__get__" = some (some (.builtin "property.__get__")))
    (pk_ends : PySem.W.takesIn K (.ref q_ends) = some true)
    (pr_ends : PySem.W.recIn K q_ends "property" = some (.ref a_Machine_ends :: rest_ends))
    (x_i1_Machine : PySem.W.findIn K (.ref c_Machine) "__class__" = some (some (.builtin "object.__class__")))
    (x_i2_Machine : PySem.W.specialIn K (.builtin "object.__class__") "__get__" = some (some (.builtin "getset_descriptor.__get__")))
    (x_i3_Machine : PySem.W.takesIn K (.builtin "object.__class__") = some true)
    (x_i4_Machine : PySem.W.mroIn K c_Machine (.type "object") = some true)
    (l_LETTERS : ∀ H : Hp, SqT K H a_LETTERS [V.str "a", V.str "b", V.str "c", V.str "d"]) : Txt K mg :=
  Txt.mk (K := K) (mg := mg)
    (a_Machine_init)
    (_)
    (fun_mk (st := s_Machine_init) l_Machine_init c_Machine_init kk_Machine_init)
    ((fun_mk (st := s_Machine_init) l_Machine_init c_Machine_init kk_Machine_init).binds (ps := ["self", "stands", "steps", "ends"]) bb_Machine_init)
    (kk_Machine_init)
    (a_Machine_stands)
    (_)
    (fun_mk (st := s_Machine_stands) l_Machine_stands c_Machine_stands kk_Machine_stands)
    ((fun_mk (st := s_Machine_stands) l_Machine_stands c_Machine_stands kk_Machine_stands).binds (ps := ["self"]) bb_Machine_stands)
    (kk_Machine_stands)
    (a_Machine_steps)
    (_)
    (fun_mk (st := s_Machine_steps) l_Machine_steps c_Machine_steps kk_Machine_steps)
    ((fun_mk (st := s_Machine_steps) l_Machine_steps c_Machine_steps kk_Machine_steps).binds (ps := ["self"]) bb_Machine_steps)
    (kk_Machine_steps)
    (a_Machine_ends)
    (_)
    (fun_mk (st := s_Machine_ends) l_Machine_ends c_Machine_ends kk_Machine_ends)
    ((fun_mk (st := s_Machine_ends) l_Machine_ends c_Machine_ends kk_Machine_ends).binds (ps := ["self"]) bb_Machine_ends)
    (kk_Machine_ends)
    (a_is_whole_number)
    (_)
    (fun_mk (st := s_is_whole_number) l_is_whole_number c_is_whole_number kk_is_whole_number)
    ((fun_mk (st := s_is_whole_number) l_is_whole_number c_is_whole_number kk_is_whole_number).binds (ps := ["value"]) bb_is_whole_number)
    (kk_is_whole_number)
    (PySem.W.mg_of X G g_is_whole_number)
    (a_is_integer_between)
    (_)
    (fun_mk (st := s_is_integer_between) l_is_integer_between c_is_integer_between kk_is_integer_between)
    ((fun_mk (st := s_is_integer_between) l_is_integer_between c_is_integer_between kk_is_integer_between).binds (ps := ["value", "least", "most"]) bb_is_integer_between)
    (kk_is_integer_between)
    (PySem.W.mg_of X G g_is_integer_between)
    (a_is_stand)
    (_)
    (fun_mk (st := s_is_stand) l_is_stand c_is_stand kk_is_stand)
    ((fun_mk (st := s_is_stand) l_is_stand c_is_stand kk_is_stand).binds (ps := ["stands", "value"]) bb_is_stand)
    (kk_is_stand)
    (PySem.W.mg_of X G g_is_stand)
    (a_check_stands)
    (_)
    (fun_mk (st := s_check_stands) l_check_stands c_check_stands kk_check_stands)
    ((fun_mk (st := s_check_stands) l_check_stands c_check_stands kk_check_stands).binds (ps := ["stands"]) bb_check_stands)
    (kk_check_stands)
    (PySem.W.mg_of X G g_check_stands)
    (a_is_step)
    (_)
    (fun_mk (st := s_is_step) l_is_step c_is_step kk_is_step)
    ((fun_mk (st := s_is_step) l_is_step c_is_step kk_is_step).binds (ps := ["stands", "value"]) bb_is_step)
    (kk_is_step)
    (PySem.W.mg_of X G g_is_step)
    (a_check_steps)
    (_)
    (fun_mk (st := s_check_steps) l_check_steps c_check_steps kk_check_steps)
    ((fun_mk (st := s_check_steps) l_check_steps c_check_steps kk_check_steps).binds (ps := ["stands", "steps"]) bb_check_steps)
    (kk_check_steps)
    (PySem.W.mg_of X G g_check_steps)
    (a_is_ascending)
    (_)
    (fun_mk (st := s_is_ascending) l_is_ascending c_is_ascending kk_is_ascending)
    ((fun_mk (st := s_is_ascending) l_is_ascending c_is_ascending kk_is_ascending).binds (ps := ["value", "many"]) bb_is_ascending)
    (kk_is_ascending)
    (PySem.W.mg_of X G g_is_ascending)
    (a_check_ends)
    (_)
    (fun_mk (st := s_check_ends) l_check_ends c_check_ends kk_check_ends)
    ((fun_mk (st := s_check_ends) l_check_ends c_check_ends kk_check_ends).binds (ps := ["stands", "ends"]) bb_check_ends)
    (kk_check_ends)
    (PySem.W.mg_of X G g_check_ends)
    (a_check_machine)
    (_)
    (fun_mk (st := s_check_machine) l_check_machine c_check_machine kk_check_machine)
    ((fun_mk (st := s_check_machine) l_check_machine c_check_machine kk_check_machine).binds (ps := ["value"]) bb_check_machine)
    (kk_check_machine)
    (PySem.W.mg_of X G g_check_machine)
    (a_check_number)
    (_)
    (fun_mk (st := s_check_number) l_check_number c_check_number kk_check_number)
    ((fun_mk (st := s_check_number) l_check_number c_check_number kk_check_number).binds (ps := ["value", "least", "most"]) bb_check_number)
    (kk_check_number)
    (PySem.W.mg_of X G g_check_number)
    (a_longer)
    (_)
    (fun_mk (st := s_longer) l_longer c_longer kk_longer)
    ((fun_mk (st := s_longer) l_longer c_longer kk_longer).binds (ps := ["steps", "numbers", "low", "high"]) bb_longer)
    (kk_longer)
    (PySem.W.mg_of X G g_longer)
    (a_numbers)
    (_)
    (fun_mk (st := s_numbers) l_numbers c_numbers kk_numbers)
    ((fun_mk (st := s_numbers) l_numbers c_numbers kk_numbers).binds (ps := ["machine", "length", "low", "high"]) bb_numbers)
    (kk_numbers)
    (PySem.W.mg_of X G g_numbers)
    (a_tallies)
    (_)
    (fun_mk (st := s_tallies) l_tallies c_tallies kk_tallies)
    ((fun_mk (st := s_tallies) l_tallies c_tallies kk_tallies).binds (ps := ["machine", "length"]) bb_tallies)
    (kk_tallies)
    (PySem.W.mg_of X G g_tallies)
    (a_count)
    (_)
    (fun_mk (st := s_count) l_count c_count kk_count)
    ((fun_mk (st := s_count) l_count c_count kk_count).binds (ps := ["machine", "length", "tally"]) bb_count)
    (kk_count)
    (PySem.W.mg_of X G g_count)
    (a_law_taken)
    (_)
    (fun_mk (st := s_law_taken) l_law_taken c_law_taken kk_law_taken)
    ((fun_mk (st := s_law_taken) l_law_taken c_law_taken kk_law_taken).binds (ps := ["_law_row", "_law_many"]) bb_law_taken)
    (kk_law_taken)
    (PySem.W.mg_of X G g_law_taken)
    (a_law_parts)
    (_)
    (fun_mk (st := s_law_parts) l_law_parts c_law_parts kk_law_parts)
    ((fun_mk (st := s_law_parts) l_law_parts c_law_parts kk_law_parts).binds (ps := ["_law_row", "_law_stands", "_law_size"]) bb_law_parts)
    (kk_law_parts)
    (PySem.W.mg_of X G g_law_parts)
    (a_law_machine)
    (_)
    (fun_mk (st := s_law_machine) l_law_machine c_law_machine kk_law_machine)
    ((fun_mk (st := s_law_machine) l_law_machine c_law_machine kk_law_machine).binds (ps := ["_law_d"]) bb_law_machine)
    (kk_law_machine)
    (PySem.W.mg_of X G g_law_machine)
    (a_law_next)
    (_)
    (fun_mk (st := s_law_next) l_law_next c_law_next kk_law_next)
    ((fun_mk (st := s_law_next) l_law_next c_law_next kk_law_next).binds (ps := ["_law_d", "_law_stand"]) bb_law_next)
    (kk_law_next)
    (PySem.W.mg_of X G g_law_next)
    (a_law_rows)
    (_)
    (fun_mk (st := s_law_rows) l_law_rows c_law_rows kk_law_rows)
    ((fun_mk (st := s_law_rows) l_law_rows c_law_rows kk_law_rows).binds (ps := ["_law_d", "_law_length"]) bb_law_rows)
    (kk_law_rows)
    (PySem.W.mg_of X G g_law_rows)
    (a_law)
    (_)
    (fun_mk (st := s_law) l_law c_law kk_law)
    ((fun_mk (st := s_law) l_law c_law kk_law).binds (ps := ["_law_script"]) bb_law)
    (kk_law)
    (PySem.W.mg_of X G g_law)
    (c_Machine)
    (⟨pg_Machine, hd_Machine, po_Machine, sa_Machine⟩)
    (PySem.W.mg_of X G g_Machine)
    (⟨mi_Machine, fi_Machine, if_Machine, kc_Machine⟩)
    (nf_stands)
    (nf_steps)
    (nf_ends)
    (q_stands)
    (⟨pf_stands, pt_stands, pk_stands, ⟨_, pr_stands⟩⟩)
    (q_steps)
    (⟨pf_steps, pt_steps, pk_steps, ⟨_, pr_steps⟩⟩)
    (q_ends)
    (⟨pf_ends, pt_ends, pk_ends, ⟨_, pr_ends⟩⟩)
    (x_i1_Machine)
    (x_i2_Machine)
    (x_i3_Machine)
    (x_i4_Machine)
    (.int 8 t_MOST_STANDS)
    (PySem.W.mg_of X G g_MOST_STANDS)
    (⟨_, rfl⟩)
    (.int 1000000000000000000000000000000 t_MOST_GAIN)
    (PySem.W.mg_of X G g_MOST_GAIN)
    (⟨_, rfl⟩)
    (a_LETTERS)
    (PySem.W.mg_of X G g_LETTERS)
    (rfl)
    (l_LETTERS)
    (.int 10000000000000000000000000000000000000000 t_MOST_NUMBER)
    (PySem.W.mg_of X G g_MOST_NUMBER)
    (⟨_, rfl⟩)
    (.int 12 t_MOST_LENGTH)
    (PySem.W.mg_of X G g_MOST_LENGTH)
    (⟨_, rfl⟩)
    (PySem.W.mg_none_of X G zz_bool)
    (PySem.W.mg_none_of X G zz_enumerate)
    (PySem.W.mg_none_of X G zz_int)
    (PySem.W.mg_none_of X G zz_isinstance)
    (PySem.W.mg_none_of X G zz_len)
    (PySem.W.mg_none_of X G zz_list)
    (PySem.W.mg_none_of X G zz_max)
    (PySem.W.mg_none_of X G zz_min)
    (PySem.W.mg_none_of X G zz_range)
    (PySem.W.mg_none_of X G zz_set)
    (PySem.W.mg_none_of X G zz_sorted)
    (PySem.W.mg_none_of X G zz_str)
    (PySem.W.mg_none_of X G zz_sum)
    (PySem.W.mg_none_of X G zz_tuple)
    (fun s v => .of_eq rfl)
theorem all_mk {l : PySem.W.OpenLaw} {w : World} {K : PySem.W.Frag} {mg : Str → Option Value} {fa : Addr} (T : Txt K mg) (hfa : mg "law" = some (.ref fa)) :
    ∃ fd : FuncData, (∀ (s : Shared) (v : Value), BindsTo s fd ⟨[v], []⟩ [("_law_script", v)]) ∧ ∀ base : Heap, K.In base → base.Ns mainGlobals mg → FnOk l.prog w K mg base (L2.CX l.prog w) 20 fa fd ["_law_script"] (sp_law K) := by
  have e := hfa.symm.trans T.m_law
  cases e
  exact ⟨T.fd_law, T.bs_law, fun _ _ _ => ok_law T⟩
/-! ### the head by facts: the names that the law comes to, read off the run's end -/
section
open He
theorem map_join {α β γ δ : Type} {o : Option α} {a : α → β} {b : α → γ} {c : α → δ} {A : β} {B : γ} {C : δ} (h1 : o.map (fun x => a x) = some A) (h2 : o.map (fun x => b x) = some B) (h3 : o.map (fun x => c x) = some C) : o.map (fun x => (a x, b x, c x)) = some (A, B, C) := by
  cases o with
  | none => cases h1
  | some x =>
    have e1 : a x = A := Option.some.inj h1
    have e2 : b x = B := Option.some.inj h2
    have e3 : c x = C := Option.some.inj h3
    show some (a x, b x, c x) = _
    rw [e1, e2, e3]
def asN (g : Addr → Option Obj) (names : List Str) : List Addr := names.filterMap fun x => match PySem.W.nsIn (frG g [mainGlobals]) mainGlobals x with
  | some (some (.ref a)) => some a
  | _ => none
/-- what a function, a class, a table, a property names: a code object's own things are not looked at -/
def refsS (o : Obj) : List Addr := match o.data with
  | .seq its _ => its.toList.flatMap refV
  | .dict es _ => es.toList.flatMap fun e => refV e.val
  | .func fd => refV fd.code
  | .cls cd => cd.ns :: cd.mro.flatMap refV
  | .fields vs => (match o.cls with
    | .type c => (match decide (c = "property") with
      | true => vs.toList.flatMap refV
      | false => [])
    | _ => [])
  | _ => []
def newS (g : Addr → Option Obj) (as : List Addr) : List Addr := as.flatMap fun a => match g a with
  | some o => refsS o
  | none => []
/-- what is new at each step alone goes on -/
def grN (g : Addr → Option Obj) : Nat → List Addr → List Addr
  | 0, as => as
  | n + 1, as => as ++ grN g n (newS g as)
def frK (names : List Str) (n : Nat) (g : Addr → Option Obj) : PySem.W.Frag := frG g (mainGlobals :: cStatics :: grN g n (asN g names))
/-- a def of the text: its function's address as the written part tells it, what it must hold -/
structure FnA where
  ad : PySem.W.Frag → Addr
  name : Str
  qual : Str
  params : Arguments
  body : List Stmt
  scope : Scope
def FnSaid (K : PySem.W.Frag) (d : FnA) : Prop := ∃ oc od osl kV doc pm an cdv ct, K.lookup (d.ad K) = some ⟨oc, od, .func (PySem.W.fnOf d.name d.qual d.params d.body d.scope .none kV doc pm an cdv ct), osl⟩ ∧ PySem.W.codeIn K cdv d.qual = true
abbrev FnT : Type := Str × Str × Arguments × FuncBody × Scope × Addr × List (Str × Addr) × Value × Addr × Bool
def seenA (K : PySem.W.Frag) (d : FnA) : Option FnT := (K.lookup (d.ad K)).bind fun o => match o.data with
  | .func u => some (u.name, u.qualname, u.params, u.body, u.scope, u.globals, u.closure, u.defaults, u.builtins, PySem.W.codeIn K u.code d.qual)
  | _ => none
def wishA (d : FnA) : Option FnT := some (d.name, d.qual, d.params, .stmts d.body, d.scope, mainGlobals, [], .none, builtinsNs, true)
theorem seenA_ok {K : PySem.W.Frag} {d : FnA} (e : seenA K d = wishA d) : FnSaid K d := by
  obtain ⟨o, ho, e2⟩ := Option.bind_eq_some_iff.mp e
  obtain ⟨oc, od, dt, osl⟩ := o
  cases dt with
  | func u =>
    obtain ⟨u1, u2, u3, u4, u5, u6, u7, u8, u9, u10, u11, u12, u13, u14, u15⟩ := u
    have e3 := Option.some.inj e2
    simp only [Prod.mk.injEq] at e3
    obtain ⟨h1, h2, h3, h4, h5, h6, h7, h8, h9, h10⟩ := e3
    subst h1 h2 h3 h4 h5 h6 h7 h8 h9
    exact ⟨oc, od, osl, u9, u10, u11, u12, u13, u14, ho, h10⟩
  | _ => cases e2
abbrev AlF : Type := Bool × List (Option FnT)
def obsF (names : List Str) (n : Nat) (fn : List FnA) (ex : PySem.W.Frag → List Bool) (g : Addr → Option Obj) : AlF := ((ex (frK names n g)).all (fun b => b), fn.map (seenA (frK names n g)))
def valF (fn : List FnA) : AlF := (true, fn.map wishA)
theorem said_of {names : List Str} {n : Nat} {fn : List FnA} {ex : PySem.W.Frag → List Bool} {g : Addr → Option Obj} (e : obsF names n fn ex g = valF fn) : (ex (frK names n g)).all (fun b => b) = true ∧ ∀ (i : Nat) (d : FnA), fn[i]? = some d → FnSaid (frK names n g) d := by
  refine ⟨congrArg (fun z : AlF => z.1) e, fun i d h => ?_⟩
  have e3 : fn.map (seenA (frK names n g)) = fn.map wishA := congrArg (fun z : AlF => z.2) e
  have e2 : (fn.map (seenA (frK names n g)))[i]? = (fn.map wishA)[i]? := by rw [e3]
  rw [List.getElem?_map, List.getElem?_map, h] at e2
  exact seenA_ok (Option.some.inj e2)
def hookF (names : List Str) (n : Nat) (fn : List FnA) (ex : PySem.W.Frag → List Bool) : PySem.W.Hook where
  α := AlF
  obs := fun s => obsF names n fn ex s.heap.get?
  val := fun _ => valF fn
  says := fun _ h => ∃ K : PySem.W.Frag, K.In h ∧ (ex K).all (fun b => b) = true ∧ ∀ (i : Nat) (d : FnA), fn[i]? = some d → FnSaid K d
  of := fun _ _ e => ⟨_, frG_in, said_of e⟩
  keeps := fun _ _ _ ⟨K, hK, c⟩ k => ⟨K, PySem.W.Frag.In.keeps hK k, c⟩
theorem row_ok {l : List Bool} (h : l.all (fun b => b) = true) (i : Nat) {b : Bool} (e : l[i]? = some b) : b = true := List.all_eq_true.mp h b (List.mem_of_getElem? e)
theorem int_k {K : PySem.W.Frag} {x : Str} {i : Int} (c : (Fa.int x i).ok K = true) : ∃ t, PySem.W.nsIn K mainGlobals x = some (some (.int i t)) := by
  have c2 : (match PySem.W.nsIn K mainGlobals x with
    | some (some (.int j _)) => decide (j = i)
    | _ => false) = true := c
  cases e : PySem.W.nsIn K mainGlobals x with
  | none => rw [e] at c2; cases c2
  | some o =>
    rw [e] at c2
    cases o with
    | none => cases c2
    | some v =>
      cases v with
      | int j t =>
        have ej : j = i := of_decide_eq_true c2
        rw [ej]
        exact ⟨t, rfl⟩
      | _ => cases c2
theorem str_k {K : PySem.W.Frag} {x z : Str} (c : (Fa.str x z).ok K = true) : ∃ t, PySem.W.nsIn K mainGlobals x = some (some (.str z t)) := by
  have c2 : (match PySem.W.nsIn K mainGlobals x with
    | some (some (.str y _)) => decide (y = z)
    | _ => false) = true := c
  cases e : PySem.W.nsIn K mainGlobals x with
  | none => rw [e] at c2; cases c2
  | some o =>
    rw [e] at c2
    cases o with
    | none => cases c2
    | some v =>
      cases v with
      | str y t =>
        have ej : y = z := of_decide_eq_true c2
        rw [ej]
        exact ⟨t, rfl⟩
      | _ => cases c2
/-- the getter's function of a property, the base behind an exception's class -/
def pgA (K : PySem.W.Frag) (C p : Str) : Addr := match PySem.W.recIn K (ma K (ga K C) p) "property" with
  | some (.ref a :: _) => a
  | _ => 0
def pgB (K : PySem.W.Frag) (C p : Str) : Bool := match PySem.W.recIn K (ma K (ga K C) p) "property" with
  | some (.ref _ :: _) => true
  | _ => false
theorem pgB_ok {K : PySem.W.Frag} {C p : Str} (h : pgB K C p = true) : ∃ rest, PySem.W.recIn K (ma K (ga K C) p) "property" = some (.ref (pgA K C p) :: rest) := by
  unfold pgB at h
  unfold pgA
  cases e : PySem.W.recIn K (ma K (ga K C) p) "property" with
  | none => rw [e] at h; cases h
  | some l =>
    cases l with
    | nil => rw [e] at h; cases h
    | cons v r =>
      cases v with
      | ref a => exact ⟨r, rfl⟩
      | _ => rw [e] at h; cases h
def fvB (K : PySem.W.Frag) (C : Addr) : Bool := match PySem.W.findCls K (.ref C) (.type "type") "__init__" with
  | some (.val (.builtin b)) => decide (b = "ValueError.__init__")
  | _ => false
theorem fvB_ok {K : PySem.W.Frag} {C : Addr} (h : fvB K C = true) : PySem.W.findCls K (.ref C) (.type "type") "__init__" = some (.val (.builtin "ValueError.__init__")) := by
  unfold fvB at h
  split at h
  · rename_i b e
    rw [e, of_decide_eq_true h]
  · cases h
def exclB (K : PySem.W.Frag) (C : Addr) : Bool := match K.lookup C with
  | some ⟨.type t, _, .cls cd, sl⟩ => (match cd.mro, sl.toList with
    | .ref D :: bm, [_, _, _, _, some (.builtin b), _] => decide (t = "type") && (decide (D = C) && (decide (b = "ValueError.__new__") && (decide (cd.hasDel = false) && (decide (cd.hasDict = true) && PySem.HandSPX.refsVE bm))))
    | _, _ => false)
  | _ => false
theorem exclB_ok {K : PySem.W.Frag} {C : Addr} (h : exclB K C = true) : ∃ nm q N bs bm sn sub ab col dd k0 k1 k2 k3 k5, K.lookup C = some (excClassObj nm q C N bs bm true sn sub ab col dd k0 k1 k2 k3 k5 "ValueError.__new__") ∧ PySem.HandSPX.refsVE bm = true := by
  unfold exclB at h
  split at h
  · rename_i t dd cd sl ho
    split at h
    · rename_i D bm k0 k1 k2 k3 b k5 hm hs
      obtain ⟨h1, h⟩ := ba h
      obtain ⟨h2, h⟩ := ba h
      obtain ⟨h3, h⟩ := ba h
      obtain ⟨h4, h⟩ := ba h
      obtain ⟨h5, h6⟩ := ba h
      obtain ⟨nm, bs, mro, ns, qn, hd, sn, sub, ab, col, del⟩ := cd
      have q1 := of_decide_eq_true h1
      have q2 := of_decide_eq_true h2
      have q3 := of_decide_eq_true h3
      have q4 : del = false := of_decide_eq_true h4
      have q5 : hd = true := of_decide_eq_true h5
      have q6 : mro = .ref D :: bm := hm
      clear h1 h2 h3 h4 h5 hm
      have hsl : sl = #[k0, k1, k2, k3, some (.builtin b), k5] := by
        obtain ⟨l⟩ := sl
        have hs : l = [k0, k1, k2, k3, some (.builtin b), k5] := hs
        rw [hs]
      clear hs
      subst q1 q2 q3 q4 q5 q6 hsl
      exact ⟨nm, qn, ns, bs, bm, sn, sub, ab, col, dd, k0, k1, k2, k3, k5, ho, h6⟩
    · cases h
  · cases h
def nm_0 : List Str := ["is_whole_number", "is_integer_between", "_is_stand", "_check_stands", "_is_step", "_check_steps", "is_ascending", "_check_ends", "check_machine", "check_number", "_longer", "_numbers", "tallies", "count", "_law_taken", "_law_parts", "_law_machine", "_law_next", "_law_rows", "law", "Machine", "LETTERS"]
def nms : List Str := nm_0
def fd_Machine_init : FnA := ⟨fun K => fAd K ("Machine", some "__init__"), "__init__", "Machine.__init__", defArgs s_Machine_init, defBody s_Machine_init, defScope s_Machine_init⟩
def fd_Machine_stands : FnA := ⟨fun K => pgA K "Machine" "stands", "stands", "Machine.stands", defArgs s_Machine_stands, defBody s_Machine_stands, defScope s_Machine_stands⟩
def fd_Machine_steps : FnA := ⟨fun K => pgA K "Machine" "steps", "steps", "Machine.steps", defArgs s_Machine_steps, defBody s_Machine_steps, defScope s_Machine_steps⟩
def fd_Machine_ends : FnA := ⟨fun K => pgA K "Machine" "ends", "ends", "Machine.ends", defArgs s_Machine_ends, defBody s_Machine_ends, defScope s_Machine_ends⟩
def fd_is_whole_number : FnA := ⟨fun K => fAd K ("is_whole_number", none), "is_whole_number", "is_whole_number", defArgs s_is_whole_number, defBody s_is_whole_number, defScope s_is_whole_number⟩
def fd_is_integer_between : FnA := ⟨fun K => fAd K ("is_integer_between", none), "is_integer_between", "is_integer_between", defArgs s_is_integer_between, defBody s_is_integer_between, defScope s_is_integer_between⟩
def fd_is_stand : FnA := ⟨fun K => fAd K ("_is_stand", none), "_is_stand", "_is_stand", defArgs s_is_stand, defBody s_is_stand, defScope s_is_stand⟩
def fd_check_stands : FnA := ⟨fun K => fAd K ("_check_stands", none), "_check_stands", "_check_stands", defArgs s_check_stands, defBody s_check_stands, defScope s_check_stands⟩
def fd_is_step : FnA := ⟨fun K => fAd K ("_is_step", none), "_is_step", "_is_step", defArgs s_is_step, defBody s_is_step, defScope s_is_step⟩
def fd_check_steps : FnA := ⟨fun K => fAd K ("_check_steps", none), "_check_steps", "_check_steps", defArgs s_check_steps, defBody s_check_steps, defScope s_check_steps⟩
def fd_is_ascending : FnA := ⟨fun K => fAd K ("is_ascending", none), "is_ascending", "is_ascending", defArgs s_is_ascending, defBody s_is_ascending, defScope s_is_ascending⟩
def fd_check_ends : FnA := ⟨fun K => fAd K ("_check_ends", none), "_check_ends", "_check_ends", defArgs s_check_ends, defBody s_check_ends, defScope s_check_ends⟩
def fd_check_machine : FnA := ⟨fun K => fAd K ("check_machine", none), "check_machine", "check_machine", defArgs s_check_machine, defBody s_check_machine, defScope s_check_machine⟩
def fd_check_number : FnA := ⟨fun K => fAd K ("check_number", none), "check_number", "check_number", defArgs s_check_number, defBody s_check_number, defScope s_check_number⟩
def fd_longer : FnA := ⟨fun K => fAd K ("_longer", none), "_longer", "_longer", defArgs s_longer, defBody s_longer, defScope s_longer⟩
def fd_numbers : FnA := ⟨fun K => fAd K ("_numbers", none), "_numbers", "_numbers", defArgs s_numbers, defBody s_numbers, defScope s_numbers⟩
def fd_tallies : FnA := ⟨fun K => fAd K ("tallies", none), "tallies", "tallies", defArgs s_tallies, defBody s_tallies, defScope s_tallies⟩
def fd_count : FnA := ⟨fun K => fAd K ("count", none), "count", "count", defArgs s_count, defBody s_count, defScope s_count⟩
def fd_law_taken : FnA := ⟨fun K => fAd K ("_law_taken", none), "_law_taken", "_law_taken", defArgs s_law_taken, defBody s_law_taken, defScope s_law_taken⟩
def fd_law_parts : FnA := ⟨fun K => fAd K ("_law_parts", none), "_law_parts", "_law_parts", defArgs s_law_parts, defBody s_law_parts, defScope s_law_parts⟩
def fd_law_machine : FnA := ⟨fun K => fAd K ("_law_machine", none), "_law_machine", "_law_machine", defArgs s_law_machine, defBody s_law_machine, defScope s_law_machine⟩
def fd_law_next : FnA := ⟨fun K => fAd K ("_law_next", none), "_law_next", "_law_next", defArgs s_law_next, defBody s_law_next, defScope s_law_next⟩
def fd_law_rows : FnA := ⟨fun K => fAd K ("_law_rows", none), "_law_rows", "_law_rows", defArgs s_law_rows, defBody s_law_rows, defScope s_law_rows⟩
def fd_law : FnA := ⟨fun K => fAd K ("law", none), "law", "law", defArgs s_law, defBody s_law, defScope s_law⟩
def fn_0 : List FnA := [fd_Machine_init, fd_Machine_stands, fd_Machine_steps, fd_Machine_ends, fd_is_whole_number, fd_is_integer_between, fd_is_stand, fd_check_stands, fd_is_step, fd_check_steps, fd_is_ascending, fd_check_ends, fd_check_machine, fd_check_number, fd_longer, fd_numbers, fd_tallies, fd_count, fd_law_taken, fd_law_parts, fd_law_machine, fd_law_next, fd_law_rows, fd_law]
def fns : List FnA := fn_0
def ex_0 (K : PySem.W.Frag) : List Bool := [
    decide (PySem.W.nsIn K mainGlobals "is_whole_number" = some (some (.ref (fAd K ("is_whole_number", none))))),
    decide (PySem.W.nsIn K mainGlobals "is_integer_between" = some (some (.ref (fAd K ("is_integer_between", none))))),
    decide (PySem.W.nsIn K mainGlobals "_is_stand" = some (some (.ref (fAd K ("_is_stand", none))))),
    decide (PySem.W.nsIn K mainGlobals "_check_stands" = some (some (.ref (fAd K ("_check_stands", none))))),
    decide (PySem.W.nsIn K mainGlobals "_is_step" = some (some (.ref (fAd K ("_is_step", none))))),
    decide (PySem.W.nsIn K mainGlobals "_check_steps" = some (some (.ref (fAd K ("_check_steps", none))))),
    decide (PySem.W.nsIn K mainGlobals "is_ascending" = some (some (.ref (fAd K ("is_ascending", none))))),
    decide (PySem.W.nsIn K mainGlobals "_check_ends" = some (some (.ref (fAd K ("_check_ends", none))))),
    decide (PySem.W.nsIn K mainGlobals "check_machine" = some (some (.ref (fAd K ("check_machine", none))))),
    decide (PySem.W.nsIn K mainGlobals "check_number" = some (some (.ref (fAd K ("check_number", none))))),
    decide (PySem.W.nsIn K mainGlobals "_longer" = some (some (.ref (fAd K ("_longer", none))))),
    decide (PySem.W.nsIn K mainGlobals "_numbers" = some (some (.ref (fAd K ("_numbers", none))))),
    decide (PySem.W.nsIn K mainGlobals "tallies" = some (some (.ref (fAd K ("tallies", none))))),
    decide (PySem.W.nsIn K mainGlobals "count" = some (some (.ref (fAd K ("count", none))))),
    decide (PySem.W.nsIn K mainGlobals "_law_taken" = some (some (.ref (fAd K ("_law_taken", none))))),
    decide (PySem.W.nsIn K mainGlobals "_law_parts" = some (some (.ref (fAd K ("_law_parts", none))))),
    decide (PySem.W.nsIn K mainGlobals "_law_machine" = some (some (.ref (fAd K ("_law_machine", none))))),
    decide (PySem.W.nsIn K mainGlobals "_law_next" = some (some (.ref (fAd K ("_law_next", none))))),
    decide (PySem.W.nsIn K mainGlobals "_law_rows" = some (some (.ref (fAd K ("_law_rows", none))))),
    decide (PySem.W.nsIn K mainGlobals "law" = some (some (.ref (fAd K ("law", none))))),
    decide (PySem.W.nsIn K mainGlobals "Machine" = some (some (.ref (ga K "Machine")))),
    (Fa.int "MOST_STANDS" (8)).ok K,
    (Fa.int "MOST_GAIN" (1000000000000000000000000000000)).ok K,
    decide (PySem.W.nsIn K mainGlobals "LETTERS" = some (some (.ref (ga K "LETTERS")))),
    (Fa.int "MOST_NUMBER" (10000000000000000000000000000000000000000)).ok K]
def ex_1 (K : PySem.W.Frag) : List Bool := [
    (Fa.int "MOST_LENGTH" (12)).ok K,
    decide (PySem.W.nsIn K mainGlobals "bool" = some none),
    decide (PySem.W.nsIn K mainGlobals "enumerate" = some none),
    decide (PySem.W.nsIn K mainGlobals "int" = some none),
    decide (PySem.W.nsIn K mainGlobals "isinstance" = some none),
    decide (PySem.W.nsIn K mainGlobals "len" = some none),
    decide (PySem.W.nsIn K mainGlobals "list" = some none),
    decide (PySem.W.nsIn K mainGlobals "max" = some none),
    decide (PySem.W.nsIn K mainGlobals "min" = some none),
    decide (PySem.W.nsIn K mainGlobals "range" = some none),
    decide (PySem.W.nsIn K mainGlobals "set" = some none),
    decide (PySem.W.nsIn K mainGlobals "sorted" = some none),
    decide (PySem.W.nsIn K mainGlobals "str" = some none),
    decide (PySem.W.nsIn K mainGlobals "sum" = some none),
    decide (PySem.W.nsIn K mainGlobals "tuple" = some none),
    decide (PySem.W.keepIn K (.ref (fAd K ("Machine", some "__init__"))) = true),
    decide (PySem.W.keepIn K (.ref (pgA K "Machine" "stands")) = true),
    decide (PySem.W.keepIn K (.ref (pgA K "Machine" "steps")) = true),
    decide (PySem.W.keepIn K (.ref (pgA K "Machine" "ends")) = true),
    decide (PySem.W.keepIn K (.ref (fAd K ("is_whole_number", none))) = true),
    decide (PySem.W.keepIn K (.ref (fAd K ("is_integer_between", none))) = true),
    decide (PySem.W.keepIn K (.ref (fAd K ("_is_stand", none))) = true),
    decide (PySem.W.keepIn K (.ref (fAd K ("_check_stands", none))) = true),
    decide (PySem.W.keepIn K (.ref (fAd K ("_is_step", none))) = true),
    decide (PySem.W.keepIn K (.ref (fAd K ("_check_steps", none))) = true)]
def ex_2 (K : PySem.W.Frag) : List Bool := [
    decide (PySem.W.keepIn K (.ref (fAd K ("is_ascending", none))) = true),
    decide (PySem.W.keepIn K (.ref (fAd K ("_check_ends", none))) = true),
    decide (PySem.W.keepIn K (.ref (fAd K ("check_machine", none))) = true),
    decide (PySem.W.keepIn K (.ref (fAd K ("check_number", none))) = true),
    decide (PySem.W.keepIn K (.ref (fAd K ("_longer", none))) = true),
    decide (PySem.W.keepIn K (.ref (fAd K ("_numbers", none))) = true),
    decide (PySem.W.keepIn K (.ref (fAd K ("tallies", none))) = true),
    decide (PySem.W.keepIn K (.ref (fAd K ("count", none))) = true),
    decide (PySem.W.keepIn K (.ref (fAd K ("_law_taken", none))) = true),
    decide (PySem.W.keepIn K (.ref (fAd K ("_law_parts", none))) = true),
    decide (PySem.W.keepIn K (.ref (fAd K ("_law_machine", none))) = true),
    decide (PySem.W.keepIn K (.ref (fAd K ("_law_next", none))) = true),
    decide (PySem.W.keepIn K (.ref (fAd K ("_law_rows", none))) = true),
    decide (PySem.W.keepIn K (.ref (fAd K ("law", none))) = true),
    decide (PySem.W.plainGet K (ga K "Machine") Str.empty = true),
    decide (PySem.W.hasDictIn K (ga K "Machine") = true),
    decide (PySem.W.plainOver K (ga K "Machine") = true),
    decide (PySem.W.findIn K (.ref (ga K "Machine")) "__setattr__" = some (some (.builtin "object.__setattr__"))),
    decide (PySem.W.makesIn K (ga K "Machine") = true),
    decide (PySem.W.keepIn K (.ref (ga K "Machine")) = true),
    decide (PySem.W.findIn K (.ref (ga K "Machine")) "__init__" = some (some (.ref (fAd K ("Machine", some "__init__"))))),
    decide (PySem.W.isFn K (.ref (fAd K ("Machine", some "__init__"))) = true),
    decide (PySem.W.findIn K (.ref (ga K "Machine")) "_stands" = some none),
    decide (PySem.W.findIn K (.ref (ga K "Machine")) "_steps" = some none),
    decide (PySem.W.findIn K (.ref (ga K "Machine")) "_ends" = some none)]
def ex_3 (K : PySem.W.Frag) : List Bool := [
    decide (PySem.W.findIn K (.ref (ga K "Machine")) "stands" = some (some (.ref (ma K (ga K "Machine") "stands")))),
    decide (PySem.W.specialIn K (.ref (ma K (ga K "Machine") "stands")) "__get__" = some (some (.builtin "property.__get__"))),
    decide (PySem.W.takesIn K (.ref (ma K (ga K "Machine") "stands")) = some true),
    pgB K "Machine" "stands",
    decide (PySem.W.findIn K (.ref (ga K "Machine")) "steps" = some (some (.ref (ma K (ga K "Machine") "steps")))),
    decide (PySem.W.specialIn K (.ref (ma K (ga K "Machine") "steps")) "__get__" = some (some (.builtin "property.__get__"))),
    decide (PySem.W.takesIn K (.ref (ma K (ga K "Machine") "steps")) = some true),
    pgB K "Machine" "steps",
    decide (PySem.W.findIn K (.ref (ga K "Machine")) "ends" = some (some (.ref (ma K (ga K "Machine") "ends")))),
    decide (PySem.W.specialIn K (.ref (ma K (ga K "Machine") "ends")) "__get__" = some (some (.builtin "property.__get__"))),
    decide (PySem.W.takesIn K (.ref (ma K (ga K "Machine") "ends")) = some true),
    pgB K "Machine" "ends",
    decide (PySem.W.findIn K (.ref (ga K "Machine")) "__class__" = some (some (.builtin "object.__class__"))),
    decide (PySem.W.specialIn K (.builtin "object.__class__") "__get__" = some (some (.builtin "getset_descriptor.__get__"))),
    decide (PySem.W.takesIn K (.builtin "object.__class__") = some true),
    decide (PySem.W.mroIn K (ga K "Machine") (.type "object") = some true),
    tupB K "LETTERS" [.str "a", .str "b", .str "c", .str "d"]]
def exs (K : PySem.W.Frag) : List Bool := [(ex_0 K).all fun b => b, (ex_1 K).all fun b => b, (ex_2 K).all fun b => b, (ex_3 K).all fun b => b]
theorem txt_of {K : PySem.W.Frag} {h : Heap} {mg : Str → Option Value} (X : K.In h) (G : h.Ns mainGlobals mg) (he : (exs K).all (fun b => b) = true) (hf : ∀ (i : Nat) (d : FnA), fns[i]? = some d → FnSaid K d) : Nonempty (Txt K mg) := by
  have e0 := row_ok he 0 (b := (ex_0 K).all fun b => b) rfl
  have e1 := row_ok he 1 (b := (ex_1 K).all fun b => b) rfl
  have e2 := row_ok he 2 (b := (ex_2 K).all fun b => b) rfl
  have e3 := row_ok he 3 (b := (ex_3 K).all fun b => b) rfl
  obtain ⟨oc_Machine_init, od_Machine_init, sl_Machine_init, kV_Machine_init, dc_Machine_init, pm_Machine_init, an_Machine_init, cd_Machine_init, ct_Machine_init, l_Machine_init, c_Machine_init⟩ := hf 0 fd_Machine_init rfl
  obtain ⟨oc_Machine_stands, od_Machine_stands, sl_Machine_stands, kV_Machine_stands, dc_Machine_stands, pm_Machine_stands, an_Machine_stands, cd_Machine_stands, ct_Machine_stands, l_Machine_stands, c_Machine_stands⟩ := hf 1 fd_Machine_stands rfl
  obtain ⟨oc_Machine_steps, od_Machine_steps, sl_Machine_steps, kV_Machine_steps, dc_Machine_steps, pm_Machine_steps, an_Machine_steps, cd_Machine_steps, ct_Machine_steps, l_Machine_steps, c_Machine_steps⟩ := hf 2 fd_Machine_steps rfl
  obtain ⟨oc_Machine_ends, od_Machine_ends, sl_Machine_ends, kV_Machine_ends, dc_Machine_ends, pm_Machine_ends, an_Machine_ends, cd_Machine_ends, ct_Machine_ends, l_Machine_ends, c_Machine_ends⟩ := hf 3 fd_Machine_ends rfl
  obtain ⟨oc_is_whole_number, od_is_whole_number, sl_is_whole_number, kV_is_whole_number, dc_is_whole_number, pm_is_whole_number, an_is_whole_number, cd_is_whole_number, ct_is_whole_number, l_is_whole_number, c_is_whole_number⟩ := hf 4 fd_is_whole_number rfl
  obtain ⟨oc_is_integer_between, od_is_integer_between, sl_is_integer_between, kV_is_integer_between, dc_is_integer_between, pm_is_integer_between, an_is_integer_between, cd_is_integer_between, ct_is_integer_between, l_is_integer_between, c_is_integer_between⟩ := hf 5 fd_is_integer_between rfl
  obtain ⟨oc_is_stand, od_is_stand, sl_is_stand, kV_is_stand, dc_is_stand, pm_is_stand, an_is_stand, cd_is_stand, ct_is_stand, l_is_stand, c_is_stand⟩ := hf 6 fd_is_stand rfl
  obtain ⟨oc_check_stands, od_check_stands, sl_check_stands, kV_check_stands, dc_check_stands, pm_check_stands, an_check_stands, cd_check_stands, ct_check_stands, l_check_stands, c_check_stands⟩ := hf 7 fd_check_stands rfl
  obtain ⟨oc_is_step, od_is_step, sl_is_step, kV_is_step, dc_is_step, pm_is_step, an_is_step, cd_is_step, ct_is_step, l_is_step, c_is_step⟩ := hf 8 fd_is_step rfl
  obtain ⟨oc_check_steps, od_check_steps, sl_check_steps, kV_check_steps, dc_check_steps, pm_check_steps, an_check_steps, cd_check_steps, ct_check_steps, l_check_steps, c_check_steps⟩ := hf 9 fd_check_steps rfl
  obtain ⟨oc_is_ascending, od_is_ascending, sl_is_ascending, kV_is_ascending, dc_is_ascending, pm_is_ascending, an_is_ascending, cd_is_ascending, ct_is_ascending, l_is_ascending, c_is_ascending⟩ := hf 10 fd_is_ascending rfl
  obtain ⟨oc_check_ends, od_check_ends, sl_check_ends, kV_check_ends, dc_check_ends, pm_check_ends, an_check_ends, cd_check_ends, ct_check_ends, l_check_ends, c_check_ends⟩ := hf 11 fd_check_ends rfl
  obtain ⟨oc_check_machine, od_check_machine, sl_check_machine, kV_check_machine, dc_check_machine, pm_check_machine, an_check_machine, cd_check_machine, ct_check_machine, l_check_machine, c_check_machine⟩ := hf 12 fd_check_machine rfl
  obtain ⟨oc_check_number, od_check_number, sl_check_number, kV_check_number, dc_check_number, pm_check_number, an_check_number, cd_check_number, ct_check_number, l_check_number, c_check_number⟩ := hf 13 fd_check_number rfl
  obtain ⟨oc_longer, od_longer, sl_longer, kV_longer, dc_longer, pm_longer, an_longer, cd_longer, ct_longer, l_longer, c_longer⟩ := hf 14 fd_longer rfl
  obtain ⟨oc_numbers, od_numbers, sl_numbers, kV_numbers, dc_numbers, pm_numbers, an_numbers, cd_numbers, ct_numbers, l_numbers, c_numbers⟩ := hf 15 fd_numbers rfl
  obtain ⟨oc_tallies, od_tallies, sl_tallies, kV_tallies, dc_tallies, pm_tallies, an_tallies, cd_tallies, ct_tallies, l_tallies, c_tallies⟩ := hf 16 fd_tallies rfl
  obtain ⟨oc_count, od_count, sl_count, kV_count, dc_count, pm_count, an_count, cd_count, ct_count, l_count, c_count⟩ := hf 17 fd_count rfl
  obtain ⟨oc_law_taken, od_law_taken, sl_law_taken, kV_law_taken, dc_law_taken, pm_law_taken, an_law_taken, cd_law_taken, ct_law_taken, l_law_taken, c_law_taken⟩ := hf 18 fd_law_taken rfl
  obtain ⟨oc_law_parts, od_law_parts, sl_law_parts, kV_law_parts, dc_law_parts, pm_law_parts, an_law_parts, cd_law_parts, ct_law_parts, l_law_parts, c_law_parts⟩ := hf 19 fd_law_parts rfl
  obtain ⟨oc_law_machine, od_law_machine, sl_law_machine, kV_law_machine, dc_law_machine, pm_law_machine, an_law_machine, cd_law_machine, ct_law_machine, l_law_machine, c_law_machine⟩ := hf 20 fd_law_machine rfl
  obtain ⟨oc_law_next, od_law_next, sl_law_next, kV_law_next, dc_law_next, pm_law_next, an_law_next, cd_law_next, ct_law_next, l_law_next, c_law_next⟩ := hf 21 fd_law_next rfl
  obtain ⟨oc_law_rows, od_law_rows, sl_law_rows, kV_law_rows, dc_law_rows, pm_law_rows, an_law_rows, cd_law_rows, ct_law_rows, l_law_rows, c_law_rows⟩ := hf 22 fd_law_rows rfl
  obtain ⟨oc_law, od_law, sl_law, kV_law, dc_law, pm_law, an_law, cd_law, ct_law, l_law, c_law⟩ := hf 23 fd_law rfl
  obtain ⟨t_MOST_STANDS, g_MOST_STANDS⟩ := int_k (row_ok e0 21 (b := (Fa.int "MOST_STANDS" (8)).ok K) rfl)
  obtain ⟨t_MOST_GAIN, g_MOST_GAIN⟩ := int_k (row_ok e0 22 (b := (Fa.int "MOST_GAIN" (1000000000000000000000000000000)).ok K) rfl)
  obtain ⟨t_MOST_NUMBER, g_MOST_NUMBER⟩ := int_k (row_ok e0 24 (b := (Fa.int "MOST_NUMBER" (10000000000000000000000000000000000000000)).ok K) rfl)
  obtain ⟨t_MOST_LENGTH, g_MOST_LENGTH⟩ := int_k (row_ok e1 0 (b := (Fa.int "MOST_LENGTH" (12)).ok K) rfl)
  obtain ⟨rest_stands, pr_stands⟩ := pgB_ok (row_ok e3 3 (b := pgB K "Machine" "stands") rfl)
  obtain ⟨rest_steps, pr_steps⟩ := pgB_ok (row_ok e3 7 (b := pgB K "Machine" "steps") rfl)
  obtain ⟨rest_ends, pr_ends⟩ := pgB_ok (row_ok e3 11 (b := pgB K "Machine" "ends") rfl)
  exact ⟨txt_mk X G
    (of_decide_eq_true (row_ok e0 0 (b := decide (PySem.W.nsIn K mainGlobals "is_whole_number" = some (some (.ref (fAd K ("is_whole_number", none)))))) rfl))
    (of_decide_eq_true (row_ok e0 1 (b := decide (PySem.W.nsIn K mainGlobals "is_integer_between" = some (some (.ref (fAd K ("is_integer_between", none)))))) rfl))
    (of_decide_eq_true (row_ok e0 2 (b := decide (PySem.W.nsIn K mainGlobals "_is_stand" = some (some (.ref (fAd K ("_is_stand", none)))))) rfl))
    (of_decide_eq_true (row_ok e0 3 (b := decide (PySem.W.nsIn K mainGlobals "_check_stands" = some (some (.ref (fAd K ("_check_stands", none)))))) rfl))
    (of_decide_eq_true (row_ok e0 4 (b := decide (PySem.W.nsIn K mainGlobals "_is_step" = some (some (.ref (fAd K ("_is_step", none)))))) rfl))
    (of_decide_eq_true (row_ok e0 5 (b := decide (PySem.W.nsIn K mainGlobals "_check_steps" = some (some (.ref (fAd K ("_check_steps", none)))))) rfl))
    (of_decide_eq_true (row_ok e0 6 (b := decide (PySem.W.nsIn K mainGlobals "is_ascending" = some (some (.ref (fAd K ("is_ascending", none)))))) rfl))
    (of_decide_eq_true (row_ok e0 7 (b := decide (PySem.W.nsIn K mainGlobals "_check_ends" = some (some (.ref (fAd K ("_check_ends", none)))))) rfl))
    (of_decide_eq_true (row_ok e0 8 (b := decide (PySem.W.nsIn K mainGlobals "check_machine" = some (some (.ref (fAd K ("check_machine", none)))))) rfl))
    (of_decide_eq_true (row_ok e0 9 (b := decide (PySem.W.nsIn K mainGlobals "check_number" = some (some (.ref (fAd K ("check_number", none)))))) rfl))
    (of_decide_eq_true (row_ok e0 10 (b := decide (PySem.W.nsIn K mainGlobals "_longer" = some (some (.ref (fAd K ("_longer", none)))))) rfl))
    (of_decide_eq_true (row_ok e0 11 (b := decide (PySem.W.nsIn K mainGlobals "_numbers" = some (some (.ref (fAd K ("_numbers", none)))))) rfl))
    (of_decide_eq_true (row_ok e0 12 (b := decide (PySem.W.nsIn K mainGlobals "tallies" = some (some (.ref (fAd K ("tallies", none)))))) rfl))
    (of_decide_eq_true (row_ok e0 13 (b := decide (PySem.W.nsIn K mainGlobals "count" = some (some (.ref (fAd K ("count", none)))))) rfl))
    (of_decide_eq_true (row_ok e0 14 (b := decide (PySem.W.nsIn K mainGlobals "_law_taken" = some (some (.ref (fAd K ("_law_taken", none)))))) rfl))
    (of_decide_eq_true (row_ok e0 15 (b := decide (PySem.W.nsIn K mainGlobals "_law_parts" = some (some (.ref (fAd K ("_law_parts", none)))))) rfl))
    (of_decide_eq_true (row_ok e0 16 (b := decide (PySem.W.nsIn K mainGlobals "_law_machine" = some (some (.ref (fAd K ("_law_machine", none)))))) rfl))
    (of_decide_eq_true (row_ok e0 17 (b := decide (PySem.W.nsIn K mainGlobals "_law_next" = some (some (.ref (fAd K ("_law_next", none)))))) rfl))
    (of_decide_eq_true (row_ok e0 18 (b := decide (PySem.W.nsIn K mainGlobals "_law_rows" = some (some (.ref (fAd K ("_law_rows", none)))))) rfl))
    (of_decide_eq_true (row_ok e0 19 (b := decide (PySem.W.nsIn K mainGlobals "law" = some (some (.ref (fAd K ("law", none)))))) rfl))
    (of_decide_eq_true (row_ok e0 20 (b := decide (PySem.W.nsIn K mainGlobals "Machine" = some (some (.ref (ga K "Machine"))))) rfl))
    g_MOST_STANDS
    g_MOST_GAIN
    (of_decide_eq_true (row_ok e0 23 (b := decide (PySem.W.nsIn K mainGlobals "LETTERS" = some (some (.ref (ga K "LETTERS"))))) rfl))
    g_MOST_NUMBER
    g_MOST_LENGTH
    (of_decide_eq_true (row_ok e1 1 (b := decide (PySem.W.nsIn K mainGlobals "bool" = some none)) rfl))
    (of_decide_eq_true (row_ok e1 2 (b := decide (PySem.W.nsIn K mainGlobals "enumerate" = some none)) rfl))
    (of_decide_eq_true (row_ok e1 3 (b := decide (PySem.W.nsIn K mainGlobals "int" = some none)) rfl))
    (of_decide_eq_true (row_ok e1 4 (b := decide (PySem.W.nsIn K mainGlobals "isinstance" = some none)) rfl))
    (of_decide_eq_true (row_ok e1 5 (b := decide (PySem.W.nsIn K mainGlobals "len" = some none)) rfl))
    (of_decide_eq_true (row_ok e1 6 (b := decide (PySem.W.nsIn K mainGlobals "list" = some none)) rfl))
    (of_decide_eq_true (row_ok e1 7 (b := decide (PySem.W.nsIn K mainGlobals "max" = some none)) rfl))
    (of_decide_eq_true (row_ok e1 8 (b := decide (PySem.W.nsIn K mainGlobals "min" = some none)) rfl))
    (of_decide_eq_true (row_ok e1 9 (b := decide (PySem.W.nsIn K mainGlobals "range" = some none)) rfl))
    (of_decide_eq_true (row_ok e1 10 (b := decide (PySem.W.nsIn K mainGlobals "set" = some none)) rfl))
    (of_decide_eq_true (row_ok e1 11 (b := decide (PySem.W.nsIn K mainGlobals "sorted" = some none)) rfl))
    (of_decide_eq_true (row_ok e1 12 (b := decide (PySem.W.nsIn K mainGlobals "str" = some none)) rfl))
    (of_decide_eq_true (row_ok e1 13 (b := decide (PySem.W.nsIn K mainGlobals "sum" = some none)) rfl))
    (of_decide_eq_true (row_ok e1 14 (b := decide (PySem.W.nsIn K mainGlobals "tuple" = some none)) rfl))
    l_Machine_init
    c_Machine_init
    (of_decide_eq_true (row_ok e1 15 (b := decide (PySem.W.keepIn K (.ref (fAd K ("Machine", some "__init__"))) = true)) rfl))
    l_Machine_stands
    c_Machine_stands
    (of_decide_eq_true (row_ok e1 16 (b := decide (PySem.W.keepIn K (.ref (pgA K "Machine" "stands")) = true)) rfl))
    l_Machine_steps
    c_Machine_steps
    (of_decide_eq_true (row_ok e1 17 (b := decide (PySem.W.keepIn K (.ref (pgA K "Machine" "steps")) = true)) rfl))
    l_Machine_ends
    c_Machine_ends
    (of_decide_eq_true (row_ok e1 18 (b := decide (PySem.W.keepIn K (.ref (pgA K "Machine" "ends")) = true)) rfl))
    l_is_whole_number
    c_is_whole_number
    (of_decide_eq_true (row_ok e1 19 (b := decide (PySem.W.keepIn K (.ref (fAd K ("is_whole_number", none))) = true)) rfl))
    l_is_integer_between
    c_is_integer_between
    (of_decide_eq_true (row_ok e1 20 (b := decide (PySem.W.keepIn K (.ref (fAd K ("is_integer_between", none))) = true)) rfl))
    l_is_stand
    c_is_stand
    (of_decide_eq_true (row_ok e1 21 (b := decide (PySem.W.keepIn K (.ref (fAd K ("_is_stand", none))) = true)) rfl))
    l_check_stands
    c_check_stands
    (of_decide_eq_true (row_ok e1 22 (b := decide (PySem.W.keepIn K (.ref (fAd K ("_check_stands", none))) = true)) rfl))
    l_is_step
    c_is_step
    (of_decide_eq_true (row_ok e1 23 (b := decide (PySem.W.keepIn K (.ref (fAd K ("_is_step", none))) = true)) rfl))
    l_check_steps
    c_check_steps
    (of_decide_eq_true (row_ok e1 24 (b := decide (PySem.W.keepIn K (.ref (fAd K ("_check_steps", none))) = true)) rfl))
    l_is_ascending
    c_is_ascending
    (of_decide_eq_true (row_ok e2 0 (b := decide (PySem.W.keepIn K (.ref (fAd K ("is_ascending", none))) = true)) rfl))
    l_check_ends
    c_check_ends
    (of_decide_eq_true (row_ok e2 1 (b := decide (PySem.W.keepIn K (.ref (fAd K ("_check_ends", none))) = true)) rfl))
    l_check_machine
    c_check_machine
    (of_decide_eq_true (row_ok e2 2 (b := decide (PySem.W.keepIn K (.ref (fAd K ("check_machine", none))) = true)) rfl))
    l_check_number
    c_check_number
    (of_decide_eq_true (row_ok e2 3 (b := decide (PySem.W.keepIn K (.ref (fAd K ("check_number", none))) = true)) rfl))
    l_longer
    c_longer
    (of_decide_eq_true (row_ok e2 4 (b := decide (PySem.W.keepIn K (.ref (fAd K ("_longer", none))) = true)) rfl))
    l_numbers
    c_numbers
    (of_decide_eq_true (row_ok e2 5 (b := decide (PySem.W.keepIn K (.ref (fAd K ("_numbers", none))) = true)) rfl))
    l_tallies
    c_tallies
    (of_decide_eq_true (row_ok e2 6 (b := decide (PySem.W.keepIn K (.ref (fAd K ("tallies", none))) = true)) rfl))
    l_count
    c_count
    (of_decide_eq_true (row_ok e2 7 (b := decide (PySem.W.keepIn K (.ref (fAd K ("count", none))) = true)) rfl))
    l_law_taken
    c_law_taken
    (of_decide_eq_true (row_ok e2 8 (b := decide (PySem.W.keepIn K (.ref (fAd K ("_law_taken", none))) = true)) rfl))
    l_law_parts
    c_law_parts
    (of_decide_eq_true (row_ok e2 9 (b := decide (PySem.W.keepIn K (.ref (fAd K ("_law_parts", none))) = true)) rfl))
    l_law_machine
    c_law_machine
    (of_decide_eq_true (row_ok e2 10 (b := decide (PySem.W.keepIn K (.ref (fAd K ("_law_machine", none))) = true)) rfl))
    l_law_next
    c_law_next
    (of_decide_eq_true (row_ok e2 11 (b := decide (PySem.W.keepIn K (.ref (fAd K ("_law_next", none))) = true)) rfl))
    l_law_rows
    c_law_rows
    (of_decide_eq_true (row_ok e2 12 (b := decide (PySem.W.keepIn K (.ref (fAd K ("_law_rows", none))) = true)) rfl))
    l_law
    c_law
    (of_decide_eq_true (row_ok e2 13 (b := decide (PySem.W.keepIn K (.ref (fAd K ("law", none))) = true)) rfl))
    (of_decide_eq_true (row_ok e2 14 (b := decide (PySem.W.plainGet K (ga K "Machine") Str.empty = true)) rfl))
    (of_decide_eq_true (row_ok e2 15 (b := decide (PySem.W.hasDictIn K (ga K "Machine") = true)) rfl))
    (of_decide_eq_true (row_ok e2 16 (b := decide (PySem.W.plainOver K (ga K "Machine") = true)) rfl))
    (of_decide_eq_true (row_ok e2 17 (b := decide (PySem.W.findIn K (.ref (ga K "Machine")) "__setattr__" = some (some (.builtin "object.__setattr__")))) rfl))
    (of_decide_eq_true (row_ok e2 18 (b := decide (PySem.W.makesIn K (ga K "Machine") = true)) rfl))
    (of_decide_eq_true (row_ok e2 19 (b := decide (PySem.W.keepIn K (.ref (ga K "Machine")) = true)) rfl))
    (of_decide_eq_true (row_ok e2 20 (b := decide (PySem.W.findIn K (.ref (ga K "Machine")) "__init__" = some (some (.ref (fAd K ("Machine", some "__init__")))))) rfl))
    (of_decide_eq_true (row_ok e2 21 (b := decide (PySem.W.isFn K (.ref (fAd K ("Machine", some "__init__"))) = true)) rfl))
    (of_decide_eq_true (row_ok e2 22 (b := decide (PySem.W.findIn K (.ref (ga K "Machine")) "_stands" = some none)) rfl))
    (of_decide_eq_true (row_ok e2 23 (b := decide (PySem.W.findIn K (.ref (ga K "Machine")) "_steps" = some none)) rfl))
    (of_decide_eq_true (row_ok e2 24 (b := decide (PySem.W.findIn K (.ref (ga K "Machine")) "_ends" = some none)) rfl))
    (of_decide_eq_true (row_ok e3 0 (b := decide (PySem.W.findIn K (.ref (ga K "Machine")) "stands" = some (some (.ref (ma K (ga K "Machine") "stands"))))) rfl))
    (of_decide_eq_true (row_ok e3 1 (b := decide (PySem.W.specialIn K (.ref (ma K (ga K "Machine") "stands")) "__get__" = some (some (.builtin "property.__get__")))) rfl))
    (of_decide_eq_true (row_ok e3 2 (b := decide (PySem.W.takesIn K (.ref (ma K (ga K "Machine") "stands")) = some true)) rfl))
    pr_stands
    (of_decide_eq_true (row_ok e3 4 (b := decide (PySem.W.findIn K (.ref (ga K "Machine")) "steps" = some (some (.ref (ma K (ga K "Machine") "steps"))))) rfl))
    (of_decide_eq_true (row_ok e3 5 (b := decide (PySem.W.specialIn K (.ref (ma K (ga K "Machine") "steps")) "__get__" = some (some (.builtin "property.__get__")))) rfl))
    (of_decide_eq_true (row_ok e3 6 (b := decide (PySem.W.takesIn K (.ref (ma K (ga K "Machine") "steps")) = some true)) rfl))
    pr_steps
    (of_decide_eq_true (row_ok e3 8 (b := decide (PySem.W.findIn K (.ref (ga K "Machine")) "ends" = some (some (.ref (ma K (ga K "Machine") "ends"))))) rfl))
    (of_decide_eq_true (row_ok e3 9 (b := decide (PySem.W.specialIn K (.ref (ma K (ga K "Machine") "ends")) "__get__" = some (some (.builtin "property.__get__")))) rfl))
    (of_decide_eq_true (row_ok e3 10 (b := decide (PySem.W.takesIn K (.ref (ma K (ga K "Machine") "ends")) = some true)) rfl))
    pr_ends
    (of_decide_eq_true (row_ok e3 12 (b := decide (PySem.W.findIn K (.ref (ga K "Machine")) "__class__" = some (some (.builtin "object.__class__")))) rfl))
    (of_decide_eq_true (row_ok e3 13 (b := decide (PySem.W.specialIn K (.builtin "object.__class__") "__get__" = some (some (.builtin "getset_descriptor.__get__")))) rfl))
    (of_decide_eq_true (row_ok e3 14 (b := decide (PySem.W.takesIn K (.builtin "object.__class__") = some true)) rfl))
    (of_decide_eq_true (row_ok e3 15 (b := decide (PySem.W.mroIn K (ga K "Machine") (.type "object") = some true)) rfl))
    (fun H => tupB_ok (row_ok e3 16 (b := tupB K "LETTERS" [.str "a", .str "b", .str "c", .str "d"]) rfl) H)⟩
end
/-! ### the run of the top -/
open PySem.W PySem.Calls PyProof.Rows in
abbrev R : PySem.W.OpenRow := PySem.W.OpenLaw.row PySem.Challenge.rw_staytallies_k21_whole_tallies
abbrev qv : Program := PySem.W.view R.prog [35]
def lo_0 : List Str := ["TallyError", "BadStands", "BadSteps", "BadEnds", "BadMachine", "BadNumber", "MOST_STANDS", "MOST_GAIN", "MOST_NUMBER", "LETTERS", "Machine", "is_whole_number", "is_integer_between", "_is_stand", "_check_stands", "_is_step", "_check_steps", "is_ascending", "_check_ends", "check_machine", "check_number", "MOST_LENGTH", "_longer", "_numbers", "tallies", "count", "_law_taken", "_law_parts", "_law_machine", "_law_next"]
def lo_1 : List Str := ["_law_rows"]
def los : List Str := lo_0 ++ lo_1
abbrev hk : PySem.W.Hook := hookF nms 4 fns exs
def ob (s : PySem.W.SharedT) : AlF := obsF nms 4 fns exs (HandSHeadRun.getT s)
theorem ob_eq (s : PySem.W.SharedT) : ob s = hk.obs s.abs := by
  have e : HandSHeadRun.getT s = s.abs.heap.get? := funext (HandSHeadRun.getT_eq s)
  show obsF nms 4 fns exs (HandSHeadRun.getT s) = obsF nms 4 fns exs s.abs.heap.get?
  rw [e]
set_option maxHeartbeats 0 in
theorem run_at1 (w : World) : (HandSHeadRun.wholeF (fun p => HandSHeadRun.stepQ (HandSHeadRun.denQ HandSHeadRun.tabQ) p w) HandSHeadRun.fenceQ 20000 R.prog).map (fun x => HandSHeadRun.looksF R.prog x.1.heap x.2.abs) = some true := by
  kernel_rfl
set_option maxHeartbeats 0 in
theorem run_at2 (w : World) : (HandSHeadRun.wholeF (fun p => HandSHeadRun.stepQ (HandSHeadRun.denQ HandSHeadRun.tabQ) p w) HandSHeadRun.fenceQ 20000 R.prog).map (fun x => HandSHeadRun.seenQ qv los (PySem.importedModules R.prog.main.body) (fun s => PySem.W.xlAt qv [] s && PySem.W.recOk R.toRowW.records s) x.2.abs) = some (PySem.W.openGood qv los) := by
  kernel_rfl
set_option maxHeartbeats 0 in
theorem run_at3 (w : World) : (HandSHeadRun.wholeF (fun p => HandSHeadRun.stepQ (HandSHeadRun.denQ HandSHeadRun.tabQ) p w) HandSHeadRun.fenceQ 20000 R.prog).map (fun x => ob x.2) = some (valF fns) := by
  kernel_rfl
theorem run_at (w : World) : HandSHeadRun.RunEqI R qv hk ob 20000 los w := by
  delta HandSHeadRun.RunEqI
  exact map_join (run_at1 w) (run_at2 w) (run_at3 w)
theorem walkH {l : PySem.W.OpenLaw} {q : Program} {loose : List Str} {XP : (Str → Option Value) → Heap → Prop} {YP : World → Heap → Prop} {d : DefRec} (hn : l.most = some 63) (hdf : d.params.defaults = [])
    (F : ∀ (w : World) (mg : Str → Option Value) (fa : Addr) (h : Heap), YP w h → h.Ns mainGlobals mg → mg d.name = some (.ref fa) → ∃ K : PySem.W.Frag, K.In h ∧
      ∃ fd : FuncData, (∀ (s : Shared) (u : Value), BindsTo s fd ⟨[u], []⟩ [("_law_script", u)]) ∧ ∀ base : Heap, K.In base → base.Ns mainGlobals mg → FnOk l.prog w K mg base (L2.CX l.prog w) 20 fa fd ["_law_script"] (sp_law K)) :
    PySem.W.WalkO q loose XP YP l.row.toRowW d [] (fun f vs => PySem.call f vs) := by
  refine Att.attach_call hn hdf fun w s₀ s₁ mg mb fa o pm cd doc a vs ns G Y ho hd hcd hmg hobj hints hlen hg => ?_
  obtain ⟨K, KX, fd, hb, hF⟩ := F w mg fa _ Y G.T.g hmg
  refine law_call KX G.T.g G.T.b G.T.builtins G.T.nolimit hg hobj hints (Nat.le_trans hlen (by decide)) ⟨rfl, by decide, by decide⟩ hF hb (fun H hO hS => ⟨a, ns, rfl, by
      rcases hS with (e | ⟨o, e⟩) | h
      · rcases hO a with z | ⟨_, _, z⟩
        · rw [e] at z; cases z
        · rw [e] at z; cases z
      · exact .inl ⟨o, e⟩
      · exact .inr fun _ => .inr h, hlen, fun _ => rfl⟩) fun H e s' h => ?_
  obtain ⟨_, _, _, _, _, _, _, _, _, _, _, _, z⟩ := h
  exact z.elim
end Sv
open PySem PySem.W PySem.Calls PyProof.Rows in
set_option maxRecDepth 100000 in
set_option maxHeartbeats 0 in
theorem PySem.Challenge.cw_staytallies_k21_whole_tallies_holds : PySem.Challenge.rw_staytallies_k21_whole_tallies.Holds := by
  w_on; o_law
  refine HandSHeadRun.head_imp (r := Sv.R) (q := Sv.qv) (H := Sv.hk) (ob := Sv.ob) (M := 20000) (loose := Sv.los) (d := HandSHeadRun.topDef Sv.R.prog 35) (kwd := []) Sv.ob_eq Sv.run_at (by kernel_rfl) (by kernel_rfl) (by kernel_rfl) (by rfl) (by first | assumption | decide +kernel) (by decide +kernel) ⟨rfl, rfl, rfl, rfl, rfl, by decide +kernel⟩ ?hw ?hc
  case hw => w_witness2
  case hc =>
    refine Sv.walkH (l := PySem.Challenge.rw_staytallies_k21_whole_tallies) rfl (by kernel_rfl) ?F
    intro w mg fa h Y G hmg
    obtain ⟨K, KX, he, hf⟩ := Y
    have hmg2 : mg "law" = some (.ref fa) := by
      have e : (HandSHeadRun.topDef Sv.R.prog 35).name = ("law" : PySem.Str) := by kernel_rfl
      rw [← e]
      exact hmg
    obtain ⟨T⟩ := Sv.txt_of KX G he hf
    exact ⟨K, KX, Sv.all_mk T hmg2⟩
#print axioms PySem.Challenge.cw_staytallies_k21_whole_tallies_holds
