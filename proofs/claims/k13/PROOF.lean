import PyProof.Rows.All
import Wide.All
import OpenK.AllK
import Wide.FinOn
import HandS.ForMost
import HandS.ForExc
import HandS.Wide
import HandS.Property
import HandS.IsInst
import HandS.TupAny
import HandS.TupLe
import HandS.Style
import HandS.Flow
import HandS.ExcInit
import HandS.ExcField
import HandS.FStr
import HandS.OwnEq
import KE.GoesMore
import HandS.Codes
import HandS.DictComp
import HandS.Walk
import HandS.SortInts
import HandS.TupMul
import HandS.Gcd
import HandS.Head3
import HandS.HeadHook2
import HandS.DictTup
import HandS.Conv
import PySem.Challenge.RW_staytallies_k13_whole_credits
set_option Elab.async false
set_option linter.all false
set_option maxRecDepth 100000
set_option maxHeartbeats 4000000
namespace Sv
open PySem L2
def top (i : Nat) : Stmt := PySem.Challenge.pw_staytallies_k13_whole_credits.main.body.getD i (.Pass ⟨0, 0, 0, 0⟩)
abbrev s_longer_rows : Stmt := (top 7)
abbrev s_Machine_init : Stmt := (inClass (top 12) 0)
abbrev s_Machine_stands : Stmt := (inClass (top 12) 1)
abbrev s_Machine_steps : Stmt := (inClass (top 12) 2)
abbrev s_Machine_ends : Stmt := (inClass (top 12) 3)
abbrev s_is_whole_number : Stmt := (top 13)
abbrev s_is_integer_between : Stmt := (top 14)
abbrev s_is_stand : Stmt := (top 15)
abbrev s_check_stands : Stmt := (top 16)
abbrev s_is_step : Stmt := (top 17)
abbrev s_check_steps : Stmt := (top 18)
abbrev s_is_ascending : Stmt := (top 19)
abbrev s_check_ends : Stmt := (top 20)
abbrev s_check_machine : Stmt := (top 21)
abbrev s_loop_above : Stmt := (top 23)
abbrev s_led_back : Stmt := (top 24)
abbrev s_lasting_ways : Stmt := (top 25)
abbrev s_lasting : Stmt := (top 26)
abbrev s_credit : Stmt := (top 27)
abbrev s_law_taken : Stmt := (top 29)
abbrev s_law_parts : Stmt := (top 30)
abbrev s_law_next : Stmt := (top 31)
abbrev s_law_lives : Stmt := (top 32)
abbrev s_law : Stmt := (top 33)
theorem sc_longer_rows : FnScope ["steps", "sign", "rows", "longer", "begun", "letter", "end", "gain", "tally", "row"] ["steps", "sign", "rows"] (defScope s_longer_rows) := ⟨rfl, rfl, rfl, by decide +kernel, rfl, by decide +kernel, by decide +kernel⟩
theorem sc_Machine_init : FnScope ["self", "stands", "steps", "ends"] ["self", "stands", "steps", "ends"] (defScope s_Machine_init) := ⟨rfl, rfl, rfl, by decide +kernel, rfl, by decide +kernel, by decide +kernel⟩
theorem sc_Machine_stands : FnScope ["self"] ["self"] (defScope s_Machine_stands) := ⟨rfl, rfl, rfl, by decide +kernel, rfl, by decide +kernel, by decide +kernel⟩
theorem sc_Machine_steps : FnScope ["self"] ["self"] (defScope s_Machine_steps) := ⟨rfl, rfl, rfl, by decide +kernel, rfl, by decide +kernel, by decide +kernel⟩
theorem sc_Machine_ends : FnScope ["self"] ["self"] (defScope s_Machine_ends) := ⟨rfl, rfl, rfl, by decide +kernel, rfl, by decide +kernel, by decide +kernel⟩
theorem sc_is_whole_number : FnScope ["value"] ["value"] (defScope s_is_whole_number) := ⟨rfl, rfl, rfl, by decide +kernel, rfl, by decide +kernel, by decide +kernel⟩
theorem sc_is_integer_between : FnScope ["value", "least", "most"] ["value", "least", "most"] (defScope s_is_integer_between) := ⟨rfl, rfl, rfl, by decide +kernel, rfl, by decide +kernel, by decide +kernel⟩
theorem sc_is_stand : FnScope ["stands", "value"] ["stands", "value"] (defScope s_is_stand) := ⟨rfl, rfl, rfl, by decide +kernel, rfl, by decide +kernel, by decide +kernel⟩
theorem sc_check_stands : FnScope ["stands"] ["stands"] (defScope s_check_stands) := ⟨rfl, rfl, rfl, by decide +kernel, rfl, by decide +kernel, by decide +kernel⟩
theorem sc_is_step : FnScope ["stands", "value", "begun", "letter", "end", "gain"] ["stands", "value"] (defScope s_is_step) := ⟨rfl, rfl, rfl, by decide +kernel, rfl, by decide +kernel, by decide +kernel⟩
theorem sc_check_steps : FnScope ["stands", "steps", "index", "step"] ["stands", "steps"] (defScope s_check_steps) := ⟨rfl, rfl, rfl, by decide +kernel, rfl, by decide +kernel, by decide +kernel⟩
theorem sc_is_ascending : FnScope ["value", "many", "least", "number"] ["value", "many"] (defScope s_is_ascending) := ⟨rfl, rfl, rfl, by decide +kernel, rfl, by decide +kernel, by decide +kernel⟩
theorem sc_check_ends : FnScope ["stands", "ends"] ["stands", "ends"] (defScope s_check_ends) := ⟨rfl, rfl, rfl, by decide +kernel, rfl, by decide +kernel, by decide +kernel⟩
theorem sc_check_machine : FnScope ["value"] ["value"] (defScope s_check_machine) := ⟨rfl, rfl, rfl, by decide +kernel, rfl, by decide +kernel, by decide +kernel⟩
theorem sc_loop_above : FnScope ["machine", "stand", "rows", "_", "longer", "end"] ["machine", "stand"] (defScope s_loop_above) := ⟨rfl, rfl, rfl, by decide +kernel, rfl, by decide +kernel, by decide +kernel⟩
theorem sc_led_back : FnScope ["machine", "ways", "better", "begun", "letter", "end", "gain", "need", "lead", "loop", "stand"] ["machine", "ways"] (defScope s_led_back) := ⟨rfl, rfl, rfl, by decide +kernel, rfl, by decide +kernel, by decide +kernel⟩
theorem sc_lasting_ways : FnScope ["machine", "ways", "stand", "loop", "_"] ["machine"] (defScope s_lasting_ways) := ⟨rfl, rfl, rfl, by decide +kernel, rfl, by decide +kernel, by decide +kernel⟩
theorem sc_lasting : FnScope ["machine", "ways"] ["machine"] (defScope s_lasting) := ⟨rfl, rfl, rfl, by decide +kernel, rfl, by decide +kernel, by decide +kernel⟩
theorem sc_credit : FnScope ["machine", "found"] ["machine"] (defScope s_credit) := ⟨rfl, rfl, rfl, by decide +kernel, rfl, by decide +kernel, by decide +kernel⟩
theorem sc_law_taken : FnScope ["_law_row", "_law_many", "_law_found", "_law_cell"] ["_law_row", "_law_many"] (defScope s_law_taken) := ⟨rfl, rfl, rfl, by decide +kernel, rfl, by decide +kernel, by decide +kernel⟩
theorem sc_law_parts : FnScope ["_law_row", "_law_stands", "_law_size", "_law_many", "_law_kind", "_law_heights", "_law_steps", "_law_letters", "_law_begun", "_law_letter", "_law_end", "_law_gain", "_law_ends", "_law_stand"] ["_law_row", "_law_stands", "_law_size"] (defScope s_law_parts) := ⟨rfl, rfl, rfl, by decide +kernel, rfl, by decide +kernel, by decide +kernel⟩
theorem sc_law_next : FnScope ["_law_d", "_law_stand", "_law_begun", "_law_letter", "_law_end", "_law_gain"] ["_law_d", "_law_stand"] (defScope s_law_next) := ⟨rfl, rfl, rfl, by decide +kernel, rfl, by decide +kernel, by decide +kernel⟩
theorem sc_law_lives : FnScope ["_law_d", "_law_most", "_law_alive", "_law_stand", "_law_tally", "_law_changed", "_law_some", "_law_letter", "_law_end", "_law_gain", "_law_place"] ["_law_d", "_law_most"] (defScope s_law_lives) := ⟨rfl, rfl, rfl, by decide +kernel, rfl, by decide +kernel, by decide +kernel⟩
theorem sc_law : FnScope ["_law_script", "_law_row", "_law_most", "_law_d", "_law_by", "_law_alive", "_law_due", "_law_tally", "_law_steps", "_law_machine", "_law_told", "_law_begun", "_law_letter", "_law_end", "_law_gain"] ["_law_script"] (defScope s_law) := ⟨rfl, rfl, rfl, by decide +kernel, rfl, by decide +kernel, by decide +kernel⟩
structure Txt (K : PySem.W.Frag) (mg : Str → Option Value) : Type where
  a_longer_rows : Addr
  fd_longer_rows : FuncData
  F_longer_rows : Fun K "longer_rows" "longer_rows" s_longer_rows a_longer_rows fd_longer_rows
  b_longer_rows : Binds K fd_longer_rows ["steps", "sign", "rows"] []
  k_longer_rows : PySem.W.keepIn K (.ref a_longer_rows) = true
  m_longer_rows : mg "longer_rows" = some (.ref a_longer_rows)
  a_Machine_init : Addr
  fd_Machine_init : FuncData
  F_Machine_init : Fun K "__init__" "Machine.__init__" s_Machine_init a_Machine_init fd_Machine_init
  b_Machine_init : Binds K fd_Machine_init ["self", "stands", "steps", "ends"] []
  k_Machine_init : PySem.W.keepIn K (.ref a_Machine_init) = true
  a_Machine_stands : Addr
  fd_Machine_stands : FuncData
  F_Machine_stands : Fun K "stands" "Machine.stands" s_Machine_stands a_Machine_stands fd_Machine_stands
  b_Machine_stands : Binds K fd_Machine_stands ["self"] []
  k_Machine_stands : PySem.W.keepIn K (.ref a_Machine_stands) = true
  a_Machine_steps : Addr
  fd_Machine_steps : FuncData
  F_Machine_steps : Fun K "steps" "Machine.steps" s_Machine_steps a_Machine_steps fd_Machine_steps
  b_Machine_steps : Binds K fd_Machine_steps ["self"] []
  k_Machine_steps : PySem.W.keepIn K (.ref a_Machine_steps) = true
  a_Machine_ends : Addr
  fd_Machine_ends : FuncData
  F_Machine_ends : Fun K "ends" "Machine.ends" s_Machine_ends a_Machine_ends fd_Machine_ends
  b_Machine_ends : Binds K fd_Machine_ends ["self"] []
  k_Machine_ends : PySem.W.keepIn K (.ref a_Machine_ends) = true
  a_is_whole_number : Addr
  fd_is_whole_number : FuncData
  F_is_whole_number : Fun K "is_whole_number" "is_whole_number" s_is_whole_number a_is_whole_number fd_is_whole_number
  b_is_whole_number : Binds K fd_is_whole_number ["value"] []
  k_is_whole_number : PySem.W.keepIn K (.ref a_is_whole_number) = true
  m_is_whole_number : mg "is_whole_number" = some (.ref a_is_whole_number)
  a_is_integer_between : Addr
  fd_is_integer_between : FuncData
  F_is_integer_between : Fun K "is_integer_between" "is_integer_between" s_is_integer_between a_is_integer_between fd_is_integer_between
  b_is_integer_between : Binds K fd_is_integer_between ["value", "least", "most"] []
  k_is_integer_between : PySem.W.keepIn K (.ref a_is_integer_between) = true
  m_is_integer_between : mg "is_integer_between" = some (.ref a_is_integer_between)
  a_is_stand : Addr
  fd_is_stand : FuncData
  F_is_stand : Fun K "_is_stand" "_is_stand" s_is_stand a_is_stand fd_is_stand
  b_is_stand : Binds K fd_is_stand ["stands", "value"] []
  k_is_stand : PySem.W.keepIn K (.ref a_is_stand) = true
  m_is_stand : mg "_is_stand" = some (.ref a_is_stand)
  a_check_stands : Addr
  fd_check_stands : FuncData
  F_check_stands : Fun K "_check_stands" "_check_stands" s_check_stands a_check_stands fd_check_stands
  b_check_stands : Binds K fd_check_stands ["stands"] []
  k_check_stands : PySem.W.keepIn K (.ref a_check_stands) = true
  m_check_stands : mg "_check_stands" = some (.ref a_check_stands)
  a_is_step : Addr
  fd_is_step : FuncData
  F_is_step : Fun K "_is_step" "_is_step" s_is_step a_is_step fd_is_step
  b_is_step : Binds K fd_is_step ["stands", "value"] []
  k_is_step : PySem.W.keepIn K (.ref a_is_step) = true
  m_is_step : mg "_is_step" = some (.ref a_is_step)
  a_check_steps : Addr
  fd_check_steps : FuncData
  F_check_steps : Fun K "_check_steps" "_check_steps" s_check_steps a_check_steps fd_check_steps
  b_check_steps : Binds K fd_check_steps ["stands", "steps"] []
  k_check_steps : PySem.W.keepIn K (.ref a_check_steps) = true
  m_check_steps : mg "_check_steps" = some (.ref a_check_steps)
  a_is_ascending : Addr
  fd_is_ascending : FuncData
  F_is_ascending : Fun K "is_ascending" "is_ascending" s_is_ascending a_is_ascending fd_is_ascending
  b_is_ascending : Binds K fd_is_ascending ["value", "many"] []
  k_is_ascending : PySem.W.keepIn K (.ref a_is_ascending) = true
  m_is_ascending : mg "is_ascending" = some (.ref a_is_ascending)
  a_check_ends : Addr
  fd_check_ends : FuncData
  F_check_ends : Fun K "_check_ends" "_check_ends" s_check_ends a_check_ends fd_check_ends
  b_check_ends : Binds K fd_check_ends ["stands", "ends"] []
  k_check_ends : PySem.W.keepIn K (.ref a_check_ends) = true
  m_check_ends : mg "_check_ends" = some (.ref a_check_ends)
  a_check_machine : Addr
  fd_check_machine : FuncData
  F_check_machine : Fun K "check_machine" "check_machine" s_check_machine a_check_machine fd_check_machine
  b_check_machine : Binds K fd_check_machine ["value"] []
  k_check_machine : PySem.W.keepIn K (.ref a_check_machine) = true
  m_check_machine : mg "check_machine" = some (.ref a_check_machine)
  a_loop_above : Addr
  fd_loop_above : FuncData
  F_loop_above : Fun K "_loop_above" "_loop_above" s_loop_above a_loop_above fd_loop_above
  b_loop_above : Binds K fd_loop_above ["machine", "stand"] []
  k_loop_above : PySem.W.keepIn K (.ref a_loop_above) = true
  m_loop_above : mg "_loop_above" = some (.ref a_loop_above)
  a_led_back : Addr
  fd_led_back : FuncData
  F_led_back : Fun K "_led_back" "_led_back" s_led_back a_led_back fd_led_back
  b_led_back : Binds K fd_led_back ["machine", "ways"] []
  k_led_back : PySem.W.keepIn K (.ref a_led_back) = true
  m_led_back : mg "_led_back" = some (.ref a_led_back)
  a_lasting_ways : Addr
  fd_lasting_ways : FuncData
  F_lasting_ways : Fun K "_lasting_ways" "_lasting_ways" s_lasting_ways a_lasting_ways fd_lasting_ways
  b_lasting_ways : Binds K fd_lasting_ways ["machine"] []
  k_lasting_ways : PySem.W.keepIn K (.ref a_lasting_ways) = true
  m_lasting_ways : mg "_lasting_ways" = some (.ref a_lasting_ways)
  a_lasting : Addr
  fd_lasting : FuncData
  F_lasting : Fun K "lasting" "lasting" s_lasting a_lasting fd_lasting
  b_lasting : Binds K fd_lasting ["machine"] []
  k_lasting : PySem.W.keepIn K (.ref a_lasting) = true
  m_lasting : mg "lasting" = some (.ref a_lasting)
  a_credit : Addr
  fd_credit : FuncData
  F_credit : Fun K "credit" "credit" s_credit a_credit fd_credit
  b_credit : Binds K fd_credit ["machine"] []
  k_credit : PySem.W.keepIn K (.ref a_credit) = true
  m_credit : mg "credit" = some (.ref a_credit)
  a_law_taken : Addr
  fd_law_taken : FuncData
  F_law_taken : Fun K "_law_taken" "_law_taken" s_law_taken a_law_taken fd_law_taken
  b_law_taken : Binds K fd_law_taken ["_law_row", "_law_many"] []
  k_law_taken : PySem.W.keepIn K (.ref a_law_taken) = true
  m_law_taken : mg "_law_taken" = some (.ref a_law_taken)
  a_law_parts : Addr
  fd_law_parts : FuncData
  F_law_parts : Fun K "_law_parts" "_law_parts" s_law_parts a_law_parts fd_law_parts
  b_law_parts : Binds K fd_law_parts ["_law_row", "_law_stands", "_law_size"] []
  k_law_parts : PySem.W.keepIn K (.ref a_law_parts) = true
  m_law_parts : mg "_law_parts" = some (.ref a_law_parts)
  a_law_next : Addr
  fd_law_next : FuncData
  F_law_next : Fun K "_law_next" "_law_next" s_law_next a_law_next fd_law_next
  b_law_next : Binds K fd_law_next ["_law_d", "_law_stand"] []
  k_law_next : PySem.W.keepIn K (.ref a_law_next) = true
  m_law_next : mg "_law_next" = some (.ref a_law_next)
  a_law_lives : Addr
  fd_law_lives : FuncData
  F_law_lives : Fun K "_law_lives" "_law_lives" s_law_lives a_law_lives fd_law_lives
  b_law_lives : Binds K fd_law_lives ["_law_d", "_law_most"] []
  k_law_lives : PySem.W.keepIn K (.ref a_law_lives) = true
  m_law_lives : mg "_law_lives" = some (.ref a_law_lives)
  a_law : Addr
  fd_law : FuncData
  F_law : Fun K "law" "law" s_law a_law fd_law
  b_law : Binds K fd_law ["_law_script"] []
  k_law : PySem.W.keepIn K (.ref a_law) = true
  m_law : mg "law" = some (.ref a_law)
  c_Machine : Addr
  cl_Machine : Cls K c_Machine
  m_Machine : mg "Machine" = some (.ref c_Machine)
  mk_Machine : Mk K c_Machine a_Machine_init
  n__stands : NoAttr K c_Machine "_stands"
  n__steps : NoAttr K c_Machine "_steps"
  n__ends : NoAttr K c_Machine "_ends"
  q_stands : Addr
  p_stands : PropOf K c_Machine "stands" q_stands a_Machine_stands
  q_steps : Addr
  p_steps : PropOf K c_Machine "steps" q_steps a_Machine_steps
  q_ends : Addr
  p_ends : PropOf K c_Machine "ends" q_ends a_Machine_ends
  i1_Machine : PySem.W.findIn K (.ref c_Machine) "__class__" = some (some (.builtin "object.__class__"))
  i2_Machine : PySem.W.specialIn K (.builtin "object.__class__") "__get__" = some (some (.builtin "getset_descriptor.__get__"))
  i3_Machine : PySem.W.takesIn K (.builtin "object.__class__") = some true
  i4_Machine : PySem.W.mroIn K c_Machine (.type "object") = some true
  u_MOST_STANDS : Value
  m_MOST_STANDS : mg "MOST_STANDS" = some u_MOST_STANDS
  r_MOST_STANDS : RelV (V.int 8) u_MOST_STANDS
  u_MOST_GAIN : Value
  m_MOST_GAIN : mg "MOST_GAIN" = some u_MOST_GAIN
  r_MOST_GAIN : RelV (V.int 1000000000000000000000000000000) u_MOST_GAIN
  a_LETTERS : Addr
  m_LETTERS : mg "LETTERS" = some (.ref a_LETTERS)
  r_LETTERS : RelV (V.ref a_LETTERS) (.ref a_LETTERS)
  s_LETTERS : ∀ H : Hp, SqT K H a_LETTERS [V.str "a", V.str "b", V.str "c", V.str "d"]
  z_any : mg "any" = none
  z_bool : mg "bool" = none
  z_enumerate : mg "enumerate" = none
  z_int : mg "int" = none
  z_isinstance : mg "isinstance" = none
  z_len : mg "len" = none
  z_list : mg "list" = none
  z_max : mg "max" = none
  z_min : mg "min" = none
  z_range : mg "range" = none
  z_sorted : mg "sorted" = none
  z_str : mg "str" = none
  z_tuple : mg "tuple" = none
  bs_law : ∀ (s : Shared) (v : Value), BindsTo s fd_law ⟨[v], []⟩ [("_law_script", v)]
/-! ### heaps -/
/-- all but a stands as it was -/
def Keep (a : Addr) (H H' : Hp) : Prop := ∀ b o, b ≠ a → H b = some o → H' b = some o
theorem Keep.refl (a : Addr) (H : Hp) : Keep a H H := fun _ _ _ h => h
theorem Keep.trans {a : Addr} {H H1 H2 : Hp} (x : Keep a H H1) (y : Keep a H1 H2) : Keep a H H2 := fun b o n h => y b o n (x b o n h)
theorem Keep.at_ {a : Addr} {H : Hp} {o : HO} : Keep a H (upd H a o) := fun b u n h => by rw [upd_ne n]; exact h
theorem Keep.new {a p : Addr} {H : Hp} {o : HO} (hp : H p = none) : Keep a H (upd H p o) := fun b u _ h => by rw [upd_ne (ne_of_none h hp)]; exact h
theorem Keep.of_same {a : Addr} {H H' : Hp} (x : Same H H') : Keep a H H' := fun b o _ h => x b o h
theorem Same.new {p : Addr} {H : Hp} {o : HO} (hp : H p = none) : Same H (upd H p o) := fun b u h => by rw [upd_ne (ne_of_none h hp)]; exact h
theorem Keep.free {a p : Addr} {H H' : Hp} (x : Keep a H H') (n : p ≠ a) (h : H' p = none) : H p = none := by
  cases q : H p with
  | none => rfl
  | some o => rw [x p o n q] at h; cases h
/-- what H does not know may change -/
theorem Keep.mut {a p : Addr} {H H' : Hp} {o : HO} (x : Keep a H H') (hp : H p = none) : Keep a H (upd H' p o) := fun b u n h => by rw [upd_ne (ne_of_none h hp)]; exact x b u n h
theorem Keep.tup {K : PySem.W.Frag} {a b : Addr} {H H' : Hp} {xs : List V} (x : Keep a H H') (ha : ∃ l, H a = some (.lst l)) (h : SqT K H b xs) : SqT K H' b xs := by
  obtain ⟨l, ha⟩ := ha
  rcases h with (h | ⟨o, h⟩) | h
  · exact .inl (.inl (x _ _ (fun e => by rw [e, ha] at h; cases h) h))
  · exact .inl (.inr ⟨o, x _ _ (fun e => by rw [e, ha] at h; cases h) h⟩)
  · exact .inr h
theorem Keep.lst {K : PySem.W.Frag} {a b : Addr} {H H' : Hp} {xs : List V} (x : Keep a H H') (n : b ≠ a) (h : SqL K H b xs) : SqL K H' b xs := by
  rcases h with (h | ⟨o, h⟩) | h
  · exact .inl (.inl (x _ _ n h))
  · exact .inl (.inr ⟨o, x _ _ n h⟩)
  · exact .inr h
/-- the script: known to the object, or of the written part -/
def ScAt (K : PySem.W.Frag) (H : Hp) (b : Addr) (xs : List V) : Prop := (∃ o, H b = some (.frz o (.lst xs))) ∨ ∀ H', SqL K H' b xs
theorem ScAt.sq {K : PySem.W.Frag} {H : Hp} {b : Addr} {xs : List V} (h : ScAt K H b xs) : SqL K H b xs := by
  rcases h with ⟨o, h⟩ | h
  · exact .inl (.inr ⟨o, h⟩)
  · exact h H
theorem ScAt.keep {K : PySem.W.Frag} {a b : Addr} {H H' : Hp} {xs l : List V} (h : ScAt K H b xs) (k : Keep a H H') (ha : H a = some (.lst l)) : ScAt K H' b xs := by
  rcases h with ⟨o, h⟩ | h
  · exact .inl ⟨o, k _ _ (fun z => by rw [z, ha] at h; cases h) h⟩
  · exact .inr h
theorem ScAt.same {K : PySem.W.Frag} {b : Addr} {H H' : Hp} {xs : List V} (h : ScAt K H b xs) (k : Same H H') : ScAt K H' b xs := by
  rcases h with ⟨o, h⟩ | h
  · exact .inl ⟨o, k _ _ h⟩
  · exact .inr h
/-- the draws' row at a: the script, how many were read, the mixed number, the rest -/
def RowOk (K : PySem.W.Frag) (H : Hp) (a : Addr) : Prop := ∃ (sc : Addr) (ns : List Int) (i z r : Int), H a = some (.lst [.ref sc, .int i, .int z, .int r]) ∧ ScAt K H sc (ns.map V.int) ∧ ns.length ≤ 63 ∧ 0 ≤ i ∧ 0 ≤ z ∧ z < 2147483647
theorem RowOk.lst {K : PySem.W.Frag} {H : Hp} {a : Addr} (h : RowOk K H a) : ∃ l, H a = some (.lst l) := by
  obtain ⟨_, _, _, _, _, e, _⟩ := h; exact ⟨_, e⟩
/-- behind a step that leaves the row and the script as they were -/
theorem RowOk.same {K : PySem.W.Frag} {H H' : Hp} {a : Addr} (h : RowOk K H a) (s : Same H H') : RowOk K H' a := by
  obtain ⟨sc, ns, i, z, r, e, q, rest⟩ := h
  exact ⟨sc, ns, i, z, r, s _ _ e, q.same s, rest⟩
theorem RowOk.keep {K : PySem.W.Frag} {H H' : Hp} {a l : Addr} {xs : List V} (h : RowOk K H a) (n : a ≠ l) (e : H l = some (.lst xs)) (k : Keep l H H') : RowOk K H' a := by
  obtain ⟨sc, is, i, z, r, ea, q, rest⟩ := h
  exact ⟨sc, is, i, z, r, k _ _ n ea, q.keep k e, rest⟩
theorem RowOk.ne {K : PySem.W.Frag} {H : Hp} {a p : Addr} (h : RowOk K H a) (e : H p = none) : a ≠ p := by
  obtain ⟨l, q⟩ := h.lst
  exact ne_of_none q e
theorem tupl_upd {H : Hp} {F x : Addr} {o : HO} {ys : List V} (hF : ∀ xs, H F ≠ some (.tup xs)) (h : H x = some (.tup ys)) : (upd H F o) x = some (.tup ys) := by
  rw [upd_ne (fun e => hF ys (by rw [← e]; exact h))]
  exact h
theorem free_of {H H' : Hp} {q : Addr} (z : Same H H') (hq : H' q = none) : H q = none := by
  cases e : H q with
  | none => rfl
  | some ob => rw [z _ _ e] at hq; cases hq
theorem unlock_same {H2 H' : Hp} {e : Addr} {od : _} {kvs : List (Key × V)} (he : H2 e = some (.dK kvs)) (z : Same (upd H2 e (.frz od (.dK kvs))) H') : Same H2 (upd H' e (.dK kvs)) := fun b o eb => by
  by_cases c : b = e
  · rw [c, he] at eb
    rw [c, upd_same]
    exact eb
  · rw [upd_ne c]
    exact z _ _ (by rw [upd_ne c]; exact eb)
/-! ### steps: one a combinator -/
section
variable {K : PySem.W.Frag} {σ : L2.St} {H : Hp} {D : Ends} {Q : VK}
theorem k_seq {t u : TS} (h : t { D with nx := u D } σ H) : tSeq t u D σ H := h
theorem k_ifS {c : TT} {t u : TS} (h : c σ H fun b H1 => if b = true then t D σ H1 else u D σ H1) : tIfS c t u D σ H := h
theorem k_asg {te : TE} {g : TG} (h : te σ H fun x H1 => g x σ H1 D.nx) : tAsg te g D σ H := h
theorem k_ret {te : TE} (h : te σ H D.rt) : tRet te D σ H := h
theorem k_retN (h : D.rt .non H) : tRetN D σ H := h
theorem k_next (h : D.nx σ H) : tNext D σ H := h
theorem k_cont (h : D.ct σ H) : tCont D σ H := h
theorem k_break (h : D.bk σ H) : tBreak D σ H := h
theorem k_drop {te : TE} (h : te σ H fun _ H1 => D.nx σ H1) : tDrop te D σ H := h
theorem k_par {i j : Nat} {ta : TA} (h : ta σ H fun vs H1 => ∃ v w, vs = [v, w] ∧ D.nx ((σ.set i (some v)).set j (some w)) H1) : tPar i j ta D σ H := h
theorem k_two {p : V → V → Prop} {a b : V} (h : p a b) : ∃ v w, [a, b] = [v, w] ∧ p v w := ⟨a, b, rfl, h⟩
theorem k_var {i : Nat} {v : V} (e : σ[i]? = some (some v)) (h : Q v H) : tVar i σ H Q := ⟨v, e, h⟩
theorem k_c {v : V} (h : Q v H) : tC v σ H Q := h
theorem k_op {r : R2} {ta tb : TE} (h : ta σ H fun x H1 => tb σ H1 fun y H2 => r x y H2 Q) : tOp r ta tb σ H Q := h
theorem k_un {r : V → Hp → VK → Prop} {ta : TE} (h : ta σ H fun x H1 => r x H1 Q) : tUn r ta σ H Q := h
theorem k_cb {r : List V → Hp → VK → Prop} {t : TA} (h : t σ H fun vs H1 => r vs H1 Q) : tCB r t σ H Q := h
theorem k_cons {ta : TE} {tr : TA} {R : List V → Hp → Prop} (h : ta σ H fun x H1 => tr σ H1 fun xs H2 => R (x :: xs) H2) : tCons ta tr σ H R := h
theorem k_nil {R : List V → Hp → Prop} (h : R [] H) : tNil σ H R := h
theorem k_call {sp : Sp} {dvs : List V} {E : XK} {t : TA} (h : t σ H fun vs H1 => sp (vs ++ dvs) H1 Q E) : tCall sp dvs E t σ H Q := h
theorem k_make {C : Addr} {sp : Sp} {dvs : List V} {E : XK} {t : TA} (h : t σ H fun vs H1 => ∀ x dx, H1 x = none → H1 dx = none → dx ≠ x →
  sp (.ref x :: (vs ++ dvs)) (upd (upd H1 dx (.own x)) x (.ins C dx [])) (fun v H2 => v = .non ∧ Q (.ref x) H2) E) : tMake C sp dvs E t σ H Q := h
theorem k_test {t : TE} {R : Bool → Hp → Prop} (h : t σ H fun x H' => ∃ k, x = .bl k ∧ R k H') : tTest t σ H R := h
theorem k_tB {t : TE} {R : Bool → Hp → Prop} (h : t σ H fun x H' => ∃ k, x = .bl k ∧ R k H') : tB t σ H R := h
theorem k_bl {b : Bool} {R : Bool → Prop} (h : R b) : ∃ k, V.bl b = .bl k ∧ R k := ⟨b, rfl, h⟩
theorem k_and {t u : TT} {R : Bool → Hp → Prop} (h : t σ H fun c H1 => if c = true then u σ H1 R else R false H1) : tAnd t u σ H R := h
theorem k_or {t u : TT} {R : Bool → Hp → Prop} (h : t σ H fun c H1 => if c = true then R true H1 else u σ H1 R) : tOr t u σ H R := h
theorem k_not {t : TT} {R : Bool → Hp → Prop} (h : t σ H fun c H1 => R (!c) H1) : tNot t σ H R := h
theorem k_andV {ta tb : TE} (h : ta σ H fun x H1 => ∃ c, x = .bl c ∧ if c = true then tb σ H1 Q else Q (.bl false) H1) : tAndV ta tb σ H Q := h
theorem k_orV {ta tb : TE} (h : ta σ H fun x H1 => ∃ c, x = .bl c ∧ if c = true then Q (.bl true) H1 else tb σ H1 Q) : tOrV ta tb σ H Q := h
theorem k_notV {ta : TE} (h : ta σ H fun x H1 => ∃ c, x = .bl c ∧ Q (.bl (!c)) H1) : tNotV ta σ H Q := h
theorem k_ifE {t : TT} {ta tb : TE} (h : t σ H fun c H1 => if c = true then ta σ H1 Q else tb σ H1 Q) : tIf t ta tb σ H Q := h
theorem k_isN {ta : TE} (h : ta σ H fun x H1 => Q (.bl (decide (x = .non))) H1) : tIsN ta σ H Q := h
theorem k_notN {ta : TE} (h : ta σ H fun x H1 => Q (.bl (!decide (x = .non))) H1) : tNotN ta σ H Q := h
theorem k_name {i : Nat} {v : V} {R : L2.St → Hp → Prop} (h : R (σ.set i (some v)) H) : gName i v σ H R := h
theorem k_sub {to ti : TE} {t : TSet} {v : V} {R : L2.St → Hp → Prop} (h : to σ H fun o H1 => ti σ H1 fun i H2 => t o i v H2 fun H3 => R σ H3) : gSub to ti t v σ H R := h
theorem k_gt {n : Nat} {t : TGs} {R : L2.St → Hp → Prop} {a : Addr} {xs : List V} (h : SqT K H a xs) (e : xs.length = n) (q : t xs σ H R) : gTup K n t (.ref a) σ H R := ⟨a, xs, rfl, h, e, q⟩
theorem k_gn {R : L2.St → Hp → Prop} (h : R σ H) : gNil [] σ H R := ⟨rfl, h⟩
theorem k_gc {t : TG} {u : TGs} {v : V} {vs : List V} {R : L2.St → Hp → Prop} (h : t v σ H fun σ' H' => u vs σ' H' R) : gCons t u (v :: vs) σ H R := ⟨v, vs, rfl, h⟩
theorem k_I0 {g : Int → Int → V} {i j : Int} (h : Q (g i j) H) : rI0 g (.int i) (.int j) H Q := ⟨i, j, rfl, rfl, h⟩
theorem k_I {C : Int → Int → Prop} {g : Int → Int → V} {i j : Int} (c : C i j) (h : Q (g i j) H) : rI C g (.int i) (.int j) H Q := ⟨i, j, rfl, rfl, c, h⟩
theorem k_U {g : Int → V} {i : Int} (h : Q (g i) H) : rU g (.int i) H Q := ⟨i, rfl, h⟩
theorem k_eq {x y : V} (e : scal x y = true) (h : Q (.bl (decide (x = y))) H) : rEq x y H Q := ⟨e, h⟩
theorem k_ne {x y : V} (e : scal x y = true) (h : Q (.bl (!decide (x = y))) H) : rNe x y H Q := ⟨e, h⟩
theorem k_ixL {p : Addr} {xs : List V} {i : Int} {v : V} (h : SqL K H p xs) (e : atI xs i = some v) (q : Q v H) : rIxL K (.ref p) (.int i) H Q := ⟨p, xs, i, v, rfl, rfl, h, e, q⟩
theorem k_ixT {p : Addr} {xs : List V} {i : Int} {v : V} (h : SqT K H p xs) (e : atI xs i = some v) (q : Q v H) : rIxT K (.ref p) (.int i) H Q := ⟨p, xs, i, v, rfl, rfl, h, e, q⟩
theorem k_setL {p : Addr} {xs : List V} {k : Int} {j : Nat} {v : V} {R : Hp → Prop} (h : H p = some (.lst xs)) (e : ixN xs.length k = some j) (q : R (upd H p (.lst (xs.set j v)))) : rSetL (.ref p) (.int k) v H R := ⟨p, xs, k, j, rfl, rfl, h, e, q⟩
theorem k_tup {t : TA} (h : t σ H fun xs H1 => xs.length ≤ sizeLine ∧ ∀ p, H1 p = none → Q (.ref p) (upd H1 p (.tup xs))) : tTup t σ H Q := h
theorem k_lst {t : TA} (h : t σ H fun xs H1 => xs.length ≤ sizeLine ∧ ∀ p, H1 p = none → Q (.ref p) (upd H1 p (.lst xs))) : tLst t σ H Q := h
theorem k_bm {T : String} {r : V → List V → Hp → VK → Prop} {to : TE} {t : TA} (h : to σ H fun x H1 => tyV K T x H1 ∧ t σ H1 fun xs H2 => r x xs H2 Q) : tBM K T r to t σ H Q := h
theorem k_append {l : Addr} {xs : List V} {y : V} (h : H l = some (.lst xs)) (e : xs.length < sizeLine) (q : Q .non (upd H l (.lst (xs ++ [y])))) : rAppend (.ref l) [y] H Q := ⟨l, xs, y, rfl, rfl, h, e, q⟩
theorem k_dget {td ty : TE} (h : td σ H fun x H1 => ty σ H1 fun y H2 => ∃ a v, x = .ref a ∧ DGet H2 a y (some v) ∧ Q v H2) : tDGet td ty σ H Q := h
theorem k_dg {a : Addr} {y v : V} (h : DGet H a y (some v)) (q : Q v H) : ∃ b u, V.ref a = .ref b ∧ DGet H b y (some u) ∧ Q u H := ⟨a, v, rfl, h, q⟩
theorem k_fld {ta : TE} {f : Str} (h : ta σ H fun x H1 => ∃ a C dx fs v, x = .ref a ∧ H1 a = some (.ins C dx fs) ∧ Cls K C ∧ NoAttr K C f ∧ fs.lookup f = some v ∧ Q v H1) : tFld K ta f σ H Q := h
theorem k_sl {r : V → Option Int → Option Int → Hp → VK → Prop} {te : TE} {tl th : TO} (h : te σ H fun x H1 => tl σ H1 fun l H2 => th σ H2 fun u H3 => r x l u H3 Q) : L2.tSl r te tl th σ H Q := h
theorem k_noPart {R : Option Int → Hp → Prop} (h : R none H) : tNoPart σ H R := h
theorem k_part {t : TE} {R : Option Int → Hp → Prop} (h : t σ H fun x H1 => ∃ i, x = .int i ∧ R (some i) H1) : tPart t σ H R := h
theorem k_int {i : Int} {R : Int → Prop} (h : R i) : ∃ k, V.int i = .int k ∧ R k := ⟨i, rfl, h⟩
theorem k_int1 {i : Int} {R : Int → Prop} {R' : Bool → Prop} (h : R i) : (∃ j, [V.int i] = [V.int j] ∧ R j) ∨ (∃ k, [V.int i] = [V.bl k] ∧ R' k) := .inl ⟨i, rfl, h⟩
theorem k_len {a : Addr} {ys : List V} {R : List V → Prop} (h : SqL K H a ys ∨ SqT K H a ys) (q : R ys) : ∃ p xs, [V.ref a] = [V.ref p] ∧ (SqL K H p xs ∨ SqT K H p xs) ∧ R xs := ⟨a, ys, rfl, h, q⟩
theorem k_disp {trs : List (TE × TE)} (h : ∀ p, H p = none → tPairs trs σ (upd H p (.dK [])) fun ps H2 => H2 p = some (.dK []) ∧ ∃ kvs : List (Key × V), ps = kvs.map (fun kv => (kV kv.1, kv.2)) ∧ kvs.length ≤ 15 ∧ Q (.ref p) (upd H2 p (.dK (mergeK [] kvs)))) : tDisp trs σ H Q := h
theorem k_cut {t u : TS} (M : L2.St → Hp → Prop) (h : t { D with nx := M } σ H) (k : ∀ σ' H', M σ' H' → u D σ' H') : C8.tCut t u D σ H := ⟨M, h, k⟩
theorem k_rng1 {ta : TA} {R : It → Hp → Prop} (h : ta σ H fun vs H1 => ∃ j : Int, vs = [.int j] ∧ -(2 ^ 62) ≤ j ∧ j < 2 ^ 62 ∧ R (Itr 0 j.toNat) H1) : iRng1 ta σ H R := h
theorem k_rg {j : Int} {R : Int → Prop} (h1 : 0 ≤ j) (h2 : j < 2 ^ 62) (q : R j) : ∃ i : Int, [V.int j] = [V.int i] ∧ -(2 ^ 62) ≤ i ∧ i < 2 ^ 62 ∧ R i := ⟨j, rfl, by omega, h2, q⟩
theorem k_for {wi : TI} {g : TG} {tb : TS} (h : wi σ H fun J H1 => ∃ W : Nat → Nat → L2.St → Hp → Prop, (∃ m, W 0 m σ H1) ∧ ∀ i m σ H, W i m σ H →
  (J.stop i H ∧ D.nx σ H) ∨ (J.go i H ∧ ∃ N : L2.St → Hp → Prop, (∀ σ' H', N σ' H' → ∃ m', m' < m ∧ W (i + 1) m' σ' H') ∧ ∀ x H', J.yld i H x H' → g x σ H' fun σ2 H2 => tb { D with nx := N, ct := N, bk := D.nx } σ2 H2)) : tFor wi g tb D σ H := h
theorem k_lc {wi : TI} {g : TG} {tt : TT} {te : TE} {vs : List Nat} (h : wi σ H fun J H1 => ∀ D, H1 D = none → ∃ W : Nat → Nat → Hp → Prop, (∃ m, W 0 m (upd H1 D (.lst []))) ∧ ∀ i m H, W i m H →
  (J.stop i H ∧ Q (.ref D) H) ∨ (J.go i H ∧ ∃ Nx : Hp → Prop, (∀ H', Nx H' → ∃ m', m' < m ∧ W (i + 1) m' H') ∧ ∀ x H', J.yld i H x H' → g x (wipe σ vs) H' fun σ2 H2 => wipe σ2 vs = wipe σ vs ∧ tt σ2 H2 fun b H3 =>
    if b = true then te σ2 H3 fun y H4 => ∃ acc, H4 D = some (.lst acc) ∧ acc.length < sizeLine ∧ Nx (upd H4 D (.lst (acc ++ [y]))) else Nx H3)) : tLc wi g tt te vs σ H Q := h
theorem k_yesT {R : Bool → Hp → Prop} (h : R true H) : tYes σ H R := h
theorem k_str {te : TE} {R : It → Hp → Prop} (h : te σ H fun v H1 => ∃ x, v = .str x ∧ R (Its x) H1) : iStr te σ H R := h
theorem k_slS {z : Str} {lo hi : Option Int} (e : z.length ≤ sizeLine) (q : Q (.str (cutS z lo hi)) H) : rSlS (.str z) lo hi H Q := ⟨z, rfl, e, q⟩
theorem k_prs {tk tv : TE} {r : List (TE × TE)} {R : List (V × V) → Hp → Prop} (h : tk σ H fun x H1 => tv σ H1 fun y H2 => tPairs r σ H2 fun ps H3 => R ((x, y) :: ps) H3) : tPairs ((tk, tv) :: r) σ H R := h
theorem k_prn {R : List (V × V) → Hp → Prop} (h : R [] H) : tPairs [] σ H R := h
theorem k_aug {i : Nat} {te : TE} {ti : TIp} {x : V} (e : σ[i]? = some (some x)) (h : te σ H fun y H1 => ti x y H1 fun z H2 => D.nx (σ.set i (some z)) H2) : tAug i te ti D σ H := ⟨x, e, h⟩
theorem k_ipI {f : Int → Int → Int} {i j : Int} (h : Q (.int (f i j)) H) : ipI f (.int i) (.int j) H Q := ⟨i, j, rfl, rfl, h⟩
theorem k_din {ty td : TE} (h : ty σ H fun y H1 => td σ H1 fun x H2 => ∃ a o, x = .ref a ∧ DGet H2 a y o ∧ Q (.bl o.isSome) H2) : tDIn ty td σ H Q := h
theorem k_dnotin {ty td : TE} (h : ty σ H fun y H1 => td σ H1 fun x H2 => ∃ a o, x = .ref a ∧ DGet H2 a y o ∧ Q (.bl (!o.isSome)) H2) : tDNotIn ty td σ H Q := h
theorem k_dput {td ty tv : TE} (h : tv σ H fun v H1 => td σ H1 fun x H2 => ty σ H2 fun y H3 => ∃ a H4, x = .ref a ∧ DPut H3 a y v H4 ∧ D.nx σ H4) : sDPut td ty tv D σ H := h
theorem k_prop {C : Addr} {sp : Sp} {dvs : List V} {E : XK} {ta : TE} (h : ta σ H fun x H1 => ∃ a dx fs, x = .ref a ∧ H1 a = some (.ins C dx fs) ∧ sp (.ref a :: dvs) H1 Q E) : tProp C sp dvs E ta σ H Q := h
theorem k_itup {tl : TE} {R : It → Hp → Prop} (h : tl σ H fun x H1 => ∃ a, x = .ref a ∧ (∃ xs, SqT K H1 a xs) ∧ R (Itt K a) H1) : iTup K tl σ H R := h
theorem k_ilst {tl : TE} {R : It → Hp → Prop} (h : tl σ H fun x H1 => ∃ a, x = .ref a ∧ (∃ xs, SqL K H1 a xs) ∧ R (Itl K a) H1) : iList K tl σ H R := h
theorem k_bm0 {T : String} {r : V → List V → Hp → VK → Prop} {to : TE} (h : to σ H fun x H1 => tyV K T x H1 ∧ r x [] H1 Q) : tBM0 K T r to σ H Q := h
theorem k_dc {wi : TI} {g : TG} {tt : TT} {tk tv : TE} {vs : List Nat} (h : wi σ H fun J H1 => ∀ D, H1 D = none → ∃ W : Nat → Nat → Hp → Prop, (∃ m, W 0 m (upd H1 D (.dK []))) ∧ ∀ i m H, W i m H →
  (J.stop i H ∧ Q (.ref D) H) ∨ (J.go i H ∧ ∃ Nx : Hp → Prop, (∀ H', Nx H' → ∃ m', m' < m ∧ W (i + 1) m' H') ∧ ∀ x H', J.yld i H x H' → g x (wipe σ vs) H' fun σ2 H2 => wipe σ2 vs = wipe σ vs ∧ tt σ2 H2 fun b H3 =>
    if b = true then tk σ2 H3 fun y H4 => tv σ2 H4 fun z H5 => ∃ kvs k, y = kV k ∧ H5 D = some (.dK kvs) ∧ kvs.length < sizeLine ∧ Nx (upd H5 D (.dK (putK kvs k z))) else Nx H3)) : tDc wi g tt tk tv vs σ H Q := h
theorem k_whl {c : TT} {tb : TS} (W : Nat → L2.St → Hp → Prop) (h0 : ∃ m, W m σ H) (h : ∀ m σ H, W m σ H → c σ H fun b H1 => if b = true then tb { D with nx := fun σ' H' => ∃ m', m' < m ∧ W m' σ' H', ct := fun σ' H' => ∃ m', m' < m ∧ W m' σ' H', bk := D.nx } σ H1 else D.nx σ H1)
    (mono : ∀ σ H (R R' : Bool → Hp → Prop), (∀ b H1, R b H1 → R' b H1) → c σ H R → c σ H R') : tWhile c tb D σ H := by
  refine ⟨W, h0, fun m σ H w => mono _ _ _ _ (fun b H1 q => ?_) (h m σ H w)⟩
  cases b with
  | false => exact q
  | true => exact ⟨_, fun _ _ z => z, q⟩
theorem k_ite {p A B : Prop} [Decidable p] (h1 : p → A) (h2 : ¬ p → B) : if decide p = true then A else B := by
  by_cases h : p
  · rw [decide_eq_true h]; exact iteT (h1 h)
  · rw [decide_eq_false h]; exact iteF (h2 h)
theorem k_iteN {p A B : Prop} [Decidable p] (h1 : p → B) (h2 : ¬ p → A) : if (!decide p) = true then A else B := by
  by_cases h : p
  · rw [decide_eq_true h]; exact iteF (h1 h)
  · rw [decide_eq_false h]; exact iteT (h2 h)
theorem k_yes {c : Bool} {A B : Prop} (e : c = true) (h : A) : if c = true then A else B := by rw [e]; exact iteT h
theorem k_no {c : Bool} {A B : Prop} (e : c = false) (h : B) : if c = true then A else B := by rw [e]; exact iteF h
theorem k_bool {c : Bool} {A B : Prop} (h1 : c = true → A) (h2 : c = false → B) : if c = true then A else B := by cases c; exact iteF (h2 rfl); exact iteT (h1 rfl)
end
section
variable {K : PySem.W.Frag} {σ : L2.St} {H : Hp} {D : Ends} {Q : VK}
theorem k_par3 {i j l : Nat} {ta : TA} (h : ta σ H fun vs H1 => ∃ u v w, vs = [u, v, w] ∧ D.nx (((σ.set i (some u)).set j (some v)).set l (some w)) H1) : tPar3 i j l ta D σ H := h
theorem k_three {p : V → V → V → Prop} {a b c : V} (h : p a b c) : ∃ u v w, [a, b, c] = [u, v, w] ∧ p u v w := ⟨a, b, c, rfl, h⟩
theorem k_neD {x y : V} {d e : PyData} (h1 : Dp K H x d) (h2 : Dp K H y e) (s1 : SeqAt.shaped d = true) (s2 : SeqAt.shaped e = true) (q : Q (.bl (!PyData.eqv d e)) H) : rNeD K x y H Q := ⟨d, e, h1, h2, s1, s2, q⟩
theorem k_eqD {x y : V} {d e : PyData} (h1 : Dp K H x d) (h2 : Dp K H y e) (s1 : SeqAt.shaped d = true) (s2 : SeqAt.shaped e = true) (q : Q (.bl (PyData.eqv d e)) H) : rEqD K x y H Q := ⟨d, e, h1, h2, s1, s2, q⟩
theorem k_lenS {z : Str} {R : Int → Prop} (h : z.length ≤ sizeLine) (q : R z.length) : ∃ y : Str, [V.str z] = [V.str y] ∧ y.length ≤ sizeLine ∧ R y.length := ⟨z, rfl, h, q⟩
end
local macro_rules | `(tactic| walk_at "st") => `(tactic| first
  | ((with_reducible show tVar _ _ _ _); refine k_var rfl ?_)
  | (with_reducible first
    | refine k_c ?_ | refine k_op ?_ | refine k_I0 ?_ | refine k_seq ?_ | refine k_asg ?_ | refine k_name ?_ | refine k_cons ?_ | refine k_nil ?_ | refine k_cb ?_
    | refine k_ret ?_ | refine k_ifS ?_ | refine k_test ?_ | refine k_tB ?_ | refine k_bl ?_ | refine k_call ?_ | refine k_make ?_ | refine k_par3 ?_ | refine k_three ?_ | refine k_ipI ?_ | refine k_din ?_ | refine k_dnotin ?_ | refine k_dput ?_ | refine k_prop ?_ | refine k_itup ?_ | refine k_ilst ?_ | refine k_bm0 ?_ | refine k_dc ?_ | refine k_prs ?_ | refine k_prn ?_ | refine k_lc ?_ | refine k_yesT ?_ | refine k_str ?_ | refine k_disp ?_ | refine k_for ?_ | refine k_rng1 ?_ | refine k_drop ?_ | refine k_next ?_ | refine k_sub ?_ | refine k_un ?_ | refine k_U ?_
    | refine k_par ?_ | refine k_two ?_ | refine k_and ?_ | refine k_or ?_ | refine k_not ?_ | refine k_andV ?_ | refine k_orV ?_ | refine k_notV ?_ | refine k_ifE ?_ | refine k_isN ?_ | refine k_notN ?_
    | refine k_gn ?_ | refine k_gc ?_ | refine k_tup ?_ | refine k_lst ?_ | refine k_bm ?_ | refine k_dget ?_ | refine k_fld ?_ | refine k_sl ?_ | refine k_noPart ?_ | refine k_part ?_ | refine k_int ?_
    | refine k_int1 ?_ | refine k_retN ?_ | refine k_cont ?_ | refine k_break ?_)
  | ((with_reducible show rIxL _ _ _ _ _); refine k_ixL (SqL.of (by first | assumption | exact upd_same)) rfl ?_)
  | ((with_reducible show rSetL _ _ _ _ _); refine k_setL (by first | assumption | exact upd_same) rfl ?_)
  | ((with_reducible show tAug _ _ _ _ _ _); refine k_aug rfl ?_)
  | ((with_reducible show rEq _ _ _ _); refine k_eq rfl ?_)
  | ((with_reducible show rNe _ _ _ _); refine k_ne rfl ?_))
local macro_rules | `(tactic| walk_at "go") => `(tactic| repeat (walk_at "st"))
local macro_rules | `(tactic| walk_at "begin") => `(tactic| ((try dsimp only [cxOf]); simp only [L2.start, List.map_cons, List.map_nil, List.length_cons, List.length_nil, Nat.reduceAdd, Nat.reduceSub, List.replicate_succ, List.replicate_zero, List.cons_append, List.nil_append]))
/-! ### a draw: any number below the most -/
def sp_taken (K : PySem.W.Frag) : Sp := fun vs H Q _ => ∃ (a : Addr) (m : Int), vs = [.ref a, .int m] ∧ 0 < m ∧ m.natAbs < 2 ^ 8000 ∧ RowOk K H a ∧
  ∀ (x : Int) (H' : Hp), 0 ≤ x → x < m → RowOk K H' a → Keep a H H' → Q (.int x) H'
section
variable {P : Program} {w : World} {K : PySem.W.Frag} {mg : Str → Option Value} {base : Heap}
theorem ok_law_taken (T : Txt K mg) : FnOk P w K mg base (L2.CX P w) 1 T.a_law_taken T.fd_law_taken ["_law_row", "_law_many"] (sp_taken K) := by
  refine T.F_law_taken.okX sc_law_taken (fun vs H Q E h => ?_) (fun cdv A outer s H vs Q E hr h => ?_)
  · obtain ⟨a, m, rfl, _⟩ := h
    rfl
  · obtain ⟨a, m, rfl, m0, mb, ⟨sc, ns, i, z, r, ea, hs, hn, i0, z0, z1⟩, k⟩ := h
    refine ⟨_, (PSs.nox (pss_cons (ps_if (pt_cmpR op_gt (pe_ix ix_list (pv 0) pe_int (fun _ _ => rfl)) pe_int (nomark _))
  (pss_cons (ps_set (i := 2) sc_law_taken.nd rfl (Or.inl rfl) (pe_op op_mod (pe_callTy call_int1 (by rfl) T.z_int PySem.Pv.boot_int (pa_cons (pe_ix ix_list (pv 0) pe_int (fun _ _ => rfl)) pa_nil)) (pv 1)))
  (pss_cons (ps_asg (pe_op op_fdivW (pe_ix ix_list (pv 0) pe_int (fun _ _ => rfl)) (pv 1)) (pg_sub (pv 0) pe_int set_list))
  (pss_one (ps_ret (pv 2)))))
  pss_nil)
  (pss_cons (ps_asg (pe_op op_add (pe_ix ix_list (pv 0) pe_int (fun _ _ => rfl)) pe_int) (pg_sub (pv 0) pe_int set_list))
  (pss_cons (ps_if (pt_cmpR op_gt (pe_ix ix_list (pv 0) pe_int (fun _ _ => rfl)) (pe_callB call_len_seq (by rfl) T.z_len PySem.boot_len (pa_cons (pe_ix ix_list (pv 0) pe_int (fun _ _ => rfl)) pa_nil)) (nomark _))
  (pss_cons (ps_asg (pe_op op_mod (pe_callTy call_int1 (by rfl) T.z_int PySem.Pv.boot_int (pa_cons (pe_op op_add (pe_op op_mulW (pe_ix ix_list (pv 0) pe_int (fun _ _ => rfl)) pe_int) pe_int) pa_nil)) pe_int) (pg_sub (pv 0) pe_int set_list))
  (pss_one (ps_ret (pe_op op_mod (pe_callTy call_int1 (by rfl) T.z_int PySem.Pv.boot_int (pa_cons (pe_op op_fdivW (pe_ix ix_list (pv 0) pe_int (fun _ _ => rfl)) pe_int) pa_nil)) (pv 1)))))
  pss_nil)
  (pss_cons (ps_set (i := 3) sc_law_taken.nd rfl (Or.inl rfl) (pe_ix ix_list (pe_ix ix_list (pv 0) pe_int (fun _ _ => rfl)) (pe_op op_sub (pe_ix ix_list (pv 0) pe_int (fun _ _ => rfl)) pe_int) (fun _ _ => rfl)))
  (pss_cons (ps_asg (pe_op op_mod (pe_callTy call_int1 (by rfl) T.z_int PySem.Pv.boot_int (pa_cons (pe_op op_add (pe_op op_add (pe_op op_mulW (pe_ix ix_list (pv 0) pe_int (fun _ _ => rfl)) pe_int) (pv 3)) pe_int) pa_nil)) pe_int) (pg_sub (pv 0) pe_int set_list))
  (pss_cons (ps_if (pt_cmpR op_ge (pv 3) (pe_op op_pow pe_int pe_int) (nomark _))
  (pss_one (ps_asg (pe_op op_fdivW (pv 3) (pv 1)) (pg_sub (pv 0) pe_int set_list)))
  pss_nil)
  (pss_one (ps_ret (pe_op op_mod (pe_callTy call_int1 (by rfl) T.z_int PySem.Pv.boot_int (pa_cons (pv 3) pa_nil)) (pv 1))))))))))), ?_⟩
    walk_at "begin"
    walk_at "go"
    have CD : CDivW r m := wide_div m0 mb (by decide) (by decide)
    have CZ : CMulW z 48271 := wide_mul (a := 31) (b := 16) (by omega) (by decide) (by decide) (by decide) (by decide)
    refine k_ite (fun c => ?_) (fun c => ?_)
    · walk_at "go"
      refine k_I m0 ?_
      walk_at "go"
      refine k_I CD ?_
      walk_at "go"
      exact k _ _ (Int.emod_nonneg _ (by omega)) (Int.emod_lt_of_pos _ m0) ⟨sc, ns, i, z, r / m, upd_same, hs.keep Keep.at_ ea, hn, i0, z0, z1⟩ Keep.at_
    · walk_at "go"
      have K1 : Keep a H (upd H a (HO.lst ([V.ref sc, V.int i, V.int z, V.int r].set (Int.toNat 1) (V.int (i + 1))))) := Keep.at_
      refine k_len (.inl (hs.keep K1 ea).sq) ?_
      walk_at "go"
      have zn : ∀ q : Int, 0 ≤ q % 2147483647 ∧ q % 2147483647 < 2147483647 := fun q => ⟨Int.emod_nonneg _ (by decide), Int.emod_lt_of_pos _ (by decide)⟩
      have mn : ∀ q : Int, 0 ≤ q % m ∧ q % m < m := fun q => ⟨Int.emod_nonneg _ (by omega), Int.emod_lt_of_pos _ m0⟩
      refine k_ite (fun c1 => ?_) (fun c1 => ?_)
      · walk_at "go"
        refine k_I CZ ?_
        walk_at "go"
        refine k_I (by decide) ?_
        walk_at "go"
        refine k_I (wide_div (b := 3) (by decide) (by decide) (by decide) (by decide)) ?_
        walk_at "go"
        refine k_I m0 ?_
        exact k _ _ (mn _).1 (mn _).2 ⟨sc, ns, i + 1, _, r, upd_same, (hs.keep K1 ea).keep Keep.at_ upd_same, hn, by omega, (zn _).1, (zn _).2⟩ (K1.trans Keep.at_)
      · walk_at "go"
        rw [List.length_map] at c1
        have hl : (i + 1 - 1).toNat < ns.length := by omega
        refine k_ixL (hs.keep K1 ea).sq (v := V.int (ns[(i + 1 - 1).toNat]'hl)) (at_of (j := (i + 1 - 1).toNat) (by omega) (by rw [List.getElem?_map, List.getElem?_eq_getElem hl]; rfl)) ?_
        generalize ns[(i + 1 - 1).toNat]'hl = cell
        walk_at "go"
        refine k_I CZ ?_
        walk_at "go"
        refine k_I (by decide) ?_
        walk_at "go"
        refine k_I (by exact ⟨by decide, by decide, by decide⟩) ?_
        walk_at "go"
        refine k_ite (fun c2 => ?_) (fun c2 => ?_)
        · walk_at "go"
          refine k_I (wide_div m0 mb (by decide) (by decide)) ?_
          walk_at "go"
          refine k_I m0 ?_
          exact k _ _ (mn _).1 (mn _).2 ⟨sc, ns, i + 1, _, _, upd_same, ((hs.keep K1 ea).keep Keep.at_ upd_same).keep Keep.at_ upd_same, hn, by omega, (zn _).1, (zn _).2⟩ ((K1.trans Keep.at_).trans Keep.at_)
        · walk_at "go"
          refine k_I m0 ?_
          exact k _ _ (mn _).1 (mn _).2 ⟨sc, ns, i + 1, _, _, upd_same, (hs.keep K1 ea).keep Keep.at_ upd_same, hn, by omega, (zn _).1, (zn _).2⟩ (K1.trans Keep.at_)
end
/-! ### enumerate over a tuple -/
section
open Builtin
theorem meets_enumT (t : Addr) (its : Array Value) : Meets (Builtin.«enumerate.__new__» ⟨[.type "enumerate", .ref t], []⟩) (fun _ R st => st.heap.IsTuple t its ∧
    R (.ok (.ret (.ref (st.heap.objs.size + 1)))) { st with heap := (st.heap.push { cls := .type "tuple_iterator", data := .fields #[.ref t, .int 0 0] }).push { cls := .type "enumerate", data := .fields #[.none, .bool false, .ref st.heap.objs.size, rawInt 0, .none, .none] } }) := by
  refine Meets.of_wp fun prog w A R st hh => ?_
  rcases st with ⟨h0, g0, d0, t0, o0⟩
  obtain ⟨isT, q⟩ := hh
  have sub := sub_enumerate
  have L : Heap.IsTuple (Shared.heap ⟨h0, g0, d0, t0, o0⟩) t its := isT
  obtain ⟨ob, e0, c0, n0, dt0⟩ := L
  have z : (Heap.push h0 { cls := .type "tuple_iterator", data := .fields #[.ref t, .int 0 0] }).objs.size = h0.objs.size + 1 := Heap.size_push ..
  have q' := q
  rw [← z] at q'
  wp_walk using PySem.wpAny_pyIter_tuple isT
  refine wpAny_stack_any fun fr => wpAny_pure ?_
  split
  · rename_i cc _ _ _ _ _
    cases (cc == Value.type "enumerate")
    · wp_walk using PySem.wpAny_pyIter_tuple isT
      exact ⟨_, rfl, q'⟩
    · wp_walk using PySem.wpAny_pyIter_tuple isT
      exact ⟨_, rfl, q'⟩
  · wp_walk using PySem.wpAny_pyIter_tuple isT
    exact ⟨_, rfl, q'⟩
end
section
variable {prog : Program} {w : World} {A : Around} {E : Value → Shared → Prop} {s : Shared}
theorem call_enumT {t : Addr} {its : Array Value} {Q : Value → Shared → Prop} (isT : s.heap.IsTuple t its)
    (k : ∀ h', IsEnum h' (s.heap.objs.size + 1) s.heap.objs.size 0 .none → h'.IsTupleIter s.heap.objs.size t 0 → (∀ b o, s.heap.get? b = some o → h'.get? b = some o) →
      Q (.ref (s.heap.objs.size + 1)) { s with heap := h' }) : wpAny (model prog w) A (call (.type "enumerate") [.ref t]) Q E s := by
  have m := meets_enumT t its
  refine callType_new F.called_enumerate (by decide) (F.typeCall_enumerate_1 _) (F.newCall_enumerate_1 _) (fun o => F.args_object_init_2 o _) F.entry_enumerate_new m ⟨isT, ?_⟩
  have z : (Heap.push s.heap { cls := .type "tuple_iterator", data := .fields #[.ref t, .int 0 0] }).objs.size = s.heap.objs.size + 1 := Heap.size_push ..
  have g := Heap.get?_push_size (Heap.push s.heap { cls := .type "tuple_iterator", data := .fields #[.ref t, .int 0 0] })
    (o := { cls := .type "enumerate", data := .fields #[.none, .bool false, .ref s.heap.objs.size, rawInt 0, .none, .none] }) rfl
  rw [z] at g
  exact ⟨⟨_, g, rfl⟩, k _ g ⟨_, Heap.get?_push_of_some _ (Heap.get?_push_size _ rfl), rfl, rfl⟩ fun b o x => Heap.get?_push_of_some _ (Heap.get?_push_of_some _ x)⟩
end
/-- the i-th pair is new: its place and the tuple's item -/
def Iet (K : PySem.W.Frag) (a : Addr) : It :=
  ⟨fun i H => ∃ (xs : List V) (x : V), SqT K H a xs ∧ xs[i]? = some x,
   fun i H v H' => ∃ p x, v = .ref p ∧ H p = none ∧ H' = upd H p (.tup [.int (i : Nat), x]) ∧ ∀ xs, SqT K H a xs → xs[i]? = some x,
   fun i H => ∃ xs : List V, SqT K H a xs ∧ xs.length ≤ i⟩
theorem turn_enumT {P : Program} {w : World} {K : PySem.W.Frag} {es : List Expr} {c : Nat} {tp : Pos} (a e it : Addr) :
    Turn P w K (.Tuple es c tp) (Iet K a) [e, it] e (fun i h => (∃ old, IsEnum h e it ((i : Nat) : Int) old) ∧ h.IsTupleIter it a i ∧ e ≠ it) := by
  have two : ∀ b, b ∈ [e, it] → b = e ∨ b = it := fun b hb => by simpa using hb
  constructor
  case mem => simp
  case obj =>
    rintro i h ⟨⟨old, he⟩, ⟨o, ho, hc, hd⟩, _⟩ b hb
    rcases two b hb with rfl | rfl
    · exact ⟨_, he, fun v q => nomatch q⟩
    · exact ⟨o, ho, fun v q => by rw [hd] at q; cases q⟩
  case keep =>
    rintro i h h' ⟨⟨old, he⟩, hi, ne⟩ k
    exact ⟨⟨old, k e (by simp) _ he⟩, hi.at fun o q => k it (by simp) o q, ne⟩
  case item =>
    rintro X rfl rfl rfl hC i pins s σ H E I hf ⟨⟨old, he⟩, hit, ne⟩ ⟨xs, x, hq, hx⟩
    obtain ⟨its, rv, p, hz⟩ := I.tuple hq
    obtain ⟨u, hu, ru⟩ := rv.get hx
    have le : e < s.heap.objs.size := Heap.lt_size he
    have li : it < s.heap.objs.size := by obtain ⟨_, q, _⟩ := hit; exact Heap.lt_size q
    have pt : s.heap.IsTuple a its.toArray := p
    have na : a ≠ it := fun z => by
      obtain ⟨o1, q1, c1, _⟩ := hit
      obtain ⟨o2, q2, c2, _⟩ := pt
      rw [z, q1] at q2
      cases q2
      rw [c1] at c2
      exact absurd c2 (by simp)
    have nb : e ≠ a := fun z => by
      obtain ⟨o2, q2, c2, _⟩ := pt
      have q3 : s.heap.get? e = _ := he
      rw [z, q2] at q3
      cases q3
      exact absurd c2 (by simp)
    have Dr := Draws.tuple (prog := X.prog) (w := X.w) (A := X.A.in1) (I.ok.hd hC) it a na its.toArray
    refine wpAny_pyNext_enum_itemD (i := i) Dr he ⟨hit, pt⟩ (by simpa using (List.getElem?_eq_some_iff.mp hu).1) ne (by simp [ne, nb]) fun x' h' tk px ho st hT hsz hk => ?_
    have ex : x' = u := by
      have q : its.toArray[i]? = some x' := px
      rw [List.getElem?_toArray, hu] at q
      exact (Option.some.inj q).symm
    subst ex
    refine ⟨_, rfl, wpAny_letOwnedTupleGo_enum (s := { s with heap := h', toks := tk + 1 }) ho fun h2 he2 sb => ?_⟩
    have hT2 : h2.get? s.heap.objs.size = some { cls := .type "tuple", data := .seq #[.int i tk, x'] } := (sb.2 _ (Nat.ne_of_gt le)).trans hT
    have new : ObjOk X.prog X.w (upd H s.heap.objs.size (.tup [.int (i : Nat), x])) h2 s.heap.objs.size (.tup [.int (i : Nat), x]) :=
      ⟨(by decide : 2 ≤ sizeLine), [.int i tk, x'], .cons ⟨_, rfl⟩ (.cons ru .nil), ⟨_, hT2, rfl, _, rfl⟩⟩
    have I1 : Inv X pins σ (upd H s.heap.objs.size (.tup [.int (i : Nat), x])) { s with heap := h2, toks := tk + 1 } :=
      I.turnedNew (ch := [e, it]) (fun b ob hb q => (sb.2 b (fun z => hb (by simp [z]))).trans (hk b ob (fun z => hb (by simp [z])) (fun z => hb (by simp [z])) q)) hf (Nat.le_refl _) new
    refine ⟨.ref s.heap.objs.size, _, I1, rfl, ⟨_, x, rfl, I.hok.fresh (Nat.le_refl _), rfl, fun ys hy => ?_⟩, ⟨⟨x', ?_⟩, ?_, ne⟩, fun b hb => ?_⟩
    · rw [I.tuple_inj hy hq]; exact hx
    · have e1 : ((i + 1 : Nat) : Int) = (i : Int) + 1 := by omega
      rw [e1]; exact he2
    · exact st.1.at fun o q => (sb.2 it (Ne.symm ne)).trans q
    · have lb : b < s.heap.objs.size := by rcases two b hb with rfl | rfl <;> assumption
      rw [upd_ne (Nat.ne_of_lt lb)]
      exact (hf b hb).1
  case done =>
    rintro X rfl rfl rfl hC i pins s σ H E I hf ⟨⟨old, he⟩, hit, ne⟩ ⟨xs, hq, hx⟩
    obtain ⟨its, rv, p, hz⟩ := I.tuple hq
    have pt : s.heap.IsTuple a its.toArray := p
    have na : a ≠ it := fun z => by
      obtain ⟨o1, q1, c1, _⟩ := hit
      obtain ⟨o2, q2, c2, _⟩ := pt
      rw [z, q1] at q2
      cases q2
      rw [c1] at c2
      exact absurd c2 (by simp)
    have out : its.toArray[i]? = none := by
      have hl := rv.length
      rw [List.getElem?_toArray]
      exact List.getElem?_eq_none (by omega)
    have Dr : Draws X.prog X.w X.A.in1 it [it, a] i (fun _ _ => True) (fun j h => j = i ∧ h.IsTupleIter it a j ∧ h.IsTuple a its.toArray) :=
      { live := fun j h st => by obtain ⟨_, ⟨o, ho, _⟩, _⟩ := st; exact ⟨o, ho⟩
        frame := fun j h h' st hk => ⟨st.1, st.2.1.at fun o e => hk it (by simp) o e, st.2.2.at fun o e => hk a (by simp) o e⟩
        item := fun j s Q E hj st hQ => absurd st.1 (Nat.ne_of_lt hj)
        done := fun s Q E st hE => wpAny_nextOf_tuple_end (A := X.A.in1) (I.ok.hd hC) st.2.1 st.2.2 out hE }
    obtain ⟨f0, f1, f2, f3, f4, f5⟩ := hf it (by simp)
    exact wpAny_pyNext_enum_endD Dr he ⟨rfl, hit, pt⟩ fun h' eb => ⟨rfl, I.turned (t' := s.toks) (fun b o hb q => eb b o hb q) f0 f1 f3 f4 f5⟩
  case self =>
    rintro A i s Q E ⟨⟨_, he⟩, _⟩ h
    exact wpAny_pyIter_enum he h
def iEnumT (K : PySem.W.Frag) (ta : TA) : TI := fun σ H R => ta σ H fun vs H1 => ∃ a xs, vs = [.ref a] ∧ SqT K H1 a xs ∧ R (Iet K a) H1
theorem pi_enumT {X : Cx} {e : Expr} {ta : TA} {p pos tpos : Pos} {es : List Expr} {c : Nat} (hg : Gl X "enumerate") (hm : X.mg "enumerate" = none) (ha : PA X [e] ta)
    (hs : starEach [e] X.env = [(false, eval e X.env)] := by rfl) : PI X (.Tuple es c tpos) (.Call (.Name "enumerate" p) [e] [] pos) (iEnumT X.K ta) := by
  constructor
  intro pins s σ H R I h
  refine PyProof.Rows.Call_ (ld_blt I hg hm (show bootBuiltins "enumerate" = some (.type "enumerate") by decide +kernel) (PyProof.Rows.callWith_type1 (thn (ha.run pos pins s σ H _ I h) ?_) hs rfl))
  rintro us s1 ⟨vs, H1, I1, r1, a, xs, rfl, hq, q⟩
  obtain ⟨u, rfl, ru⟩ := vals1 r1
  cases ru
  obtain ⟨its, rv, p', hz⟩ := I1.tuple hq
  have pt : s1.heap.IsTuple a its.toArray := p'
  refine call_enumT pt fun h' he hit hk => wpAny_pyIter_enum he ?_
  have I2 : Inv X pins σ H1 { s1 with heap := h' } := I1.kept (t' := s1.toks) hk
  refine ⟨s1.heap.objs.size + 1, [s1.heap.objs.size + 1, s1.heap.objs.size], _, _, H1, rfl, I2, turn_enumT a (s1.heap.objs.size + 1) s1.heap.objs.size, ⟨⟨.none, he⟩, hit, Nat.succ_ne_self _⟩, fun b hb => ?_, q⟩
  have lb : s1.heap.objs.size ≤ b := by
    have two : b = s1.heap.objs.size + 1 ∨ b = s1.heap.objs.size := by simpa using hb
    rcases two with rfl | rfl
    · exact Nat.le_succ _
    · exact Nat.le_refl _
  exact I1.fpOk lb (I1.hok.fresh lb)
/-- over a tuple that stands still, the place and the item in a new pair -/
theorem for_enumT {K : PySem.W.Frag} {a : Addr} {xs : List V} {g : TG} {tb : TS} {D : Ends} {σ : L2.St} {H : Hp} (Pv : Nat → L2.St → Hp → Prop) (h0 : Pv 0 σ H) (hl : ∀ i σ H, i ≤ xs.length → Pv i σ H → SqT K H a xs)
    (hs : ∀ i x p σ H, xs[i]? = some x → Pv i σ H → H p = none → g (.ref p) σ (upd H p (.tup [.int (i : Nat), x])) fun σ2 H2 => tb { D with nx := Pv (i + 1), ct := Pv (i + 1), bk := D.nx } σ2 H2) (hd : ∀ σ H, Pv xs.length σ H → D.nx σ H) :
    ∃ W : Nat → Nat → L2.St → Hp → Prop, (∃ m, W 0 m σ H) ∧ ∀ i m σ H, W i m σ H → ((Iet K a).stop i H ∧ D.nx σ H) ∨
      ((Iet K a).go i H ∧ ∃ N : L2.St → Hp → Prop, (∀ σ' H', N σ' H' → ∃ m', m' < m ∧ W (i + 1) m' σ' H') ∧ ∀ x H', (Iet K a).yld i H x H' → g x σ H' fun σ2 H2 => tb { D with nx := N, ct := N, bk := D.nx } σ2 H2) := by
  refine ⟨fun i m σ H => m + i = xs.length ∧ Pv i σ H, ⟨xs.length, by simp, h0⟩, fun i m σ H ⟨em, hP⟩ => ?_⟩
  have sq := hl i σ H (by omega) hP
  by_cases c : i < xs.length
  · refine .inr ⟨⟨xs, xs[i], sq, List.getElem?_eq_getElem c⟩, Pv (i + 1), fun σ' H' z => ⟨m - 1, by omega, by omega, z⟩, ?_⟩
    rintro v H' ⟨p, x, rfl, hp, rfl, hx⟩
    exact hs i x p σ H (hx xs sq) hP hp
  · have e : i = xs.length := by omega
    exact .inl ⟨⟨xs, sq, by omega⟩, hd σ H (e ▸ hP)⟩
/-! ### machines as data -/
structure Stp where
  b : Nat
  c : Nat
  e : Nat
  g : Int
structure MD where
  n : Nat
  ss : List Stp
  es : List Nat
def stpV (s : Stp) : List V := [.int (s.b : Nat), .str ⟨#[s.c]⟩, .int (s.e : Nat), .int s.g]
structure Stp.Ok (n : Nat) (s : Stp) : Prop where
  b : s.b < n
  c : 97 ≤ s.c
  c' : s.c ≤ 100
  e : s.e < n
  g : -(10 ^ 30) ≤ s.g
  g' : s.g ≤ 10 ^ 30
def Stp.lt (s t : Stp) : Prop := s.b < t.b ∨ (s.b = t.b ∧ s.c < t.c)
structure MD.Ok (m : MD) : Prop where
  n1 : 1 ≤ m.n
  n8 : m.n ≤ 8
  ok : ∀ s ∈ m.ss, s.Ok m.n
  up : m.ss.Pairwise Stp.lt
  len : m.ss.length ≤ 32
  eb : ∀ e ∈ m.es, e < m.n
  eu : m.es.Pairwise (· < ·)
  el : m.es.length ≤ 8
/-- steps alone, whatever the number of stands -/
structure StOk (N : Nat) (s : Stp) : Prop where
  b : s.b < N
  c : 97 ≤ s.c
  c' : s.c ≤ 100
  e : s.e < N
  g : -(10 ^ 32) ≤ s.g
  g' : s.g ≤ 10 ^ 32
structure SsOk (N : Nat) (ss : List Stp) : Prop where
  n1 : 1 ≤ N
  n64 : N ≤ 63
  ok : ∀ s ∈ ss, StOk N s
  len : ss.length ≤ 300
theorem MD.Ok.sok {m : MD} (o : m.Ok) : SsOk m.n m.ss := ⟨o.n1, by have := o.n8; omega, fun s h => let k := o.ok s h; ⟨k.b, k.c, k.c', k.e, by have := k.g; omega, by have := k.g'; omega⟩, by have := o.len; omega⟩
/-- the steps' tuples -/
def StpsAt (K : PySem.W.Frag) (H : Hp) (vs : List V) (ss : List Stp) : Prop := vs.length = ss.length ∧ ∀ (i : Nat) (s : Stp), ss[i]? = some s → ∃ p, vs[i]? = some (V.ref p) ∧ SqT K H p (stpV s)
def nats (es : List Nat) : List V := es.map fun e => V.int (e : Nat)
def StAt (K : PySem.W.Frag) (H : Hp) (t : Addr) (ss : List Stp) : Prop := ∃ us, SqT K H t us ∧ StpsAt K H us ss
/-- steps and ends as they stand -/
def PartsAt (K : PySem.W.Frag) (H : Hp) (t u : Addr) (m : MD) : Prop := (∃ vs, SqT K H t vs ∧ StpsAt K H vs m.ss) ∧ SqT K H u (nats m.es)
def DAt (K : PySem.W.Frag) (H : Hp) (d : Addr) (m : MD) : Prop := ∃ t u, H d = some (.dK [(.inr "stands", .int (m.n : Nat)), (.inr "steps", .ref t), (.inr "ends", .ref u)]) ∧ PartsAt K H t u m
def mfs (n : Nat) (t u : Addr) : List (Str × V) := [("_stands", .int (n : Nat)), ("_steps", .ref t), ("_ends", .ref u)]
def MAt (K : PySem.W.Frag) (C : Addr) (H : Hp) (x : Addr) (m : MD) : Prop := ∃ dx t u, H x = some (.ins C dx (mfs m.n t u)) ∧ PartsAt K H t u m
section
variable {K : PySem.W.Frag} {a : Addr} {H H' : Hp}
/-- tuples stay -/
def Tups (H H' : Hp) : Prop := (∀ b xs, H b = some (.tup xs) → H' b = some (.tup xs)) ∧ ∀ b o xs, H b = some (.frz o (.tup xs)) → H' b = some (.frz o (.tup xs))
theorem Tups.trans {H H1 H2 : Hp} (a : Tups H H1) (b : Tups H1 H2) : Tups H H2 := ⟨fun c xs e => b.1 c xs (a.1 c xs e), fun c o xs e => b.2 c o xs (a.2 c o xs e)⟩
theorem Tups.sq {p : Addr} {xs : List V} (k : Tups H H') (h : SqT K H p xs) : SqT K H' p xs := by
  rcases h with (h | ⟨o, h⟩) | h
  · exact .inl (.inl (k.1 _ _ h))
  · exact .inl (.inr ⟨o, k.2 _ _ _ h⟩)
  · exact .inr h
theorem Tups.steps {vs : List V} {ss : List Stp} (k : Tups H H') (h : StpsAt K H vs ss) : StpsAt K H' vs ss := ⟨h.1, fun i s e => let ⟨p, e1, q⟩ := h.2 i s e; ⟨p, e1, k.sq q⟩⟩
theorem Tups.stAt {t : Addr} {ss : List Stp} (k : Tups H H') (h : StAt K H t ss) : StAt K H' t ss := let ⟨us, q, z⟩ := h; ⟨us, k.sq q, k.steps z⟩
theorem Tups.parts {t u : Addr} {m : MD} (k : Tups H H') (h : PartsAt K H t u m) : PartsAt K H' t u m := let ⟨⟨vs, q, z⟩, r⟩ := h; ⟨⟨vs, k.sq q, k.steps z⟩, k.sq r⟩
theorem same_tups (k : Same H H') : Tups H H' := ⟨fun _ _ e => k _ _ e, fun _ _ _ e => k _ _ e⟩
theorem Keep.tups {l : List V} (k : Keep a H H') (ha : H a = some (.lst l)) : Tups H H' := ⟨fun b _ e => k _ _ (fun z => by rw [z, ha] at e; cases e) e, fun b _ _ e => k _ _ (fun z => by rw [z, ha] at e; cases e) e⟩
theorem Tups.new {p : Addr} {o : HO} (h : H p = none) : Tups H (upd H p o) := same_tups (Same.new h)
theorem Tups.lst {p : Addr} {xs : List V} {o : HO} (h : H p = some (.lst xs)) : Tups H (upd H p o) := Keep.tups (Keep.at_) h
theorem DAt.keep {d : Addr} {m : MD} {l : List V} (h : DAt K H d m) (k : Keep a H H') (ha : H a = some (.lst l)) : DAt K H' d m :=
  let ⟨t, u, e, q⟩ := h; ⟨t, u, k _ _ (fun z => by rw [z, ha] at e; cases e) e, (k.tups ha).parts q⟩
theorem MAt.keep {C x : Addr} {m : MD} {l : List V} (h : MAt K C H x m) (k : Keep a H H') (ha : H a = some (.lst l)) : MAt K C H' x m :=
  let ⟨dx, t, u, e, q⟩ := h; ⟨dx, t, u, k _ _ (fun z => by rw [z, ha] at e; cases e) e, (k.tups ha).parts q⟩
theorem DAt.same {d : Addr} {m : MD} (h : DAt K H d m) (k : Same H H') : DAt K H' d m := let ⟨t, u, e, q⟩ := h; ⟨t, u, k _ _ e, (same_tups k).parts q⟩
theorem MAt.same {C x : Addr} {m : MD} (h : MAt K C H x m) (k : Same H H') : MAt K C H' x m := let ⟨dx, t, u, e, q⟩ := h; ⟨dx, t, u, k _ _ e, (same_tups k).parts q⟩
theorem StpsAt.snoc {vs : List V} {ss : List Stp} {p : Addr} {s : Stp} (h : StpsAt K H vs ss) (q : SqT K H p (stpV s)) : StpsAt K H (vs ++ [V.ref p]) (ss ++ [s]) := by
  refine ⟨by rw [List.length_append, List.length_append, h.1]; rfl, fun i t e => ?_⟩
  by_cases c : i < ss.length
  · rw [List.getElem?_append_left c] at e
    obtain ⟨r, e1, q1⟩ := h.2 i t e
    exact ⟨r, by rw [List.getElem?_append_left (by rw [h.1]; exact c)]; exact e1, q1⟩
  · rw [List.getElem?_append_right (by omega)] at e
    have z : i - ss.length = 0 := by
      have := (List.getElem?_eq_some_iff.mp e).1
      simp at this
      omega
    rw [z] at e
    cases e
    exact ⟨p, by rw [List.getElem?_append_right (by rw [h.1]; omega), h.1, z]; rfl, q⟩
end
/-! ### what a machine checks -/
def NotInt (K : PySem.W.Frag) (H : Hp) (v : V) : Prop := (∃ b, v = .bl b) ∨ ∃ t, TyX K H v t ∧ PySem.W.kitOne K t (.type "int") = some false
theorem k_isi {K : PySem.W.Frag} {H : Hp} {Q : VK} {x c : V} {t u : Value} {b : Bool} (hc : ClsV c u) (ht : TyX K H x t) (hk : PySem.W.kitOne K t u = some b) (h : Q (.bl b) H) : rIsi K [x, c] H Q := ⟨x, c, t, u, b, rfl, hc, ht, hk, h⟩
theorem k_chain {r r' : R2} {ta tb tc : TE} {σ : L2.St} {H : Hp} {Q : VK} (h : ta σ H fun x H1 => tb σ H1 fun y H2 => r x y H2 fun z H3 => ∃ k, z = .bl k ∧
  (if k = true then tc σ H3 fun w' H4 => r' y w' H4 Q else Q (.bl false) H3)) : tChain r r' ta tb tc σ H Q := h
def sp_whole (K : PySem.W.Frag) : Sp := fun vs H Q _ => ∃ v : V, vs = [v] ∧ ((∃ i, v = .int i ∧ Q (.bl true) H) ∨ (NotInt K H v ∧ Q (.bl false) H))
def sp_between (K : PySem.W.Frag) : Sp := fun vs H Q _ => ∃ (v : V) (lo hi : Int), vs = [v, .int lo, .int hi] ∧ ((∃ i, v = .int i ∧ Q (.bl (decide (lo ≤ i ∧ i ≤ hi))) H) ∨ (NotInt K H v ∧ Q (.bl false) H))
def sp_is_stand (K : PySem.W.Frag) : Sp := fun vs H Q _ => ∃ (v : V) (n : Int), vs = [.int n, v] ∧ ((∃ i, v = .int i ∧ Q (.bl (decide (0 ≤ i ∧ i < n))) H) ∨ (NotInt K H v ∧ Q (.bl false) H))
def sp_check_stands (K : PySem.W.Frag) : Sp := fun vs H Q _ => ∃ n : Int, vs = [.int n] ∧ 1 ≤ n ∧ n ≤ 8 ∧ Q .non H
section
variable {P : Program} {w : World} {K : PySem.W.Frag} {mg : Str → Option Value} {base : Heap}
theorem ok_is_whole_number (T : Txt K mg) : FnOk P w K mg base (L2.CX P w) 1 T.a_is_whole_number T.fd_is_whole_number ["value"] (sp_whole K) := by
  refine T.F_is_whole_number.okX sc_is_whole_number (fun vs H Q E h => ?_) (fun cdv A outer s H vs Q E hr h => ?_)
  · obtain ⟨v, rfl, _⟩ := h
    rfl
  · obtain ⟨v, rfl, k⟩ := h
    refine ⟨_, (PSs.nox (pss_one (ps_ret (pe_and (pe_callB call_isi (by rfl) T.z_isinstance (by decide +kernel) (pa_cons (pv 0) (pa_cons (pe_bltn (v := .ty "int") (by rfl) T.z_int (by decide +kernel) rfl) pa_nil))) (pe_one (pe_not (pe_callB call_isi (by rfl) T.z_isinstance (by decide +kernel) (pa_cons (pv 0) (pa_cons (pe_bltn (v := .ty "bool") (by rfl) T.z_bool (by decide +kernel) rfl) pa_nil))))))))), ?_⟩
    walk_at "begin"
    walk_at "go"
    rcases k with ⟨i, rfl, k⟩ | ⟨⟨b, rfl⟩ | ⟨t, ht, hk⟩, k⟩
    · refine k_isi (.ty _) (.base (.int i)) (kit_ty (b := "int") (r := true) (by decide +kernel)) ?_
      walk_at "go"
      refine iteT ?_
      walk_at "go"
      refine k_isi (.ty _) (.base (.int i)) (kit_ty (b := "bool") (r := false) (by decide +kernel)) ?_
      walk_at "go"
      exact k
    · refine k_isi (.ty _) (.base (.bl b)) (kit_ty (b := "int") (r := true) (by decide +kernel)) ?_
      walk_at "go"
      refine iteT ?_
      walk_at "go"
      refine k_isi (.ty _) (.base (.bl b)) (kit_ty (b := "bool") (r := true) (by decide +kernel)) ?_
      walk_at "go"
      exact k
    · refine k_isi (.ty _) ht hk ?_
      walk_at "go"
      exact iteF k
theorem ok_is_integer_between (T : Txt K mg) : FnOk P w K mg base (L2.CX P w) 2 T.a_is_integer_between T.fd_is_integer_between ["value", "least", "most"] (sp_between K) := by
  refine T.F_is_integer_between.okX sc_is_integer_between (fun vs H Q E h => ?_) (fun cdv A outer s H vs Q E hr h => ?_)
  · obtain ⟨v, lo, hi, rfl, _⟩ := h
    rfl
  · obtain ⟨v, lo, hi, rfl, k⟩ := h
    refine ⟨_, (PSs.nox (pss_one (ps_ret (pe_and (pe_call (ok_is_whole_number T) (hr.mono (by decide)) (by rfl) T.m_is_whole_number T.k_is_whole_number T.b_is_whole_number .nil passL (pa_cons (pv 0) pa_nil)) (pe_one (pe_chain op_le op_le (pv 1) (pv 0) (pv 2))))))), ?_⟩
    walk_at "begin"
    walk_at "go"
    rcases k with ⟨i, rfl, k⟩ | ⟨ni, k⟩
    · refine ⟨_, rfl, .inl ⟨i, rfl, ?_⟩⟩
      walk_at "go"
      refine iteT (k_chain ?_)
      walk_at "go"
      refine k_ite (fun c => ?_) (fun c => ?_)
      · walk_at "go"
        rw [decide_eq_decide.mpr (show lo ≤ i ∧ i ≤ hi ↔ i ≤ hi from ⟨fun z => z.2, fun z => ⟨c, z⟩⟩)] at k
        exact k
      · walk_at "go"
        rw [decide_eq_false (show ¬ (lo ≤ i ∧ i ≤ hi) from fun z => c z.1)] at k
        exact k
    · refine ⟨_, rfl, .inr ⟨ni, ?_⟩⟩
      walk_at "go"
      exact iteF k
theorem ok_is_stand (T : Txt K mg) : FnOk P w K mg base (L2.CX P w) 3 T.a_is_stand T.fd_is_stand ["stands", "value"] (sp_is_stand K) := by
  refine T.F_is_stand.okX sc_is_stand (fun vs H Q E h => ?_) (fun cdv A outer s H vs Q E hr h => ?_)
  · obtain ⟨v, n, rfl, _⟩ := h
    rfl
  · obtain ⟨v, n, rfl, k⟩ := h
    refine ⟨_, (PSs.nox (pss_one (ps_ret (pe_call (ok_is_integer_between T) (hr.mono (by decide)) (by rfl) T.m_is_integer_between T.k_is_integer_between T.b_is_integer_between .nil passL (pa_cons (pv 1) (pa_cons pe_int (pa_cons (pe_op op_sub (pv 0) pe_int) pa_nil))))))), ?_⟩
    walk_at "begin"
    walk_at "go"
    refine ⟨v, 0, n - 1, rfl, ?_⟩
    rcases k with ⟨i, rfl, k⟩ | ⟨ht, k⟩
    · refine .inl ⟨i, rfl, ?_⟩
      rw [decide_eq_decide.mpr (show (0 ≤ i ∧ i < n) ↔ (0 ≤ i ∧ i ≤ n - 1) by omega)] at k
      exact k
    · exact .inr ⟨ht, k⟩
theorem ok_check_stands (T : Txt K mg) : FnOk P w K mg base (L2.CX P w) 3 T.a_check_stands T.fd_check_stands ["stands"] (sp_check_stands K) := by
  refine T.F_check_stands.okX sc_check_stands (fun vs H Q E h => ?_) (fun cdv A outer s H vs Q E hr h => ?_)
  · obtain ⟨n, rfl, _⟩ := h
    rfl
  · obtain ⟨n, rfl, n1, n8, k⟩ := h
    refine ⟨_, (PSs.nox (pss_one (ps_if (pt_not (pt_val (pe_call (ok_is_integer_between T) (hr.mono (by decide)) (by rfl) T.m_is_integer_between T.k_is_integer_between T.b_is_integer_between .nil passL (pa_cons (pv 0) (pa_cons pe_int (pa_cons (pe_glob (by rfl) T.m_MOST_STANDS T.r_MOST_STANDS) pa_nil))))))
  (pss_one ps_never)
  pss_nil))), ?_⟩
    walk_at "begin"
    walk_at "go"
    refine ⟨_, 1, 8, rfl, .inl ⟨n, rfl, ?_⟩⟩
    rw [decide_eq_true (show 1 ≤ n ∧ n ≤ 8 from ⟨n1, n8⟩)]
    walk_at "go"
    refine iteF ?_
    walk_at "go"
    exact k
end
/-! ### (int, text) <= (int, text) -/
def le2 (i : Int) (s : Str) (j : Int) (t : Str) : Bool := if i = j then (if s = t then true else !decide (t.cps.toList < s.cps.toList)) else decide (i ≤ j)
def rLe2 (K : PySem.W.Frag) : R2 := fun x y H Q => ∃ (a b : Addr) (i j : Int) (s t : Str), x = .ref a ∧ y = .ref b ∧ SqT K H a [.int i, .str s] ∧ SqT K H b [.int j, .str t] ∧ Q (.bl (le2 i s j t)) H
theorem op_le2 {X : Cx} (hu : X.A.units < cLine) : OpR X (compareOp .LtE) (rLe2 X.K) := by
  rintro pins st σ H x y v u Q I rx ry ⟨a, b, i, j, s, t, rfl, rfl, ha, hb, q⟩
  cases rx
  cases ry
  obtain ⟨us, r1, p1, _⟩ := I.tuple ha
  obtain ⟨ws, r2, p2, _⟩ := I.tuple hb
  obtain ⟨u1, u2, rfl, ⟨k1, rfl⟩, ⟨k2, rfl⟩⟩ := vals2 r1
  obtain ⟨w1, w2, rfl, ⟨l1, rfl⟩, ⟨l2, rfl⟩⟩ := vals2 r2
  have R := Ob.RcOp.tuples_le (A := X.A) (s := st) (e := fun n => if n = 0 then (i == j) else decide (s = t)) (r := fun n => if n = 0 then decide (i ≤ j) else !decide (t.cps.toList < s.cps.toList)) p1 p2 hu
    (fun n h1 h2 => by
      have n2 : n < 2 := h1
      match n, n2 with
      | 0, _ => exact SeqAt.EqAt.int_int _ _ _ _
      | 1, _ => exact SeqAt.EqAt.str_str _ _ _ _)
    (fun n h1 h2 _ => by
      have n2 : n < 2 := h1
      match n, n2 with
      | 0, _ => exact Ob.RcOp.le_int _ _ _ _
      | 1, _ => exact fun prog w E Q hQ => PySem.P.le_str hQ)
  have z : Ob.lexAt (fun n => if n = 0 then (i == j) else decide (s = t)) (fun n => if n = 0 then decide (i ≤ j) else !decide (t.cps.toList < s.cps.toList)) (decide ((2 : Nat) ≤ 2)) 0 (min 2 2) = le2 i s j t := by
    show Ob.lexAt _ _ _ 0 2 = _
    rw [Ob.lexAt_succ]
    unfold le2
    by_cases c : i = j
    · have c' : (i == j) = true := beq_iff_eq.mpr c
      simp only [if_pos, c', if_pos c]
      rw [Ob.lexAt_succ]
      by_cases d : s = t
      · simp [d, Ob.lexAt_zero]
      · simp [d]
    · have c' : (i == j) = false := beq_eq_false_iff_ne.mpr c
      simp [c']
      exact fun z => absurd z c
  have R' := R X.prog X.w X.xe (EP X pins σ Q) ⟨.bl _, H, I, rfl, (by rw [← z] at q; exact q)⟩
  exact R'
/-! ### steps, ends, machines -/
theorem ty_tup {K : PySem.W.Frag} {H : Hp} {p : Addr} {xs : List V} (h : SqT K H p xs) : TyX K H (.ref p) (.type "tuple") := by
  rcases h with (h | ⟨o, h⟩) | ⟨o, its, n, h, hc, _⟩
  · exact .base (.tup h)
  · exact .fTuple h
  · exact .kTuple h hc
theorem k_in {K : PySem.W.Frag} {neg : Bool} {H : Hp} {Q : VK} {p : Addr} {x : V} {xs : List V} (h : SqL K H p xs ∨ SqT K H p xs) (fx : flatV x = true) (fa : xs.all flatV = true) (q : Q (.bl (if neg then !inV x xs else inV x xs)) H) : rIn K neg x (.ref p) H Q := ⟨p, xs, rfl, h, fx, fa, q⟩
theorem letter_in {c : Nat} (h : 97 ≤ c) (h' : c ≤ 100) : inV (.str ⟨#[c]⟩) [V.str "a", V.str "b", V.str "c", V.str "d"] = true := by
  have z : c = 97 ∨ c = 98 ∨ c = 99 ∨ c = 100 := by omega
  rcases z with rfl | rfl | rfl | rfl <;> decide
theorem k_slA2 {K : PySem.W.Frag} {H : Hp} {Q : VK} {a : Addr} {x y z u : V} (h : SqT K H a [x, y, z, u]) (q : ∀ p, H p = none → Q (.ref p) (upd H p (.tup [x, y]))) : rSlA K (.ref a) none (some 2) H Q :=
  ⟨a, _, rfl, h, fun e => absurd e (by show ¬ ((0 : Nat) = 0 ∧ (2 : Nat) = 4); decide), fun _ p hp => q p hp⟩
theorem le2_no {s t : Stp} (h : s.lt t) : le2 (t.b : Nat) ⟨#[t.c]⟩ (s.b : Nat) ⟨#[s.c]⟩ = false := by
  unfold le2
  rcases h with h | ⟨h1, h2⟩
  · rw [if_neg (by omega), decide_eq_false (by omega)]
  · rw [if_pos (by omega), if_neg (by intro z; injection z with z; simp at z; omega)]
    simp
    exact List.Lex.rel h2
theorem few {n : Nat} (k : Nat) (h : k < 1000) (q : n ≤ k) : n < 1000 := Nat.lt_of_le_of_lt q h
def sp_is_step (K : PySem.W.Frag) : Sp := fun vs H Q _ => ∃ (n : Nat) (p : Addr) (s : Stp), vs = [.int (n : Nat), .ref p] ∧ SqT K H p (stpV s) ∧ s.Ok n ∧ Q (.bl true) H
def sp_check_steps (K : PySem.W.Frag) : Sp := fun vs H Q _ => ∃ (t : Addr) (us : List V) (m : MD), vs = [.int (m.n : Nat), .ref t] ∧ SqT K H t us ∧ StpsAt K H us m.ss ∧ m.Ok ∧ ∀ H', Same H H' → Q .non H'
def sp_check_ends (K : PySem.W.Frag) : Sp := fun vs H Q _ => ∃ (t : Addr) (m : MD), vs = [.int (m.n : Nat), .ref t] ∧ SqT K H t (nats m.es) ∧ m.Ok ∧ ∀ H', Same H H' → Q .non H'
/-- whether values are ascending integers from l to below n -/
def ascV (n : Int) : Int → List V → Bool
  | _, [] => true
  | l, .int j :: r => decide (l ≤ j ∧ j ≤ n - 1) && ascV n (j + 1) r
  | _, _ => false
theorem ascV_odd {n l : Int} {x : V} {r : List V} (h : ∀ j, x ≠ .int j) : ascV n l (x :: r) = false := by
  cases x with
  | int j => exact (h j rfl).elim
  | _ => rfl
theorem ascV_nats {n : Nat} : ∀ {es : List Nat} {l : Nat}, (∀ e ∈ es, e < n) → es.Pairwise (· < ·) → (∀ e ∈ es, l ≤ e) → ascV (n : Nat) (l : Nat) (nats es) = true
  | [], _, _, _, _ => rfl
  | e :: es, l, h1, h2, h3 => by
    show (decide (((l : Nat) : Int) ≤ (e : Nat) ∧ ((e : Nat) : Int) ≤ (n : Nat) - 1) && ascV (n : Nat) (((e + 1 : Nat)) : Int) (nats es)) = true
    have a := h1 e (List.mem_cons_self ..)
    have b := h3 e (List.mem_cons_self ..)
    have c := List.pairwise_cons.mp h2
    rw [decide_eq_true (by omega), ascV_nats (fun x hx => h1 x (List.mem_cons_of_mem _ hx)) c.2 (fun x hx => c.1 x hx)]
    rfl
def sp_asc (K : PySem.W.Frag) : Sp := fun vs H Q _ => ∃ (v : V) (n : Int), vs = [v, .int n] ∧ ((∃ ty, TyX K H v ty ∧ PySem.W.kitOne K ty (.type "tuple") = some false ∧ Q (.bl false) H) ∨
  ∃ t xs, v = .ref t ∧ SqT K H t xs ∧ (∀ x ∈ xs, (∃ j, x = .int j) ∨ (NotInt K H x ∧ ∀ j, x ≠ .int j)) ∧ Q (.bl (ascV n 0 xs)) H)
def sp_init (K : PySem.W.Frag) (C : Addr) : Sp := fun vs H Q _ => ∃ (x dx t u : Addr) (m : MD), vs = [.ref x, .int (m.n : Nat), .ref t, .ref u] ∧ H x = some (.ins C dx []) ∧ PartsAt K H t u m ∧ m.Ok ∧
  ∀ H', Keep x H H' → H' x = some (.ins C dx (mfs m.n t u)) → Q .non H'
def sp_machine (K : PySem.W.Frag) (C : Addr) : Sp := fun vs H Q _ => ∃ (d : Addr) (m : MD), vs = [.ref d] ∧ DAt K H d m ∧ m.Ok ∧ ∀ x H', Same H H' → H x = none → MAt K C H' x m → Q (.ref x) H'
section
variable {P : Program} {w : World} {K : PySem.W.Frag} {mg : Str → Option Value} {base : Heap}
theorem ok_is_step (T : Txt K mg) : FnOk P w K mg base (L2.CX P w) 4 T.a_is_step T.fd_is_step ["stands", "value"] (sp_is_step K) := by
  refine T.F_is_step.okX sc_is_step (fun vs H Q E h => ?_) (fun cdv A outer s H vs Q E hr h => ?_)
  · obtain ⟨n, p, s, rfl, _⟩ := h
    rfl
  · obtain ⟨n, p, t, rfl, hp, o, k⟩ := h
    refine ⟨_, (PSs.nox (pss_cons (ps_if (PW.pt (pw_or (pt_not (pt_val (pe_callB call_isi (by rfl) T.z_isinstance (by decide +kernel) (pa_cons (pv 1) (pa_cons (pe_bltn (v := .ty "tuple") (by rfl) T.z_tuple (by decide +kernel) rfl) pa_nil))))) (pw_or1 (pt_cmpR op_ne (pe_callB call_len_seq (by rfl) T.z_len PySem.boot_len (pa_cons (pv 1) pa_nil)) pe_int (nomark _)))))
  (pss_one (ps_ret pe_bl))
  pss_nil)
  (pss_cons (ps_asg (pv 1) (pg_tup rfl (pgs_cons (pg_name (i := 2) sc_is_step.nd rfl (Or.inl rfl)) (pgs_cons (pg_name (i := 3) sc_is_step.nd rfl (Or.inl rfl)) (pgs_cons (pg_name (i := 4) sc_is_step.nd rfl (Or.inl rfl)) (pgs_cons (pg_name (i := 5) sc_is_step.nd rfl (Or.inl rfl)) pgs_nil))))))
  (pss_one (ps_ret (pe_and (pe_call (ok_is_stand T) (hr.mono (by decide)) (by rfl) T.m_is_stand T.k_is_stand T.b_is_stand .nil passL (pa_cons (pv 0) (pa_cons (pv 2) pa_nil))) (pe_and (pe_cmpR op_in_seq (pv 3) (pe_glob (by rfl) T.m_LETTERS T.r_LETTERS) (by rfl)) (pe_and (pe_call (ok_is_stand T) (hr.mono (by decide)) (by rfl) T.m_is_stand T.k_is_stand T.b_is_stand .nil passL (pa_cons (pv 0) (pa_cons (pv 4) pa_nil))) (pe_one (pe_call (ok_is_integer_between T) (hr.mono (by decide)) (by rfl) T.m_is_integer_between T.k_is_integer_between T.b_is_integer_between .nil passL (pa_cons (pv 5) (pa_cons (pe_un un_neg (pe_glob (by rfl) T.m_MOST_GAIN T.r_MOST_GAIN)) (pa_cons (pe_glob (by rfl) T.m_MOST_GAIN T.r_MOST_GAIN) pa_nil))))))))))))), ?_⟩
    walk_at "begin"
    walk_at "go"
    refine k_isi (.ty _) (ty_tup hp) (kit_ty (b := "tuple") (r := true) (by decide +kernel)) ?_
    walk_at "go"
    refine iteF ?_
    walk_at "go"
    refine k_len (.inr hp) ?_
    walk_at "go"
    refine iteF ?_
    walk_at "go"
    refine k_gt hp rfl ?_
    unfold stpV
    walk_at "go"
    refine ⟨_, _, rfl, .inl ⟨_, rfl, ?_⟩⟩
    rw [decide_eq_true (show 0 ≤ ((t.b : Nat) : Int) ∧ ((t.b : Nat) : Int) < (n : Nat) from ⟨Int.natCast_nonneg _, by have := o.b; omega⟩)]
    walk_at "go"
    refine iteT ?_
    walk_at "go"
    refine k_in (.inr (T.s_LETTERS _)) rfl (by decide) ?_
    rw [letter_in o.c o.c']
    walk_at "go"
    refine iteT ?_
    walk_at "go"
    refine ⟨_, _, rfl, .inl ⟨_, rfl, ?_⟩⟩
    rw [decide_eq_true (show 0 ≤ ((t.e : Nat) : Int) ∧ ((t.e : Nat) : Int) < (n : Nat) from ⟨Int.natCast_nonneg _, by have := o.e; omega⟩)]
    walk_at "go"
    refine iteT ?_
    walk_at "go"
    refine ⟨_, _, _, rfl, .inl ⟨_, rfl, ?_⟩⟩
    rw [decide_eq_true (show -1000000000000000000000000000000 ≤ t.g ∧ t.g ≤ 1000000000000000000000000000000 from ⟨by have := o.g; omega, by have := o.g'; omega⟩)]
    exact k
theorem ok_check_steps (T : Txt K mg) : FnOk P w K mg base (L2.CX P w) 5 T.a_check_steps T.fd_check_steps ["stands", "steps"] (sp_check_steps K) := by
  refine T.F_check_steps.okX sc_check_steps (fun vs H Q E h => ?_) (fun cdv A outer s H vs Q E hr h => ?_)
  · obtain ⟨t, us, m, rfl, _⟩ := h
    rfl
  · obtain ⟨t, us, m, rfl, ht, hs, o, k⟩ := h
    refine ⟨_, (PSs.nox (pss_cons (ps_if (pt_not (pt_val (pe_callB call_isi (by rfl) T.z_isinstance (by decide +kernel) (pa_cons (pv 1) (pa_cons (pe_bltn (v := .ty "tuple") (by rfl) T.z_tuple (by decide +kernel) rfl) pa_nil)))))
  (pss_one ps_never)
  pss_nil)
  (pss_one (ps_for PassesOwn.never rfl (pi_enumT (by rfl) T.z_enumerate (pa_cons (pv 1) pa_nil)) (pg_tup rfl (pgs_cons (pg_name (i := 2) sc_check_steps.nd rfl (Or.inl rfl)) (pgs_cons (pg_name (i := 3) sc_check_steps.nd rfl (Or.inl rfl)) pgs_nil)))
  (pss_cons (ps_if (pt_not (pt_val (pe_call (ok_is_step T) (hr.mono (by decide)) (by rfl) T.m_is_step T.k_is_step T.b_is_step .nil passL (pa_cons (pv 0) (pa_cons (pv 3) pa_nil)))))
  (pss_one ps_never)
  pss_nil)
  (pss_one (ps_if (PW.pt (pw_and (pt_cmpR op_gt (pv 2) pe_int (nomark _)) (pw_and1 (pt_cmpR (op_le2 hr.units0) (pe_slice sl_tupA (pv 3) po_none (po_some pe_int)) (pe_slice sl_tupA (pe_ix ix_tup (pv 1) (pe_op op_sub (pv 2) pe_int) (fun _ _ => rfl)) po_none (po_some pe_int)) (nomark _)))))
  (pss_one ps_never)
  pss_nil))))))), ?_⟩
    walk_at "begin"
    walk_at "go"
    refine k_isi (.ty _) (ty_tup ht) (kit_ty (b := "tuple") (r := true) (by decide +kernel)) ?_
    walk_at "go"
    refine iteF ?_
    walk_at "go"
    refine ⟨_, rfl, t, us, rfl, ht, for_enumT (xs := us) (fun i σ H' => Same H H' ∧ ∃ a b, σ = [some (.int (m.n : Nat)), some (.ref t), a, b]) ⟨Same.refl _, _, _, rfl⟩ (fun i σ H' _ ⟨z, _⟩ => (same_tups z).sq ht) ?_ ?_⟩
    · rintro i x p σ H1 hx ⟨z, a, b, rfl⟩ hp
      have il : i < m.ss.length := by rw [← hs.1]; exact (List.getElem?_eq_some_iff.mp hx).1
      obtain ⟨q, eq, hq⟩ := hs.2 i _ (List.getElem?_eq_getElem il)
      rw [hx] at eq
      cases eq
      have z1 : Same H (upd H1 p (.tup [.int (i : Nat), .ref q])) := z.trans (Same.new hp)
      have hq1 := (same_tups z1).sq hq
      have ok1 := o.ok _ (List.getElem_mem il)
      refine k_gt (SqT.of upd_same) rfl ?_
      walk_at "go"
      refine ⟨m.n, q, _, rfl, hq1, ok1, ?_⟩
      walk_at "go"
      refine iteF ?_
      walk_at "go"
      refine k_ite (fun c => ?_) (fun c => iteF ?_)
      · walk_at "go"
        have jl : i - 1 < m.ss.length := by omega
        obtain ⟨q2, eq2, hq2⟩ := hs.2 (i - 1) _ (List.getElem?_eq_getElem jl)
        refine k_slA2 hq1 fun p1 n1 => ?_
        have z2 := z1.trans (Same.new (o := .tup [.int ((m.ss[i]'il).b : Nat), .str ⟨#[(m.ss[i]'il).c]⟩]) n1)
        walk_at "go"
        refine k_ixT ((same_tups z2).sq ht) (v := .ref q2) (at_of (j := i - 1) (by omega) eq2) ?_
        walk_at "go"
        refine k_slA2 ((same_tups z2).sq hq2) fun p2 n2 => ?_
        have z3 := z2.trans (Same.new (o := .tup [.int ((m.ss[i - 1]'jl).b : Nat), .str ⟨#[(m.ss[i - 1]'jl).c]⟩]) n2)
        refine ⟨p1, p2, _, _, _, _, rfl, rfl, SqT.of (Same.new n2 _ _ upd_same), SqT.of upd_same, ?_⟩
        · have up := List.pairwise_iff_getElem.mp o.up (i - 1) i jl il (by omega)
          rw [le2_no up]
          walk_at "go"
          refine iteF ?_
          walk_at "go"
          exact ⟨z3, _, _, rfl⟩
      · walk_at "go"
        exact ⟨z1, _, _, rfl⟩
    · rintro σ H1 ⟨z, _⟩
      exact k H1 z
theorem ok_is_ascending (T : Txt K mg) : FnOk P w K mg base (L2.CX P w) 3 T.a_is_ascending T.fd_is_ascending ["value", "many"] (sp_asc K) := by
  refine T.F_is_ascending.okX sc_is_ascending (fun vs H Q E h => ?_) (fun cdv A outer s H vs Q E hr h => ?_)
  · obtain ⟨v, n, rfl, _⟩ := h
    rfl
  · obtain ⟨v, n, rfl, h⟩ := h
    refine ⟨_, (PSs.nox (pss_cons (ps_if (pt_not (pt_val (pe_callB call_isi (by rfl) T.z_isinstance (by decide +kernel) (pa_cons (pv 0) (pa_cons (pe_bltn (v := .ty "tuple") (by rfl) T.z_tuple (by decide +kernel) rfl) pa_nil)))))
  (pss_one (ps_ret pe_bl))
  pss_nil)
  (pss_cons (ps_set (i := 2) sc_is_ascending.nd rfl (Or.inl rfl) pe_int)
  (pss_cons (ps_for PassesOwn.never rfl (pi_tup (pv 0)) (pg_name (i := 3) sc_is_ascending.nd rfl (Or.inl rfl))
  (pss_cons (ps_if (pt_not (pt_val (pe_call (ok_is_integer_between T) (hr.mono (by decide)) (by rfl) T.m_is_integer_between T.k_is_integer_between T.b_is_integer_between .nil passL (pa_cons (pv 3) (pa_cons (pv 2) (pa_cons (pe_op op_sub (pv 1) pe_int) pa_nil))))))
  (pss_one (ps_ret pe_bl))
  pss_nil)
  (pss_one (ps_set (i := 2) sc_is_ascending.nd rfl (Or.inl rfl) (pe_op op_add (pv 3) pe_int)))))
  (pss_one (ps_ret pe_bl)))))), ?_⟩
    walk_at "begin"
    walk_at "go"
    rcases h with ⟨ty, h1, h2, k⟩ | ⟨t, xs, rfl, ht, hx, k⟩
    · refine k_isi (.ty _) h1 h2 ?_
      walk_at "go"
      refine iteT ?_
      walk_at "go"
      exact k
    · refine k_isi (.ty _) (ty_tup ht) (kit_ty (b := "tuple") (r := true) (by decide +kernel)) ?_
      walk_at "go"
      refine iteF ?_
      walk_at "go"
      refine ⟨t, rfl, ⟨_, ht⟩, ?_⟩
      refine for_tup (xs := xs) (fun i σ H' => H' = H ∧ ∃ (l : Int) (a : Option V), σ = [some (.ref t), some (.int n), some (.int l), a] ∧ ascV n 0 xs = ascV n l (xs.drop i)) ⟨rfl, 0, _, rfl, rfl⟩ (fun i σ H' _ ⟨e, _⟩ => by rw [e]; exact ht) ?_ ?_
      · rintro i x σ H1 hx1 ⟨rfl, l, a, rfl, eq⟩
        have il : i < xs.length := (List.getElem?_eq_some_iff.mp hx1).1
        have dr : xs.drop i = x :: xs.drop (i + 1) := by rw [List.drop_eq_getElem_cons il, (List.getElem?_eq_some_iff.mp hx1).2]
        rw [dr] at eq
        walk_at "go"
        rcases hx x (List.mem_of_getElem? hx1) with ⟨j, rfl⟩ | ⟨ni, nj⟩
        · refine ⟨_, _, _, rfl, .inl ⟨j, rfl, ?_⟩⟩
          by_cases c : l ≤ j ∧ j ≤ n - 1
          · rw [decide_eq_true c]
            walk_at "go"
            refine iteF ?_
            walk_at "go"
            refine ⟨rfl, _, _, rfl, ?_⟩
            rw [eq]
            show (decide (l ≤ j ∧ j ≤ n - 1) && ascV n (j + 1) (xs.drop (i + 1))) = _
            rw [decide_eq_true c]
            rfl
          · rw [decide_eq_false c]
            walk_at "go"
            refine iteT ?_
            walk_at "go"
            have e2 : ascV n 0 xs = false := by
              rw [eq]
              show (decide (l ≤ j ∧ j ≤ n - 1) && ascV n (j + 1) (xs.drop (i + 1))) = _
              rw [decide_eq_false c]
              rfl
            rw [e2] at k
            exact k
        · refine ⟨_, _, _, rfl, .inr ⟨ni, ?_⟩⟩
          walk_at "go"
          refine iteT ?_
          walk_at "go"
          have e2 : ascV n 0 xs = false := by
            rw [eq]
            exact ascV_odd nj
          rw [e2] at k
          exact k
      · rintro σ H1 ⟨rfl, l, a, rfl, eq⟩
        rw [List.drop_length] at eq
        rw [eq] at k
        walk_at "go"
        exact k
theorem ok_check_ends (T : Txt K mg) : FnOk P w K mg base (L2.CX P w) 4 T.a_check_ends T.fd_check_ends ["stands", "ends"] (sp_check_ends K) := by
  refine T.F_check_ends.okX sc_check_ends (fun vs H Q E h => ?_) (fun cdv A outer s H vs Q E hr h => ?_)
  · obtain ⟨t, m, rfl, _⟩ := h
    rfl
  · obtain ⟨t, m, rfl, ht, o, k⟩ := h
    refine ⟨_, (PSs.nox (pss_one (ps_if (pt_not (pt_val (pe_call (ok_is_ascending T) (hr.mono (by decide)) (by rfl) T.m_is_ascending T.k_is_ascending T.b_is_ascending .nil passL (pa_cons (pv 1) (pa_cons (pv 0) pa_nil)))))
  (pss_one ps_never)
  pss_nil))), ?_⟩
    walk_at "begin"
    walk_at "go"
    refine ⟨_, _, rfl, .inr ⟨t, _, rfl, ht, fun x h => ?_, ?_⟩⟩
    · obtain ⟨e, _, rfl⟩ := List.mem_map.mp h
      exact .inl ⟨_, rfl⟩
    rw [show ascV (m.n : Nat) 0 (nats m.es) = true from ascV_nats (l := 0) (fun e h => o.eb e h) o.eu (fun _ _ => Nat.zero_le _)]
    walk_at "go"
    refine iteF ?_
    walk_at "go"
    exact k H (Same.refl _)
theorem ok_Machine_init (T : Txt K mg) : FnOk P w K mg base (L2.CX P w) 6 T.a_Machine_init T.fd_Machine_init ["self", "stands", "steps", "ends"] (sp_init K T.c_Machine) := by
  refine T.F_Machine_init.okX sc_Machine_init (fun vs H Q E h => ?_) (fun cdv A outer s H vs Q E hr h => ?_)
  · obtain ⟨x, dx, t, u, m, rfl, _⟩ := h
    rfl
  · obtain ⟨x, dx, t, u, m, rfl, hx, ⟨⟨us, ht, hs⟩, hu⟩, o, k⟩ := h
    refine ⟨_, (PSs.nox (pss_cons (ps_expr (pe_call (ok_check_stands T) (hr.mono (by decide)) (by rfl) T.m_check_stands T.k_check_stands T.b_check_stands .nil passL (pa_cons (pv 1) pa_nil)))
  (pss_cons (ps_expr (pe_call (ok_check_steps T) (hr.mono (by decide)) (by rfl) T.m_check_steps T.k_check_steps T.b_check_steps .nil passL (pa_cons (pv 1) (pa_cons (pv 2) pa_nil))))
  (pss_cons (ps_expr (pe_call (ok_check_ends T) (hr.mono (by decide)) (by rfl) T.m_check_ends T.k_check_ends T.b_check_ends .nil passL (pa_cons (pv 1) (pa_cons (pv 3) pa_nil))))
  (pss_cons (ps_fld (pv 0) (pv 1) rfl)
  (pss_cons (ps_fld (pv 0) (pv 2) rfl)
  (pss_one (ps_fld (pv 0) (pv 3) rfl)))))))), ?_⟩
    walk_at "begin"
    walk_at "go"
    refine ⟨_, rfl, by have := o.n1; omega, by have := o.n8; omega, ?_⟩
    walk_at "go"
    refine ⟨t, us, m, rfl, ht, hs, o, fun H1 z1 => ?_⟩
    walk_at "go"
    refine ⟨u, m, rfl, (same_tups z1).sq hu, o, fun H2 z2 => ?_⟩
    walk_at "go"
    have e2 : H2 x = some (.ins T.c_Machine dx []) := z2 _ _ (z1 _ _ hx)
    refine ⟨_, rfl, _, rfl, x, _, dx, _, rfl, e2, T.cl_Machine, T.n__stands, (by decide : 0 < 1000), ?_⟩
    refine ⟨_, rfl, _, rfl, x, _, dx, _, rfl, upd_same, T.cl_Machine, T.n__steps, few 1 (by decide) (length_putF _ _ _), ?_⟩
    refine ⟨_, rfl, _, rfl, x, _, dx, _, rfl, upd_same, T.cl_Machine, T.n__ends, few 2 (by decide) (Nat.le_trans (length_putF _ _ _) (Nat.succ_le_succ (length_putF _ _ _))), ?_⟩
    refine k _ (((Keep.of_same (z1.trans z2)).trans Keep.at_).trans (Keep.at_.trans Keep.at_)) ?_
    rw [upd_same]
    rfl
end
/-! ### steps in a tuple or in a list -/
def SqS (K : PySem.W.Frag) (H : Hp) (a : Addr) (xs : List V) : Prop := SqT K H a xs ∨ SqL K H a xs
theorem SqS.same {K : PySem.W.Frag} {H H' : Hp} {a : Addr} {xs : List V} (h : SqS K H a xs) (z : Same H H') : SqS K H' a xs := h.imp (fun h => (same_tups z).sq h) fun h => z.seq h
def StSq (K : PySem.W.Frag) (H : Hp) (t : Addr) (ss : List Stp) : Prop := ∃ us, SqS K H t us ∧ StpsAt K H us ss
theorem StSq.of {K : PySem.W.Frag} {H : Hp} {t : Addr} {ss : List Stp} (h : StAt K H t ss) : StSq K H t ss := let ⟨us, a, b⟩ := h; ⟨us, .inl a, b⟩
theorem StSq.same {K : PySem.W.Frag} {H H' : Hp} {t : Addr} {ss : List Stp} (h : StSq K H t ss) (z : Same H H') : StSq K H' t ss := let ⟨us, a, b⟩ := h; ⟨us, a.same z, (same_tups z).steps b⟩
def iSq (K : PySem.W.Frag) (tl : TE) : TI := fun σ H R => iTup K tl σ H R ∨ iList K tl σ H R
theorem pi_sq {X : L2.Cx} {tg l : Expr} {tl : TE} (hl : PE X l tl) : PI X tg l (iSq X.K tl) := ⟨fun pins s σ H R I h => h.elim ((pi_tup hl).run pins s σ H R I) ((pi_list hl).run pins s σ H R I)⟩
theorem for_sq {K : PySem.W.Frag} {t : Addr} {xs : List V} {j : Nat} {g : TG} {tb : TS} {D : Ends} {σ : L2.St} {H Hb : Hp} (e : σ[j]? = some (some (.ref t))) (hx : SqS K Hb t xs) (Pv : Nat → L2.St → Hp → Prop) (h0 : Pv 0 σ H) (hl : ∀ i σ H, Pv i σ H → Same Hb H)
    (hs : ∀ i x σ H, xs[i]? = some x → Pv i σ H → g x σ H fun σ2 H2 => tb { D with nx := Pv (i + 1), ct := Pv (i + 1), bk := D.nx } σ2 H2) (hd : ∀ σ H, Pv xs.length σ H → D.nx σ H) :
    iSq K (tVar j) σ H fun J H1 => ∃ W : Nat → Nat → L2.St → Hp → Prop, (∃ m, W 0 m σ H1) ∧ ∀ i m σ H, W i m σ H →
      (J.stop i H ∧ D.nx σ H) ∨ (J.go i H ∧ ∃ N : L2.St → Hp → Prop, (∀ σ' H', N σ' H' → ∃ m', m' < m ∧ W (i + 1) m' σ' H') ∧ ∀ x H', J.yld i H x H' → g x σ H' fun σ2 H2 => tb { D with nx := N, ct := N, bk := D.nx } σ2 H2) := by
  have z0 := hl _ _ _ h0
  rcases hx with hx | hx
  · exact .inl (k_var e ⟨t, rfl, ⟨xs, (same_tups z0).sq hx⟩, for_tup Pv h0 (fun i σ H _ p => (same_tups (hl _ _ _ p)).sq hx) hs hd⟩)
  · exact .inr (k_var e ⟨t, rfl, ⟨xs, z0.seq hx⟩, for_list Pv h0 (fun i σ H _ p => (hl _ _ _ p).seq hx) hs hd⟩)
/-! ### the drawn machines -/
def sp_parts (K : PySem.W.Frag) : Sp := fun vs H Q _ => ∃ (a : Addr) (st : Nat) (sz : Int), vs = [.ref a, .int (st : Nat), .int sz] ∧ 1 ≤ st ∧ st ≤ 8 ∧ 0 ≤ sz ∧ 2 * sz + 1 ≤ 10 ^ 30 ∧ RowOk K H a ∧
  ∀ (d : Addr) (m : MD) (H' : Hp), m.Ok → m.n ≤ st → (∀ s ∈ m.ss, -(2 * sz + 1) ≤ s.g ∧ s.g ≤ 2 * sz + 1) → DAt K H' d m → RowOk K H' a → Keep a H H' → H d = none → Q (.ref d) H'
theorem abcd_cut {k : Nat} (h1 : 1 ≤ k) (h4 : k ≤ 4) : cutS "abcd" none (some ((k : Nat) : Int)) = ⟨(([97, 98, 99, 100] : List Nat).take k).toArray⟩ := by
  have z : k = 1 ∨ k = 2 ∨ k = 3 ∨ k = 4 := by omega
  rcases z with rfl | rfl | rfl | rfl <;> decide
theorem abcd_at {k j c : Nat} (h : (([97, 98, 99, 100] : List Nat).take k).toArray[j]? = some c) : c = 97 + j ∧ j < 4 := by
  rw [List.getElem?_toArray, List.getElem?_take] at h
  split at h
  · match j, h with
    | 0, h => simp at h; omega
    | 1, h => simp at h; omega
    | 2, h => simp at h; omega
    | 3, h => simp at h; omega
    | n + 4, h => simp at h
  · cases h
/-- the steps so far: of the stands below i, and of i by the first j letters -/
structure Sofar (K : PySem.W.Frag) (H : Hp) (l : Addr) (n : Nat) (sz : Int) (i j : Nat) (ss : List Stp) : Prop where
  at_ : ∃ vs, H l = some (.lst vs) ∧ StpsAt K H vs ss
  ok : ∀ s ∈ ss, s.Ok n
  up : ss.Pairwise Stp.lt
  bd : ∀ s ∈ ss, s.b < i ∨ (s.b = i ∧ s.c < 97 + j)
  gb : ∀ s ∈ ss, -(2 * sz + 1) ≤ s.g ∧ s.g ≤ 2 * sz + 1
  len : ss.length ≤ 4 * i + j
theorem Sofar.keep {K : PySem.W.Frag} {H H' : Hp} {l a : Addr} {n i j : Nat} {sz : Int} {ss : List Stp} {xs : List V} (h : Sofar K H l n sz i j ss) (k : Keep a H H') (ha : H a = some (.lst xs)) (ne : l ≠ a) : Sofar K H' l n sz i j ss :=
  let ⟨vs, e, q⟩ := h.at_
  ⟨⟨vs, k _ _ ne e, (k.tups ha).steps q⟩, h.ok, h.up, h.bd, h.gb, h.len⟩
theorem Sofar.more {K : PySem.W.Frag} {H : Hp} {l : Addr} {n i j j' : Nat} {sz : Int} {ss : List Stp} (h : Sofar K H l n sz i j ss) (e : j ≤ j') : Sofar K H l n sz i j' ss :=
  ⟨h.at_, h.ok, h.up, fun s hs => (h.bd s hs).imp id fun z => ⟨z.1, by omega⟩, h.gb, by have := h.len; omega⟩
theorem Sofar.line {K : PySem.W.Frag} {H : Hp} {l : Addr} {n i j : Nat} {sz : Int} {ss : List Stp} (h : Sofar K H l n sz i j ss) (e : j ≤ 4) : Sofar K H l n sz (i + 1) 0 ss :=
  ⟨h.at_, h.ok, h.up, fun s hs => .inl (by rcases h.bd s hs with z | z <;> omega), h.gb, by have := h.len; omega⟩
theorem Sofar.snoc {K : PySem.W.Frag} {H : Hp} {l p : Addr} {n i j e : Nat} {sz g : Int} {ss : List Stp} (h : Sofar K H l n sz i j ss) (hp : H p = none) (hi : i < n) (hj : j < 4) (he : e < n) (z1 : 2 * sz + 1 ≤ 10 ^ 30)
    (g1 : -(2 * sz + 1) ≤ g) (g2 : g ≤ 2 * sz + 1) : ∀ vs, H l = some (.lst vs) →
    Sofar K (upd (upd H p (.tup (stpV ⟨i, 97 + j, e, g⟩))) l (.lst (vs ++ [.ref p]))) l n sz i (j + 1) (ss ++ [⟨i, 97 + j, e, g⟩]) := fun vs ev => by
  obtain ⟨vs', e', q⟩ := h.at_
  rw [ev] at e'
  cases e'
  have np : l ≠ p := ne_of_none ev hp
  have t1 : Tups H (upd H p (.tup (stpV ⟨i, 97 + j, e, g⟩))) := Tups.new hp
  have el : (upd H p (.tup (stpV ⟨i, 97 + j, e, g⟩))) l = some (.lst vs) := by rw [upd_ne np]; exact ev
  have t2 := Tups.lst (o := .lst (vs ++ [.ref p])) el
  have mem : ∀ s, s ∈ ss ++ [(⟨i, 97 + j, e, g⟩ : Stp)] → s ∈ ss ∨ s = ⟨i, 97 + j, e, g⟩ := fun s hs => by simpa using hs
  refine ⟨⟨_, upd_same, (t2.steps ((t1.steps q).snoc (SqT.of upd_same)))⟩, fun s hs => ?_, ?_, fun s hs => ?_, fun s hs => ?_, ?_⟩
  · rcases mem s hs with hs | rfl
    · exact h.ok s hs
    · exact ⟨hi, by show 97 ≤ 97 + j; omega, by show 97 + j ≤ 100; omega, he, by show -(10 ^ 30) ≤ g; omega, by show g ≤ 10 ^ 30; omega⟩
  · refine List.pairwise_append.mpr ⟨h.up, List.pairwise_singleton _ _, fun s hs t ht => ?_⟩
    have ht' : t = ⟨i, 97 + j, e, g⟩ := by simpa using ht
    subst ht'
    rcases h.bd s hs with z | ⟨z, z'⟩
    · exact .inl z
    · exact .inr ⟨z, z'⟩
  · rcases mem s hs with hs | rfl
    · rcases h.bd s hs with z | ⟨z, z'⟩
      · exact .inl z
      · exact .inr ⟨z, by omega⟩
    · exact .inr ⟨rfl, by show 97 + j < 97 + (j + 1); omega⟩
  · rcases mem s hs with hs | rfl
    · exact h.gb s hs
    · exact ⟨g1, g2⟩
  · rw [List.length_append, List.length_singleton]
    have := h.len
    omega
section
variable {P : Program} {w : World} {K : PySem.W.Frag} {mg : Str → Option Value} {base : Heap}
theorem ok_law_parts (T : Txt K mg) : FnOk P w K mg base (L2.CX P w) 2 T.a_law_parts T.fd_law_parts ["_law_row", "_law_stands", "_law_size"] (sp_parts K) := by
  refine T.F_law_parts.okX sc_law_parts (fun vs H Q E h => ?_) (fun cdv A outer s H vs Q E hr h => ?_)
  · obtain ⟨a, st, sz, rfl, _⟩ := h
    rfl
  · obtain ⟨a, st, sz, rfl, st1, st8, sz0, sz1, R0, k⟩ := h
    refine ⟨_, (PSs.nox (pss_cons (ps_par (i := 3) (j := 4) (by rfl) sc_law_parts.nd rfl rfl (by decide) rfl rfl (pa_cons (pe_op op_add pe_int (pe_call (ok_law_taken T) (hr.mono (by decide)) (by rfl) T.m_law_taken T.k_law_taken T.b_law_taken .nil passL (pa_cons (pv 0) (pa_cons (pv 1) pa_nil)))) (pa_cons (pe_call (ok_law_taken T) (hr.mono (by decide)) (by rfl) T.m_law_taken T.k_law_taken T.b_law_taken .nil passL (pa_cons (pv 0) (pa_cons pe_int pa_nil))) pa_nil)) (by rfl))
  (pss_cons (ps_setLc (i := 5) (own := [("_law_stand", 13)]) (g := (gName 13)) (tt := tYes) rfl sc_law_parts.nd rfl rfl (sw_true rfl rfl rfl (by decide +kernel)) (pi_range1 (by rfl) T.z_range (pa_cons (pv 3) pa_nil)) (blkOk_by (own := [("_law_stand", 13)]) (N := ["_law_row", "_law_stands", "_law_size", "_law_many", "_law_kind", "_law_heights", "_law_steps", "_law_letters", "_law_begun", "_law_letter", "_law_end", "_law_gain", "_law_ends", "_law_stand"]) (sc := defScope s_law_parts) (by decide +kernel)) (fun _ _ _ _ _ => (pg_name (i := 13) sc_law_parts.nd rfl (Or.inl rfl))) (fun _ _ _ _ _ => pts_nil) (fun _ _ _ _ _ => (pe_op op_sub (pe_call (ok_law_taken T) (hr.mono (by decide)) (by rfl) T.m_law_taken T.k_law_taken T.b_law_taken .nil passL (pa_cons (pv 0) (pa_cons (pe_op op_add (pe_op op_mulW pe_int (pv 2)) pe_int) pa_nil))) (pv 2))))
  (pss_cons (ps_par (i := 6) (j := 7) (by rfl) sc_law_parts.nd rfl rfl (by decide) rfl rfl (pa_cons (pe_lst pa_nil) (pa_cons (pe_slice sl_str pe_str po_none (po_some (pe_op op_add pe_int (pe_call (ok_law_taken T) (hr.mono (by decide)) (by rfl) T.m_law_taken T.k_law_taken T.b_law_taken .nil passL (pa_cons (pv 0) (pa_cons pe_int pa_nil)))))) pa_nil)) (by rfl))
  (pss_cons (ps_for PassesOwn.never rfl (pi_range1 (by rfl) T.z_range (pa_cons (pv 3) pa_nil)) (pg_name (i := 8) sc_law_parts.nd rfl (Or.inl rfl))
  (pss_one (ps_for PassesOwn.never rfl (pi_str (pv 7)) (pg_name (i := 9) sc_law_parts.nd rfl (Or.inl rfl))
  (pss_one (ps_if (pt_cmpR op_gt (pe_call (ok_law_taken T) (hr.mono (by decide)) (by rfl) T.m_law_taken T.k_law_taken T.b_law_taken .nil passL (pa_cons (pv 0) (pa_cons pe_int pa_nil))) pe_int (nomark _))
  (pss_cons (ps_set (i := 10) sc_law_parts.nd rfl (Or.inl rfl) (pe_call (ok_law_taken T) (hr.mono (by decide)) (by rfl) T.m_law_taken T.k_law_taken T.b_law_taken .nil passL (pa_cons (pv 0) (pa_cons (pv 3) pa_nil))))
  (pss_cons (ps_set (i := 11) sc_law_parts.nd rfl (Or.inl rfl) (pe_op op_sub (pe_ix ix_list (pv 5) (pv 10) (fun _ _ => rfl)) (pe_ix ix_list (pv 5) (pv 8) (fun _ _ => rfl))))
  (C8.pss_cut (ps_if (PW.pt (pw_or (PW.pt (pw_and (pt_cmpR op_eq (pv 4) pe_int (nomark _)) (pw_and1 (pt_cmpR op_eq (pe_call (ok_law_taken T) (hr.mono (by decide)) (by rfl) T.m_law_taken T.k_law_taken T.b_law_taken .nil passL (pa_cons (pv 0) (pa_cons pe_int pa_nil))) pe_int (nomark _))))) (pw_or1 (pt_cmpR op_eq (pv 4) pe_int (nomark _)))))
  (pss_one (ps_set (i := 11) sc_law_parts.nd rfl (Or.inl rfl) (pe_op op_sub (pe_call (ok_law_taken T) (hr.mono (by decide)) (by rfl) T.m_law_taken T.k_law_taken T.b_law_taken .nil passL (pa_cons (pv 0) (pa_cons (pe_op op_add (pe_op op_mulW pe_int (pv 2)) pe_int) pa_nil))) (pv 2))))
  pss_nil)
  (C8.pss_cut (ps_if (PW.pt (pw_and (pt_cmpR op_eq (pv 4) pe_int (nomark _)) (pw_and1 (pt_cmpR op_eq (pe_call (ok_law_taken T) (hr.mono (by decide)) (by rfl) T.m_law_taken T.k_law_taken T.b_law_taken .nil passL (pa_cons (pv 0) (pa_cons pe_int pa_nil))) pe_int (nomark _)))))
  (pss_one (ps_set (i := 11) sc_law_parts.nd rfl (Or.inl rfl) (pe_op op_add (pv 11) pe_int)))
  pss_nil)
  (pss_one (ps_expr (pe_bm PySem.F.plainAttrs_list PySem.F.slot_list_append PySem.F.type_list_append mt_append (pv 6) (pa_cons (pe_tup (pa_cons (pv 8) (pa_cons (pv 9) (pa_cons (pv 10) (pa_cons (pv 11) pa_nil))))) pa_nil))))))))
  pss_nil)))))
  (pss_cons (ps_set (i := 12) sc_law_parts.nd rfl (Or.inl rfl) (pe_callTy call_tuple_of (by rfl) T.z_tuple PySem.Pv.boot_tuple (pa_cons (pe_lc (own := [("_law_stand", 13)]) (g := (gName 13)) rfl sc_law_parts.nd (pi_range1 (by rfl) T.z_range (pa_cons (pv 3) pa_nil)) (blkOk_by (own := [("_law_stand", 13)]) (N := ["_law_row", "_law_stands", "_law_size", "_law_many", "_law_kind", "_law_heights", "_law_steps", "_law_letters", "_law_begun", "_law_letter", "_law_end", "_law_gain", "_law_ends", "_law_stand"]) (sc := defScope s_law_parts) (by decide +kernel)) (fun _ _ _ _ _ => (pg_name (i := 13) sc_law_parts.nd rfl (Or.inl rfl))) (fun _ _ _ _ _ => (pts_one (pt_cmpR op_eq (pe_call (ok_law_taken T) (hr.mono (by decide)) (by rfl) T.m_law_taken T.k_law_taken T.b_law_taken .nil passL (pa_cons (pv 0) (pa_cons pe_int pa_nil))) pe_int (nomark _)))) (fun _ _ _ _ _ => (pv 13))) pa_nil)))
  (pss_one (ps_ret (pe_disp (pps_cons pe_str (pv 3) (pps_cons pe_str (pe_callTy call_tuple_of (by rfl) T.z_tuple PySem.Pv.boot_tuple (pa_cons (pv 6) pa_nil)) (pps_cons pe_str (pv 12) pps_nil))) (by rfl) (by rfl) (fun z => by cases z) (by decide)))))))))), ?_⟩
    walk_at "begin"
    walk_at "go"
    refine ⟨a, _, rfl, by omega, by omega, R0, fun x1 H1 x1a x1b R1 K1 => ?_⟩
    obtain ⟨y, rfl⟩ := Int.eq_ofNat_of_zero_le x1a
    walk_at "go"
    refine ⟨a, 4, rfl, by omega, by decide, R1, fun kind H2 kda kdb R2 K2 => ?_⟩
    walk_at "go"
    have en : (1 + (y : Int)) = ((y + 1 : Nat) : Int) := by omega
    rw [en]
    refine k_rg (by omega) (by omega) fun D hD => ?_
    have K02 := K1.trans K2
    have nD : a ≠ D := R2.ne hD
    have hD0 : H D = none := K02.free nD.symm hD
    have CM : CMulW 2 sz := wide_mul (a := 2) (b := 101) (by decide) (by omega) (by decide) (by decide) (by decide)
    have small : ∀ {hs : List Int} {i : Nat}, hs.length = i → i < 100 → (hs.map V.int).length < sizeLine := fun e q => by
      rw [List.length_map, e]
      exact Nat.lt_trans q (by decide)
    -- the heights
    refine lc_range (lo := 0) (n := (((y + 1 : Nat) : Int)).toNat) (fun i H' => Keep a H H' ∧ RowOk K H' a ∧ ∃ hs : List Int, H' D = some (.lst (hs.map V.int)) ∧ hs.length = i ∧ ∀ h ∈ hs, -sz ≤ h ∧ h ≤ sz)
      ⟨K02.trans (Keep.new hD), R2.same (Same.new hD), [], upd_same, rfl, fun _ h => absurd h (by simp)⟩ ?_ ?_
    · rintro i H3 hi ⟨K3, R3, hs, eD, hl, hb⟩
      walk_at "go"
      refine ⟨rfl, ?_⟩
      walk_at "go"
      refine iteT ?_
      walk_at "go"
      refine k_I CM ?_
      walk_at "go"
      refine ⟨a, _, rfl, by omega, by omega, R3, fun x H4 xa xb R4 K4 => ?_⟩
      walk_at "go"
      have eD4 := K4 _ _ nD.symm eD
      refine ⟨_, eD4, small hl (by omega), (K3.trans K4).mut hD0, R4.keep nD eD4 Keep.at_, hs ++ [x - sz], ?_, ?_, ?_⟩
      · rw [upd_same, List.map_append]; rfl
      · rw [List.length_append, hl]; rfl
      · intro h hh
        rcases List.mem_append.mp hh with hh | hh
        · exact hb h hh
        · have : h = x - sz := by simpa using hh
          omega
    · rintro H3 ⟨K3, R3, hs, eD, hl, hb⟩
      walk_at "go"
      refine ⟨Nat.zero_le _, fun l hl0 => ?_⟩
      have nl : a ≠ l := R3.ne hl0
      have hlH : H l = none := K3.free nl.symm hl0
      have nDl : D ≠ l := ne_of_none eD hl0
      walk_at "go"
      refine ⟨a, 4, rfl, by omega, by decide, R3.same (Same.new hl0), fun x2 H4 xa xb R4 K4 => ?_⟩
      obtain ⟨y2, rfl⟩ := Int.eq_ofNat_of_zero_le xa
      have en2 : (1 + (y2 : Int)) = ((y2 + 1 : Nat) : Int) := by omega
      walk_at "go"
      rw [en2]
      refine k_slS (by decide) ?_
      rw [abcd_cut (by omega) (by omega)]
      walk_at "go"
      refine k_rg (by omega) (by omega) ?_
      have K04 : Keep a H H4 := (K3.trans (Keep.new hl0)).trans K4
      have eD4 : H4 D = some (.lst (hs.map V.int)) := K4 _ _ nD.symm (Keep.new (a := a) hl0 _ _ nD.symm eD)
      have el4 : H4 l = some (.lst []) := K4 _ _ nl.symm upd_same
      clear K3 R3 eD K4
      -- the steps
      obtain ⟨LT, hLT⟩ : ∃ z : Str, z = ⟨(([97, 98, 99, 100] : List Nat).take (y2 + 1)).toArray⟩ := ⟨_, rfl⟩
      rw [← hLT]
      have nat : ∀ z : Nat, ((z : Int)).toNat = z := fun z => rfl
      refine for_range (lo := 0) (n := (((y + 1 : Nat) : Int)).toNat) (fun i σ H' => ∃ ss s8 s9 s10 s11, Keep a H H' ∧ RowOk K H' a ∧ H' D = some (.lst (hs.map V.int)) ∧ Sofar K H' l (y + 1) sz i 0 ss ∧
        σ = [some (.ref a), some (.int (st : Nat)), some (.int sz), some (.int ((y + 1 : Nat) : Int)), some (.int kind), some (.ref D), some (.ref l), some (.str LT), s8, s9, s10, s11, none, none])
        ⟨[], none, none, none, none, K04, R4, eD4, ⟨⟨[], el4, rfl, fun _ _ h => absurd h (by simp)⟩, fun _ h => absurd h (by simp), .nil, fun _ h => absurd h (by simp), fun _ h => absurd h (by simp), Nat.zero_le _⟩, rfl⟩ ?_ ?_
      · rintro i σ H5 hi ⟨ss, s8, s9, s10, s11, K5, R5, eD5, S5, rfl⟩
        walk_at "go"
        refine ⟨_, rfl, for_it walk_str (fun j σ H' => ∃ ss s9 s10 s11, Keep a H H' ∧ RowOk K H' a ∧ H' D = some (.lst (hs.map V.int)) ∧ Sofar K H' l (y + 1) sz i j ss ∧
          σ = [some (.ref a), some (.int (st : Nat)), some (.int sz), some (.int ((y + 1 : Nat) : Int)), some (.int kind), some (.ref D), some (.ref l), some (.str LT), some (.int (0 + (i : Nat))), s9, s10, s11, none, none])
          ⟨ss, s9, s10, s11, K5, R5, eD5, S5, rfl⟩ (fun _ _ _ _ _ => trivial) ?_ ?_⟩
        · rintro j x σ H6 H6' hj ⟨ss, s9, s10, s11, K6, R6, eD6, S6, rfl⟩ ⟨rfl, c, hc, rfl⟩
          have hc' : c = 97 + j ∧ j < 4 := by
            rw [hLT] at hc
            exact abcd_at hc
          obtain ⟨rfl, j4⟩ := hc'
          walk_at "go"
          refine ⟨a, 4, rfl, by omega, by decide, R6, fun x1 H7 _ _ R7 K7 => ?_⟩
          walk_at "go"
          have eD7 := K7 _ _ nD.symm eD6
          obtain ⟨lr, er6⟩ := R6.lst
          have S7 := S6.keep K7 er6 nl.symm
          refine k_ite (fun c1 => ?_) (fun c1 => ?_)
          · walk_at "go"
            refine ⟨a, _, rfl, by omega, by omega, R7, fun x2 H8 x2a x2b R8 K8 => ?_⟩
            obtain ⟨e, rfl⟩ := Int.eq_ofNat_of_zero_le x2a
            have eD8 := K8 _ _ nD.symm eD7
            obtain ⟨lr7, er7⟩ := R7.lst
            have S8 := S7.keep K8 er7 nl.symm
            walk_at "go"
            have le : e < hs.length := by rw [hl, nat]; omega
            have li : i < hs.length := by rw [hl, nat]; omega
            refine k_ixL (SqL.of eD8) (v := .int (hs[e]'le)) (at_of (j := e) rfl (by rw [List.getElem?_map, List.getElem?_eq_getElem le]; rfl)) ?_
            walk_at "go"
            refine k_ixL (SqL.of eD8) (v := .int (hs[i]'li)) (at_of (j := i) (by omega) (by rw [List.getElem?_map, List.getElem?_eq_getElem li]; rfl)) ?_
            have be := hb _ (List.getElem_mem le)
            have bi := hb _ (List.getElem_mem li)
            generalize hs[e]'le = he at be ⊢
            generalize hs[i]'li = hi' at bi ⊢
            walk_at "go"
            have K68 := (K6.trans K7).trans K8
            refine k_cut (fun σ' H' => ∃ g, -(2 * sz) ≤ g ∧ g ≤ 2 * sz ∧ Keep a H H' ∧ RowOk K H' a ∧ H' D = some (.lst (hs.map V.int)) ∧ Sofar K H' l (y + 1) sz i j ss ∧
              σ' = [some (.ref a), some (.int (st : Nat)), some (.int sz), some (.int ((y + 1 : Nat) : Int)), some (.int kind), some (.ref D), some (.ref l), some (.str LT), some (.int (0 + (i : Nat))), some (.str ⟨#[97 + j]⟩), some (.int (e : Nat)), some (.int g), none, none]) ?_ ?_
            · have old : ∀ H', Keep a H8 H' → RowOk K H' a → H' D = some (.lst (hs.map V.int)) ∧ Sofar K H' l (y + 1) sz i j ss := fun H' kk rr => by
                obtain ⟨lr8, er8⟩ := R8.lst
                exact ⟨kk _ _ nD.symm eD8, S8.keep kk er8 nl.symm⟩
              have draw : ∀ H9, Keep a H8 H9 → RowOk K H9 a → ∀ x H10, 0 ≤ x → x < 2 * sz + 1 → RowOk K H10 a → Keep a H9 H10 → -(2 * sz) ≤ x - sz ∧ x - sz ≤ 2 * sz ∧ Keep a H H10 ∧ RowOk K H10 a ∧ H10 D = some (.lst (hs.map V.int)) ∧ Sofar K H10 l (y + 1) sz i j ss := fun H9 k9 r9 x H10 x0 x1 r10 k10 => by
                have o := old H10 (k9.trans k10) r10
                exact ⟨by omega, by omega, (K68.trans k9).trans k10, r10, o.1, o.2⟩
              walk_at "go"
              refine k_ite (fun d1 => ?_) (fun d1 => ?_)
              · walk_at "go"
                refine ⟨a, 4, rfl, by omega, by decide, R8, fun x3 H9 _ _ R9 K9 => ?_⟩
                walk_at "go"
                refine k_ite (fun d2 => ?_) (fun d2 => ?_)
                · refine iteT ?_
                  walk_at "go"
                  refine k_I CM ?_
                  walk_at "go"
                  refine ⟨a, _, rfl, by omega, by omega, R9, fun x4 H10 x4a x4b R10 K10 => ?_⟩
                  walk_at "go"
                  obtain ⟨q1, q2, q3, q4, q5, q6⟩ := draw H9 K9 R9 x4 H10 x4a x4b R10 K10
                  exact ⟨_, q1, q2, q3, q4, q5, q6, rfl⟩
                · walk_at "go"
                  refine k_ite (fun d3 => ?_) (fun d3 => ?_)
                  · rw [d1] at d3; exact absurd d3 (by decide)
                  · walk_at "go"
                    exact ⟨_, by omega, by omega, K68.trans K9, R9, (old H9 K9 R9).1, (old H9 K9 R9).2, rfl⟩
              · refine iteF ?_
                walk_at "go"
                refine k_ite (fun d3 => ?_) (fun d3 => ?_)
                · walk_at "go"
                  refine k_I CM ?_
                  walk_at "go"
                  refine ⟨a, _, rfl, by omega, by omega, R8, fun x4 H10 x4a x4b R10 K10 => ?_⟩
                  walk_at "go"
                  obtain ⟨q1, q2, q3, q4, q5, q6⟩ := draw H8 (Keep.refl _ _) R8 x4 H10 x4a x4b R10 K10
                  exact ⟨_, q1, q2, q3, q4, q5, q6, rfl⟩
                · walk_at "go"
                  exact ⟨_, by omega, by omega, K68, R8, eD8, S8, rfl⟩
            · rintro σ' H9 ⟨g, g1, g2, K9, R9, eD9, S9, rfl⟩
              refine k_cut (fun σ' H' => ∃ g, -(2 * sz + 1) ≤ g ∧ g ≤ 2 * sz + 1 ∧ Keep a H H' ∧ RowOk K H' a ∧ H' D = some (.lst (hs.map V.int)) ∧ Sofar K H' l (y + 1) sz i j ss ∧
                σ' = [some (.ref a), some (.int (st : Nat)), some (.int sz), some (.int ((y + 1 : Nat) : Int)), some (.int kind), some (.ref D), some (.ref l), some (.str LT), some (.int (0 + (i : Nat))), some (.str ⟨#[97 + j]⟩), some (.int (e : Nat)), some (.int g), none, none]) ?_ ?_
              · walk_at "go"
                refine k_ite (fun d1 => ?_) (fun d1 => ?_)
                · walk_at "go"
                  refine ⟨a, 3, rfl, by omega, by decide, R9, fun x3 H10 _ _ R10 K10 => ?_⟩
                  obtain ⟨lr9, er9⟩ := R9.lst
                  have eD10 := K10 _ _ nD.symm eD9
                  have S10 := S9.keep K10 er9 nl.symm
                  walk_at "go"
                  refine k_ite (fun d2 => ?_) (fun d2 => ?_)
                  · walk_at "go"
                    exact ⟨_, by omega, by omega, K9.trans K10, R10, eD10, S10, rfl⟩
                  · walk_at "go"
                    exact ⟨_, by omega, by omega, K9.trans K10, R10, eD10, S10, rfl⟩
                · refine iteF ?_
                  walk_at "go"
                  exact ⟨_, by omega, by omega, K9, R9, eD9, S9, rfl⟩
              · rintro σ' H10 ⟨g, g1, g2, K10, R10, eD10, S10, rfl⟩
                walk_at "go"
                obtain ⟨vs10, el10, _⟩ := S10.at_
                refine ⟨.inl ⟨rfl, _, SqL.of el10⟩, ?_⟩
                walk_at "go"
                refine ⟨(by decide : 4 ≤ sizeLine), fun p hp => ?_⟩
                have z0 : (0 + (i : Nat) : Int) = ((i : Nat) : Int) := by omega
                rw [z0]
                walk_at "go"
                have npl : l ≠ p := ne_of_none el10 hp
                have npD : D ≠ p := ne_of_none eD10 hp
                have el11 : (upd H10 p (.tup [.int (i : Nat), .str ⟨#[97 + j]⟩, .int (e : Nat), .int g])) l = some (.lst vs10) := by rw [upd_ne npl]; exact el10
                have lv : vs10.length < sizeLine := by
                  obtain ⟨vs', e', q'⟩ := S10.at_
                  rw [el10] at e'
                  cases e'
                  have := S10.len
                  have : vs10.length < 100 := by rw [q'.1]; omega
                  exact Nat.lt_trans this (by decide)
                refine k_append el11 lv ?_
                walk_at "go"
                have S11 := S10.snoc hp (by omega) j4 (show e < y + 1 by omega) sz1 g1 g2 vs10 el10
                have R11 := R10.same (Same.new (o := .tup [.int (i : Nat), .str ⟨#[97 + j]⟩, .int (e : Nat), .int g]) hp)
                refine ⟨_, some (.str ⟨#[97 + j]⟩), some (.int (e : Nat)), some (.int g), (K10.trans (Keep.new hp)).mut hlH, R11.keep nl el11 Keep.at_, ?_, S11, ?_⟩
                · rw [upd_ne nDl, upd_ne npD]; exact eD10
                · rfl
          · walk_at "go"
            exact ⟨ss, _, _, _, K6.trans K7, R7, eD7, S7.more (Nat.le_succ _), rfl⟩
        · rintro σ H6 ⟨ss, s9, s10, s11, K6, R6, eD6, S6, rfl⟩
          refine ⟨ss, _, _, _, _, K6, R6, eD6, S6.line ?_, rfl⟩
          rw [hLT]
          simp
          omega
      · rintro σ H5 ⟨ss, s8, s9, s10, s11, K5, R5, eD5, S5, rfl⟩
        obtain ⟨vs, el5, q5⟩ := S5.at_
        walk_at "go"
        refine k_rg (by omega) (by omega) fun B hB => ?_
        have nB : a ≠ B := R5.ne hB
        have hB0 : H B = none := K5.free nB.symm hB
        have nlB : l ≠ B := ne_of_none el5 hB
        -- the ends
        refine lc_range (lo := 0) (n := (((y + 1 : Nat) : Int)).toNat) (fun i H' => Keep a H H' ∧ RowOk K H' a ∧ H' l = some (.lst vs) ∧ StpsAt K H' vs ss ∧ ∃ es : List Nat, H' B = some (.lst (nats es)) ∧ es.length ≤ i ∧ (∀ e ∈ es, e < i) ∧ es.Pairwise (· < ·))
          ⟨K5.trans (Keep.new hB), R5.same (Same.new hB), by rw [upd_ne nlB]; exact el5, (Tups.new hB).steps q5, [], upd_same, Nat.le_refl _, fun _ h => absurd h (by simp), .nil⟩ ?_ ?_
        · rintro i H6 hi ⟨K6, R6, el6, q6, es, eB, h1, h2, h3⟩
          obtain ⟨lr6, er6⟩ := R6.lst
          walk_at "go"
          refine ⟨rfl, ?_⟩
          walk_at "go"
          refine ⟨a, 2, rfl, by omega, by decide, R6, fun x H7 _ _ R7 K7 => ?_⟩
          have eB7 := K7 _ _ nB.symm eB
          have el7 := K7 _ _ nl.symm el6
          have q7 := (K7.tups er6).steps q6
          walk_at "go"
          refine k_ite (fun c => ?_) (fun c => ?_)
          · walk_at "go"
            have z0 : (0 + (i : Nat) : Int) = ((i : Nat) : Int) := by omega
            rw [z0]
            refine ⟨_, eB7, ?_, (K6.trans K7).mut hB0, R7.keep nB eB7 Keep.at_, by rw [upd_ne nlB]; exact el7, (Tups.lst eB7).steps q7, es ++ [i], ?_, ?_, ?_, ?_⟩
            · have : (nats es).length < 100 := by unfold nats; rw [List.length_map]; omega
              exact Nat.lt_trans this (by decide)
            · rw [upd_same]; unfold nats; rw [List.map_append]; rfl
            · rw [List.length_append]; simp; omega
            · intro e he
              rcases List.mem_append.mp he with he | he
              · have := h2 e he; omega
              · have : e = i := by simpa using he
                omega
            · refine List.pairwise_append.mpr ⟨h3, List.pairwise_singleton _ _, fun e he f hf => ?_⟩
              have : f = i := by simpa using hf
              have := h2 e he
              omega
          · exact ⟨K6.trans K7, R7, el7, q7, es, eB7, by omega, fun e he => by have := h2 e he; omega, h3⟩
        · rintro H6 ⟨K6, R6, el6, q6, es, eB, h1, h2, h3⟩
          walk_at "go"
          refine ⟨B, _, rfl, .inl ⟨SqL.of eB, fun u hu => ?_⟩⟩
          have nu : a ≠ u := R6.ne hu
          have K7 := K6.trans (Keep.new (o := .tup (nats es)) hu)
          have R7 := R6.same (Same.new (o := .tup (nats es)) hu)
          have el7 : (upd H6 u (.tup (nats es))) l = some (.lst vs) := by rw [upd_ne (ne_of_none el6 hu)]; exact el6
          have q7 := (Tups.new (o := .tup (nats es)) hu).steps q6
          walk_at "go"
          intro d hd
          have K8 := K7.trans (Keep.new (o := .dK []) hd)
          have R8 := R7.same (Same.new (o := .dK []) hd)
          have el8 : (upd (upd H6 u (.tup (nats es))) d (.dK [])) l = some (.lst vs) := by rw [upd_ne (ne_of_none el7 hd)]; exact el7
          have q8 := (Tups.new (o := .dK []) hd).steps q7
          have hd0 : H d = none := K7.free (R7.ne hd).symm hd
          walk_at "go"
          refine ⟨l, vs, rfl, .inl ⟨SqL.of el8, fun t ht => ?_⟩⟩
          walk_at "go"
          have ntd : d ≠ t := ne_of_none upd_same ht
          have e1 : (upd (upd (upd H6 u (.tup (nats es))) d (.dK [])) t (.tup vs)) d = some (.dK []) := by rw [upd_ne ntd, upd_same]
          refine ⟨e1, [(.inr "stands", .int ((y + 1 : Nat) : Int)), (.inr "steps", .ref t), (.inr "ends", .ref u)], rfl, (by decide : 3 ≤ 15), ?_⟩
          have em : mergeK [] [((.inr "stands" : Key), V.int ((y + 1 : Nat) : Int)), (.inr "steps", .ref t), (.inr "ends", .ref u)] = [(.inr "stands", .int ((y + 1 : Nat) : Int)), (.inr "steps", .ref t), (.inr "ends", .ref u)] := rfl
          rw [em]
          have t9 : Tups (upd (upd H6 u (.tup (nats es))) d (.dK [])) (upd (upd (upd H6 u (.tup (nats es))) d (.dK [])) t (.tup vs)) := Tups.new ht
          have nuD : u ≠ d := ne_of_none (upd_same (H := H6) (o := .tup (nats es))) hd
          have t10 : Tups (upd (upd (upd H6 u (.tup (nats es))) d (.dK [])) t (.tup vs)) (upd (upd (upd (upd H6 u (.tup (nats es))) d (.dK [])) t (.tup vs)) d (.dK [(.inr "stands", .int ((y + 1 : Nat) : Int)), (.inr "steps", .ref t), (.inr "ends", .ref u)])) :=
            ⟨fun b xs e => by rw [upd_ne (fun z => by rw [z, e1] at e; cases e)]; exact e, fun b o xs e => by rw [upd_ne (fun z => by rw [z, e1] at e; cases e)]; exact e⟩
          refine k d ⟨y + 1, ss, es⟩ _ ⟨by show 1 ≤ y + 1; omega, by show y + 1 ≤ 8; omega, S5.ok, S5.up, ?_, fun e he => ?_, h3, ?_⟩ (by show y + 1 ≤ st; omega) S5.gb ⟨t, u, upd_same, ⟨vs, t10.sq (SqT.of upd_same), (t10.steps (t9.steps q8))⟩, ?_⟩ ?_ ?_ hd0
          · have := S5.len
            show ss.length ≤ 32
            rw [nat] at this
            omega
          · have := h2 e he
            rw [nat] at this
            exact this
          · show es.length ≤ 8
            rw [nat] at h1
            omega
          · exact t10.sq (t9.sq ((Tups.new (o := .dK []) hd).sq (SqT.of upd_same)))
          · have R9 := R8.same (Same.new (o := .tup vs) ht)
            obtain ⟨sc, ns, i, z, r, e, q, rest⟩ := R9
            have nad : a ≠ d := R7.ne hd
            refine ⟨sc, ns, i, z, r, by rw [upd_ne nad]; exact e, ?_, rest⟩
            rcases q with ⟨o, q⟩ | q
            · exact .inl ⟨o, by rw [upd_ne (fun z => by rw [z, e1] at q; cases q)]; exact q⟩
            · exact .inr q
          · exact (K8.trans (Keep.new ht)).mut hd0
end
/-! ### name = {k: v for ..} -/
theorem sw_trueD {kx vx : Expr} {gs : List Comprehension} {scope : Scope} {pos py : Pos} {y : Str} {n : Nat} {env : Env} (hk : env.scope.kind = .function) (hy : env.scope.names.lookup y = some .local) (hl : (py.line == pos.line) = true)
    (ha : (scope.names.any fun (m, c) => m == y && (c == .local || c == .cell)) = false) : swapsWith (.DictComp kx vx gs scope pos) (some (.Name y py)) n env = pure true := by
  have k1 : env.kindOf y = some .local := hy
  have k2 : env.blockKind = .function := by
    unfold Env.blockKind
    rw [hk]
    rfl
  unfold swapsWith
  simp only [k1, k2, ha, Expr.pos, hl]
  rfl
section
variable {X : Cx}
theorem ps_setDc {i : Nat} {y : Str} {py : Pos} {kx vx tg it : Expr} {ifs : List Expr} {scope : Scope} {own : List (Str × Nat)} {pos sp : Pos} {wi : TI} {g : TG} {tt : TT} {tk tv : TE} (hc : X.calm = true) (hN : X.N.Nodup)
    (hy : X.N[i]? = some y) (hyl : X.env.scope.names.lookup y = some .local) (hsw : swapsWith (.DictComp kx vx [⟨tg, it, ifs, 0⟩] scope pos) (some (.Name y py)) sp.line X.env = pure true)
    (hi : PI X tg it wi) (ok : BlkOk X.N X.env.scope scope own)
    (hg : ∀ (s : Shared) (H : Hp) (C : Addr) (cl : List (Str × Addr)) (fp : List Addr), PG (X.blk s H scope (compEnvC scope cl C X.env) fp) tg g)
    (ht : ∀ (s : Shared) (H : Hp) (C : Addr) (cl : List (Str × Addr)) (fp : List Addr), PTs (X.blk s H scope (compEnvC scope cl C X.env) fp) ifs tt)
    (hk : ∀ (s : Shared) (H : Hp) (C : Addr) (cl : List (Str × Addr)) (fp : List Addr), PE (X.blk s H scope (compEnvC scope cl C X.env) fp) kx tk)
    (hv : ∀ (s : Shared) (H : Hp) (C : Addr) (cl : List (Str × Addr)) (fp : List Addr), PE (X.blk s H scope (compEnvC scope cl C X.env) fp) vx tv)
    (hs : ∀ x, foldedSetIterable it X.env x = pure x := by intro _; rfl) :
    PS X (.Assign [.Name y py] (.DictComp kx vx [⟨tg, it, ifs, 0⟩] scope pos) sp) (tAsg (tDc wi g tt tk tv (own.map (·.2))) (gName i)) := by
  constructor
  intro pins s σ H D I h
  rw [exec_Assign_Name_used _ _ _ _ hsw]
  refine wpAny_bind (wpAny_standAt (wpAny_bind ?_))
  show wpAny _ X.A (do let _ ← comprehension (.DictComp kx vx [⟨tg, it, ifs, 0⟩] scope pos) scope X.env (firstIterPos [⟨tg, it, ifs, 0⟩] pos) newDict false (eval it X.env) (some (assign (.Name y py) X.env))) _ _ s
  have h' : tDc wi g tt tk tv (own.map (·.2)) σ H (fun x H1 => gName i x σ H1 D.nx) := h
  refine wpAny_bind (thn (dc_core (Qf := fun _ s' => SP X pins D .next s') hc hN I hi ok hg ht hk hv hs h' ?_) fun _ s' hq => wpAny_pure (wpAny_pure hq))
  intro L C s' m H' I' q hn f
  show wpAny _ _ (assign (.Name y py) X.env (.ref L)) _ _ _
  refine wpAny_assign_Name (store_ok2 (v := V.ref L) I' hN hy (.inl hyl) rfl ?_ (.inr hyl))
  rintro s2 I2 ⟨a, sb, ha⟩
  obtain ⟨f0, f1, f2, f3, f4, f5⟩ := f
  have ne : C ≠ a := by
    rcases ha with z | z
    · rw [z]; exact f1
    · exact fun e => f4 y a z e.symm
  exact ⟨m, hn.sameBut sb ne, fun h3 sb3 => ⟨_, H', I2.turned (t' := s2.toks) (fun b o hb e => (sb3.2 b hb).trans e) f0 f1 f3 f4 f5, q⟩⟩
/-- over a list that stays -/
theorem dc_lst {K : PySem.W.Frag} {a : Addr} {xs : List V} {g : TG} {tt : TT} {tk tv : TE} {vs : List Nat} {σ : L2.St} {H1 : Hp} {D : Addr} {Qd : Hp → Prop} (Pv : Nat → Hp → Prop) (h0 : Pv 0 (upd H1 D (.dK [])))
    (hl : ∀ i H, i ≤ xs.length → Pv i H → SqL K H a xs)
    (hs : ∀ i x H, xs[i]? = some x → Pv i H → g x (wipe σ vs) H fun σ2 H2 => wipe σ2 vs = wipe σ vs ∧ tt σ2 H2 fun b H3 =>
      if b = true then tk σ2 H3 fun y H4 => tv σ2 H4 fun z H5 => ∃ kvs k, y = kV k ∧ H5 D = some (.dK kvs) ∧ kvs.length < sizeLine ∧ Pv (i + 1) (upd H5 D (.dK (putK kvs k z))) else Pv (i + 1) H3) (hd : ∀ H, Pv xs.length H → Qd H) :
    ∃ W : Nat → Nat → Hp → Prop, (∃ m, W 0 m (upd H1 D (.dK []))) ∧ ∀ i m H, W i m H → ((Itl K a).stop i H ∧ Qd H) ∨
      ((Itl K a).go i H ∧ ∃ Nx : Hp → Prop, (∀ H', Nx H' → ∃ m', m' < m ∧ W (i + 1) m' H') ∧ ∀ x H', (Itl K a).yld i H x H' → g x (wipe σ vs) H' fun σ2 H2 => wipe σ2 vs = wipe σ vs ∧ tt σ2 H2 fun b H3 =>
        if b = true then tk σ2 H3 fun y H4 => tv σ2 H4 fun z H5 => ∃ kvs k, y = kV k ∧ H5 D = some (.dK kvs) ∧ kvs.length < sizeLine ∧ Nx (upd H5 D (.dK (putK kvs k z))) else Nx H3) := by
  refine ⟨fun i m H => m + i = xs.length ∧ Pv i H, ⟨xs.length, by simp, h0⟩, fun i m H ⟨em, hP⟩ => ?_⟩
  have sq := hl i H (by omega) hP
  by_cases c : i < xs.length
  · refine .inr ⟨⟨xs, xs[i], sq, List.getElem?_eq_getElem c⟩, Pv (i + 1), fun H' z => ⟨m - 1, by omega, by omega, z⟩, ?_⟩
    rintro x H' ⟨rfl, hx⟩
    exact hs i x _ (hx xs sq) hP
  · have e : i = xs.length := by omega
    exact .inl ⟨⟨xs, sq, by omega⟩, hd H (e ▸ hP)⟩
end
/-! ### rows by their codes; what is best so far, by stand -/
abbrev Wd := List Nat
def sOf (w : Wd) : Str := ⟨w.toArray⟩
theorem sOf_snoc (w : Wd) (c : Nat) : sOf w ++ ⟨#[c]⟩ = sOf (w ++ [c]) := by
  show Str.mk (w.toArray ++ #[c]) = _
  rw [List.append_toArray]
  rfl
theorem sOf_len (w : Wd) : (sOf w).length = w.length := by
  show w.toArray.size = _
  simp
theorem sOf_cps (w : Wd) : (sOf w).cps.toList = w := rfl
theorem sOf_inj {v w : Wd} (h : sOf v = sOf w) : v = w := by
  have := congrArg (fun s => s.cps.toList) h
  exact this
abbrev RF := Nat → Option (Int × Wd)
def better (x : Int × Wd) : Option (Int × Wd) → Bool
  | none => true
  | some y => decide (y.1 < x.1) || (decide (x.1 = y.1) && decide (x.2 < y.2))
def RF.put (f : RF) (k : Nat) (x : Int × Wd) : RF := fun j => if j = k then some x else f j
def turnL (sg : Int) (f acc : RF) (s : Stp) : RF := match f s.b with
  | none => acc
  | some y => if better (y.1 + sg * s.g, y.2 ++ [s.c]) (acc s.e) = true then acc.put s.e (y.1 + sg * s.g, y.2 ++ [s.c]) else acc
def longer (sg : Int) (f : RF) (ss : List Stp) : RF := ss.foldl (turnL sg f) fun _ => none
/-! ### dicts from stands to tuples -/
def ent2 (x : Int × Wd) : List V := [.int x.1, .str (sOf x.2)]
def E2 (f : RF) : Nat → Option (List V) := fun n => (f n).map ent2
def KvOk (K : PySem.W.Frag) (H : Hp) (kvs : List (Key × V)) (e : Nat → Option (List V)) : Prop :=
  (∀ p ∈ kvs, ∃ n : Nat, p.1 = .inl (n : Int)) ∧ ∀ n : Nat, (e n = none → valV kvs (.inl (n : Int)) = none) ∧ ∀ l, e n = some l → ∃ p, valV kvs (.inl (n : Int)) = some (.ref p) ∧ SqT K H p l
section
variable {K : PySem.W.Frag} {H H' : Hp} {kvs : List (Key × V)} {e : Nat → Option (List V)}
theorem KvOk.tups (h : KvOk K H kvs e) (t : Tups H H') : KvOk K H' kvs e := ⟨h.1, fun n => ⟨(h.2 n).1, fun l el => let ⟨p, q, z⟩ := (h.2 n).2 l el; ⟨p, q, t.sq z⟩⟩⟩
theorem KvOk.nil : KvOk K H [] fun _ => none := ⟨fun _ h => absurd h (by simp), fun n => ⟨fun _ => rfl, fun l h => by cases h⟩⟩
theorem KvOk.put {n : Nat} {p : Addr} {l : List V} (h : KvOk K H kvs e) (hp : SqT K H p l) : KvOk K H (putK kvs (.inl (n : Int)) (.ref p)) fun j => if j = n then some l else e j := by
  refine ⟨fun q hq => ?_, fun j => ?_⟩
  · unfold putK at hq
    split at hq
    · obtain ⟨r, hr, rfl⟩ := List.mem_map.mp hq
      split
      · rename_i z; exact ⟨n, z⟩
      · exact h.1 r hr
    · rcases List.mem_append.mp hq with hq | hq
      · exact h.1 q hq
      · have : q = (.inl (n : Int), .ref p) := by simpa using hq
        exact ⟨n, by rw [this]⟩
  · rw [valV_put]
    by_cases c : j = n
    · have c' : (Sum.inl (j : Int) : Key) = .inl (n : Int) := by rw [c]
      simp only [if_pos c, if_pos c']
      refine ⟨fun z => (by cases z), fun l' el => ?_⟩
      cases el
      exact ⟨p, rfl, hp⟩
    · have c' : ¬ (Sum.inl (j : Int) : Key) = .inl (n : Int) := fun z => c (by injection z with z; omega)
      simp only [if_neg c, if_neg c']
      exact h.2 j
theorem KvOk.congr {e' : Nat → Option (List V)} (h : KvOk K H kvs e) (q : ∀ n, e n = e' n) : KvOk K H kvs e' := (funext q : e = e') ▸ h
end
theorem E2_put (f : RF) (k : Nat) (x : Int × Wd) (n : Nat) : (if n = k then some (ent2 x) else E2 f n) = E2 (f.put k x) n := by
  unfold E2 RF.put
  by_cases c : n = k
  · rw [if_pos c, if_pos c]; rfl
  · rw [if_neg c, if_neg c]
theorem Same.mut {p : Addr} {H H' : Hp} {o : HO} (x : Same H H') (hp : H p = none) : Same H (upd H' p o) := fun b u h => by rw [upd_ne (ne_of_none h hp)]; exact x b u h
theorem Tups.dk {p : Addr} {H : Hp} {kvs : List (Key × V)} {o : HO} (h : H p = some (.dK kvs)) : Tups H (upd H p o) :=
  ⟨fun b xs e => by rw [upd_ne (fun z => by rw [z, h] at e; cases e)]; exact e, fun b _ xs e => by rw [upd_ne (fun z => by rw [z, h] at e; cases e)]; exact e⟩
theorem Tups.dT {p : Addr} {H : Hp} {kvs : List (List Key × V)} {o : HO} (h : H p = some (.dT kvs)) : Tups H (upd H p o) :=
  ⟨fun b xs e => by rw [upd_ne (fun z => by rw [z, h] at e; cases e)]; exact e, fun b _ xs e => by rw [upd_ne (fun z => by rw [z, h] at e; cases e)]; exact e⟩
theorem take_fold {α β : Type} (f : β → α → β) (z : β) {l : List α} {i : Nat} {x : α} (h : l[i]? = some x) : (l.take (i + 1)).foldl f z = f ((l.take i).foldl f z) x := by
  rw [List.take_add_one, h, List.foldl_append]
  rfl
/-! ### the parts read off a machine -/
section
variable {P : Program} {w : World} {K : PySem.W.Frag} {mg : Str → Option Value} {base : Heap}
theorem ok_Machine_stands (T : Txt K mg) : FnOk P w K mg base (L2.CX P w) 1 T.a_Machine_stands T.fd_Machine_stands ["self"] (getSp T.c_Machine "_stands") := by
  refine T.F_Machine_stands.okX sc_Machine_stands (fun vs H Q E h => ?_) (fun cdv A outer s H vs Q E hr h => ?_)
  · obtain ⟨a, dx, fs, v, rfl, _⟩ := h
    rfl
  · obtain ⟨a, dx, fs, v, rfl, ha, hl, k⟩ := h
    refine ⟨_, (PSs.nox (pss_one (ps_ret (pe_fld (pv 0) rfl)))), ?_⟩
    exact ⟨_, rfl, a, _, dx, fs, v, rfl, ha, T.cl_Machine, T.n__stands, hl, k⟩
theorem ok_Machine_steps (T : Txt K mg) : FnOk P w K mg base (L2.CX P w) 1 T.a_Machine_steps T.fd_Machine_steps ["self"] (getSp T.c_Machine "_steps") := by
  refine T.F_Machine_steps.okX sc_Machine_steps (fun vs H Q E h => ?_) (fun cdv A outer s H vs Q E hr h => ?_)
  · obtain ⟨a, dx, fs, v, rfl, _⟩ := h
    rfl
  · obtain ⟨a, dx, fs, v, rfl, ha, hl, k⟩ := h
    refine ⟨_, (PSs.nox (pss_one (ps_ret (pe_fld (pv 0) rfl)))), ?_⟩
    exact ⟨_, rfl, a, _, dx, fs, v, rfl, ha, T.cl_Machine, T.n__steps, hl, k⟩
end
/-! ### the parts read off a machine; the next length's best rows -/
def rLtS : R2 := fun x y H Q => ∃ i j, x = .str i ∧ y = .str j ∧ Q (.bl (decide (i.cps.toList < j.cps.toList))) H
theorem test_better {K : PySem.W.Frag} {σ : L2.St} {H : Hp} {R : Bool → Hp → Prop} {D : Addr} {kvs : List (Key × V)} {acc : RF} {e : Nat} {x : Int × Wd} (hD : H D = some (.dK kvs)) (ok : KvOk K H kvs (E2 acc))
    (h3 : σ[3]? = some (some (.ref D))) (h6 : σ[6]? = some (some (.int (e : Nat)))) (h8 : σ[8]? = some (some (.int x.1))) (h9 : σ[9]? = some (some (.str (sOf x.2)))) (h : R (better x (acc e)) H) :
    tOr (tB (tDNotIn (tVar 6) (tVar 3))) (tOr (tTest (tOp (rI0 fun i j => V.bl (decide (j < i))) (tVar 8) (tOp (rIxT K) (tDGet (tVar 3) (tVar 6)) (tC (.int 0)))))
      (tAnd (tTest (tOp rEq (tVar 8) (tOp (rIxT K) (tDGet (tVar 3) (tVar 6)) (tC (.int 0))))) (tTest (tOp rLtS (tVar 9) (tOp (rIxT K) (tDGet (tVar 3) (tVar 6)) (tC (.int 1))))))) σ H R := by
  have dg : DGet H D (.int (e : Nat)) (valV kvs (.inl (e : Int))) := DGet.k (k := .inl (e : Int)) hD
  refine k_or (k_tB (k_dnotin (k_var h6 (k_var h3 ⟨D, _, rfl, dg, k_bl ?_⟩))))
  cases ea : acc e with
  | none =>
    have z := (ok.2 e).1 (by unfold E2; rw [ea]; rfl)
    rw [z]
    refine iteT ?_
    rw [ea] at h
    exact h
  | some y =>
    obtain ⟨p, z, sq⟩ := (ok.2 e).2 (ent2 y) (by unfold E2; rw [ea]; rfl)
    rw [ea] at h
    rw [z] at dg ⊢
    have at0 : ∀ {Q : VK}, Q (.int y.1) H → tOp (rIxT K) (tDGet (tVar 3) (tVar 6)) (tC (.int 0)) σ H Q := fun q => k_op (k_dget (k_var h3 (k_var h6 ⟨D, _, rfl, dg, k_c (k_ixT sq (v := .int y.1) rfl q)⟩)))
    have at1 : ∀ {Q : VK}, Q (.str (sOf y.2)) H → tOp (rIxT K) (tDGet (tVar 3) (tVar 6)) (tC (.int 1)) σ H Q := fun q => k_op (k_dget (k_var h3 (k_var h6 ⟨D, _, rfl, dg, k_c (k_ixT sq (v := .str (sOf y.2)) rfl q)⟩)))
    refine iteF (k_or (k_test (k_op (k_var h8 (at0 (k_I0 (k_bl ?_)))))))
    have hb : better x (some y) = (decide (y.1 < x.1) || (decide (x.1 = y.1) && decide (x.2 < y.2))) := rfl
    rw [hb] at h
    refine k_ite (fun c => ?_) (fun c => ?_)
    · rw [decide_eq_true c, Bool.true_or] at h
      exact h
    · rw [decide_eq_false c, Bool.false_or] at h
      refine k_and (k_test (k_op (k_var h8 (at0 (k_eq rfl (k_bl ?_))))))
      refine k_ite (fun d => ?_) (fun d => ?_)
      · have d' : x.1 = y.1 := by injection d
        rw [decide_eq_true d', Bool.true_and] at h
        refine k_test (k_op (k_var h9 (at1 ⟨_, _, rfl, rfl, k_bl ?_⟩)))
        exact h
      · have d' : ¬ x.1 = y.1 := fun z => d (by rw [z])
        rw [decide_eq_false d', Bool.false_and] at h
        exact h
def Sgn (sg : Int) : Prop := sg = 1 ∨ sg = -1 ∨ sg = 0
theorem Sgn.of {sg : Int} (h : sg = 1 ∨ sg = -1) : Sgn sg := by rcases h with h | h; exact .inl h; exact .inr (.inl h)
def sp_longer (K : PySem.W.Frag) : Sp := fun vs H Q _ => ∃ (t r : Addr) (sg : Int) (N : Nat) (ss : List Stp) (f : RF) (kvs : List (Key × V)), vs = [.ref t, .int sg, .ref r] ∧ StSq K H t ss ∧ SsOk N ss ∧ H r = some (.dK kvs) ∧ KvOk K H kvs (E2 f) ∧
  Sgn sg ∧ (∀ n y, f n = some y → y.2.length ≤ 64) ∧ ∀ p kvs' H', Same H H' → H p = none → H' p = some (.dK kvs') → KvOk K H' kvs' (E2 (longer sg f ss)) → kvs'.length ≤ 300 → Q (.ref p) H'
section
variable {P : Program} {w : World} {K : PySem.W.Frag} {mg : Str → Option Value} {base : Heap}
theorem ok_longer_rows (T : Txt K mg) : FnOk P w K mg base (L2.CX P w) 3 T.a_longer_rows T.fd_longer_rows ["steps", "sign", "rows"] (sp_longer K) := by
  refine T.F_longer_rows.okX sc_longer_rows (fun vs H Q E h => ?_) (fun cdv A outer s H vs Q E hr h => ?_)
  · obtain ⟨t, r, sg, N, ss, f, kvs, rfl, _⟩ := h
    rfl
  · obtain ⟨t, r, sg, N, ss, f, kvs, rfl, ⟨us, ht, hs⟩, o, hr0, hf, hsg, hw, k⟩ := h
    refine ⟨_, (PSs.nox (pss_cons (ps_set (i := 3) sc_longer_rows.nd rfl (Or.inl rfl) pe_dnewK)
  (pss_cons (ps_for PassesOwn.never rfl (pi_sq (pv 0)) (pg_tup rfl (pgs_cons (pg_name (i := 4) sc_longer_rows.nd rfl (Or.inl rfl)) (pgs_cons (pg_name (i := 5) sc_longer_rows.nd rfl (Or.inl rfl)) (pgs_cons (pg_name (i := 6) sc_longer_rows.nd rfl (Or.inl rfl)) (pgs_cons (pg_name (i := 7) sc_longer_rows.nd rfl (Or.inl rfl)) pgs_nil)))))
  (pss_one (ps_if (pt_cmp (pc_din (hu_of hr) (pv 4) (pv 2)) (by rfl))
  (pss_cons (ps_asg (pe_dget (hu_of hr) (pv 2) (pv 4) (fun _ _ => rfl)) (pg_tup rfl (pgs_cons (pg_name (i := 8) sc_longer_rows.nd rfl (Or.inl rfl)) (pgs_cons (pg_name (i := 9) sc_longer_rows.nd rfl (Or.inl rfl)) pgs_nil))))
  (pss_cons (ps_aug (i := 8) sc_longer_rows.nd rfl (Or.inl rfl) (pe_op op_mulW (pv 1) (pv 7)) ip_add)
  (pss_cons (ps_aug (i := 9) sc_longer_rows.nd rfl (Or.inl rfl) (pv 5) iop_add_str)
  (pss_one (ps_if (PW.pt (pw_or (pt_cmp (pc_dnotin (hu_of hr) (pv 6) (pv 3)) (by rfl)) (pw_or (pt_cmpR op_gt (pv 8) (pe_ix ix_tup (pe_dget (hu_of hr) (pv 3) (pv 6) (fun _ _ => rfl)) pe_int (fun _ _ => rfl)) (nomark _)) (pw_or1 (PW.pt (pw_and (pt_cmpR op_eq (pv 8) (pe_ix ix_tup (pe_dget (hu_of hr) (pv 3) (pv 6) (fun _ _ => rfl)) pe_int (fun _ _ => rfl)) (nomark _)) (pw_and1 (pt_cmpR op_lt_str (pv 9) (pe_ix ix_tup (pe_dget (hu_of hr) (pv 3) (pv 6) (fun _ _ => rfl)) pe_int (fun _ _ => rfl)) (nomark _)))))))))
  (pss_one (ps_dput (hu_of hr) (pv 3) (pv 6) (pe_tup (pa_cons (pv 8) (pa_cons (pv 9) pa_nil))) rfl))
  pss_nil)))))
  pss_nil)))
  (pss_one (ps_ret (pv 3)))))), ?_⟩
    walk_at "begin"
    walk_at "go"
    intro D hD
    walk_at "go"
    refine for_sq (xs := us) rfl ht (fun i σ H' => ∃ kvs' a4 a5 a6 a7 a8 a9, Same H H' ∧ H' D = some (.dK kvs') ∧ KvOk K H' kvs' (E2 ((ss.take i).foldl (turnL sg f) fun _ => none)) ∧ kvs'.length ≤ i ∧
      σ = [some (.ref t), some (.int sg), some (.ref r), some (.ref D), a4, a5, a6, a7, a8, a9]) ⟨[], none, none, none, none, none, none, Same.new hD, upd_same, KvOk.nil, Nat.le_refl _, rfl⟩
      (fun i σ H' ⟨_, _, _, _, _, _, _, z, _⟩ => z) ?_ ?_
    · rintro i y σ H1 hy ⟨kvs', a4, a5, a6, a7, a8, a9, z, eD, ok, len, rfl⟩
      have il : i < ss.length := by rw [← hs.1]; exact (List.getElem?_eq_some_iff.mp hy).1
      have ei : ss[i]? = some (ss[i]'il) := List.getElem?_eq_getElem il
      obtain ⟨q, eq, hq⟩ := hs.2 i _ ei
      rw [hy] at eq
      cases eq
      have ok1 := o.ok _ (List.getElem_mem il)
      have len32 := o.len
      rw [take_fold _ _ ei]
      generalize ss[i]'il = st at hq ok1 ⊢
      generalize (ss.take i).foldl (turnL sg f) (fun _ => none) = acc at ok ⊢
      have dg := DGet.k (k := .inl (st.b : Int)) (z _ _ hr0)
      refine k_gt ((same_tups z).sq hq) rfl ?_
      unfold stpV
      walk_at "go"
      refine ⟨r, _, rfl, dg, ?_⟩
      walk_at "go"
      cases fb : f st.b with
      | none =>
        rw [(hf.2 st.b).1 (by unfold E2; rw [fb]; rfl)]
        refine iteF ?_
        walk_at "go"
        have et : turnL sg f acc st = acc := by unfold turnL; rw [fb]
        rw [et]
        exact ⟨kvs', _, _, _, _, _, _, z, eD, ok, by omega, rfl⟩
      | some v =>
        obtain ⟨p, ep, sp⟩ := (hf.2 st.b).2 (ent2 v) (by unfold E2; rw [fb]; rfl)
        have lw := hw _ _ fb
        rw [ep] at dg ⊢
        refine iteT ?_
        walk_at "go"
        refine ⟨r, _, rfl, dg, ?_⟩
        refine k_gt ((same_tups z).sq sp) rfl ?_
        unfold ent2
        walk_at "go"
        refine k_I (wide_mul (a := 1) (b := 108) (by rcases hsg with rfl | rfl | rfl <;> decide) (by have := ok1.g; have := ok1.g'; omega) (by decide) (by decide) (by decide)) ?_
        walk_at "go"
        refine ⟨_, _, rfl, rfl, by rw [sOf_len]; show v.2.length + 1 ≤ sizeLine; exact Nat.le_trans (show v.2.length + 1 ≤ 65 by omega) (by decide), ?_⟩
        rw [sOf_snoc]
        dsimp only
        refine k_ifS ?_
        refine test_better (x := (v.1 + sg * st.g, v.2 ++ [st.c])) (acc := acc) (e := st.e) eD ok ?_ ?_ ?_ ?_ ?_
        iterate 4 rfl
        have et : turnL sg f acc st = if better (v.1 + sg * st.g, v.2 ++ [st.c]) (acc st.e) = true then acc.put st.e (v.1 + sg * st.g, v.2 ++ [st.c]) else acc := by unfold turnL; rw [fb]
        rw [et]
        refine k_bool (fun c => ?_) (fun c => ?_)
        · rw [if_pos c]
          walk_at "go"
          refine ⟨(by decide : 2 ≤ sizeLine), fun pn hpn => ?_⟩
          walk_at "go"
          have eD2 : (upd H1 pn (.tup [.int (v.1 + sg * st.g), .str (sOf (v.2 ++ [st.c]))])) D = some (.dK kvs') := by rw [upd_ne (ne_of_none eD hpn)]; exact eD
          refine ⟨D, _, rfl, DPut.k (k := .inl (st.e : Int)) eD2 (Nat.lt_of_le_of_lt len (Nat.lt_trans (show i < 1000 by omega) (by decide))), ?_⟩
          refine ⟨_, _, _, _, _, _, _, Same.mut (z.trans (Same.new hpn)) hD, upd_same, ?_, by have := length_putK kvs' (.inl (st.e : Int)) (V.ref pn); omega, rfl⟩
          refine ((KvOk.put (n := st.e) (ok.tups (Tups.new hpn)) (l := ent2 (v.1 + sg * st.g, v.2 ++ [st.c])) (SqT.of upd_same)).tups (Tups.dk eD2)).congr fun n => ?_
          exact E2_put acc st.e _ n
        · rw [if_neg (by rw [c]; exact Bool.false_ne_true)]
          walk_at "go"
          exact ⟨kvs', _, _, _, _, _, _, z, eD, ok, by omega, rfl⟩
    · rintro σ H1 ⟨kvs', a4, a5, a6, a7, a8, a9, z, eD, ok, len, rfl⟩
      walk_at "go"
      rw [hs.1, List.take_length] at ok
      have := o.len
      exact k D kvs' H1 z hD eD ok (by rw [hs.1] at len; omega)
end
/-! ### which stands have a better row; which stands letters lead to -/
inductive Reach (ss : List Stp) (l : List Nat) : Nat → Prop
  | base {n : Nat} : n ∈ l → Reach ss l n
  | step {s : Stp} : s ∈ ss → Reach ss l s.b → Reach ss l s.e
def fkv (F : List Nat) : List (Key × V) := F.map fun (n : Nat) => ((.inl (n : Int) : Key), V.bl true)
theorem key_eq (a b : Nat) : ((Sum.inl (a : Int) : Key) = .inl (b : Int)) ↔ a = b := ⟨fun z => by injection z with z; omega, fun z => by rw [z]⟩
theorem valV_fkv (n : Nat) : ∀ F : List Nat, valV (fkv F) (.inl (n : Int)) = if n ∈ F then some (.bl true) else none
  | [] => rfl
  | a :: F => by
    have ih := valV_fkv n F
    by_cases c : a = n
    · rw [if_pos (by rw [c]; exact List.mem_cons_self)]
      exact valV_pos (p := ((.inl (a : Int) : Key), V.bl true)) ((key_eq a n).mpr c)
    · have e : valV (fkv (a :: F)) (.inl (n : Int)) = valV (fkv F) (.inl (n : Int)) := valV_neg (p := ((.inl (a : Int) : Key), V.bl true)) fun z => c ((key_eq a n).mp z)
      rw [e, ih]
      by_cases d : n ∈ F
      · rw [if_pos d, if_pos (List.mem_cons_of_mem _ d)]
      · rw [if_neg d, if_neg (fun z => by rcases List.mem_cons.mp z with z | z; exact c z.symm; exact d z)]
def addN (F : List Nat) (n : Nat) : List Nat := if n ∈ F then F else F ++ [n]
theorem addN_mem {F : List Nat} {n k : Nat} : k ∈ addN F n ↔ k ∈ F ∨ k = n := by
  unfold addN
  by_cases c : n ∈ F
  · rw [if_pos c]
    exact ⟨.inl, fun z => by rcases z with z | rfl <;> assumption⟩
  · rw [if_neg c, List.mem_append, List.mem_singleton]
theorem addN_nodup {F : List Nat} {n : Nat} (h : F.Nodup) : (addN F n).Nodup := by
  unfold addN
  by_cases c : n ∈ F
  · rw [if_pos c]; exact h
  · rw [if_neg c]
    exact List.nodup_append.mpr ⟨h, by simp, fun a ha b hb e => by rw [List.mem_singleton] at hb; rw [e, hb] at ha; exact c ha⟩
theorem putK_fkv (F : List Nat) (n : Nat) : putK (fkv F) (.inl (n : Int)) (.bl true) = fkv (addN F n) := by
  by_cases c : n ∈ F
  · unfold addN putK
    have h := valV_any (.inl (n : Int) : Key) (fkv F)
    rw [valV_fkv, if_pos c] at h
    rw [h, if_pos c, if_pos (show (some (V.bl true)).isSome = true from rfl)]
    unfold fkv
    rw [List.map_map]
    refine List.map_congr_left fun a _ => ?_
    show (if (Sum.inl (a : Int) : Key) = .inl (n : Int) then ((Sum.inl (a : Int) : Key), V.bl true) else ((Sum.inl (a : Int) : Key), V.bl true)) = _
    split <;> rfl
  · rw [putK_new _ (by rw [valV_fkv, if_neg c])]
    unfold addN fkv
    rw [if_neg c, List.map_append]
    rfl
theorem nats_snoc (l : List Nat) (n : Nat) : nats (l ++ [n]) = nats l ++ [.int (n : Nat)] := by unfold nats; rw [List.map_append]; rfl
theorem nats_at {l : List Nat} {i : Nat} {x : V} (h : (nats l)[i]? = some x) : ∃ n, l[i]? = some n ∧ x = .int (n : Nat) := by
  unfold nats at h
  rw [List.getElem?_map] at h
  cases e : l[i]? with
  | none => rw [e] at h; cases h
  | some n => rw [e] at h; exact ⟨n, rfl, (Option.some.inj h).symm⟩
theorem nodup_small {F : List Nat} {n : Nat} (h : F.Nodup) (b : ∀ k ∈ F, k < n) : F.length ≤ n := by
  induction n generalizing F with
  | zero =>
    cases F with
    | nil => exact Nat.le_refl _
    | cons a F => exact absurd (b a List.mem_cons_self) (Nat.not_lt_zero _)
  | succ n ih =>
    by_cases c : n ∈ F
    · have e1 := ih (F := F.erase n) (h.erase n) fun k hk => by
        have hk' := (List.Nodup.mem_erase_iff h).mp hk
        have := b k hk'.2
        have := hk'.1
        omega
      rw [List.length_erase_of_mem c] at e1
      omega
    · have := ih h fun k hk => by
        have := b k hk
        have : k ≠ n := fun z => c (z ▸ hk)
        omega
      omega
def sp_led (K : PySem.W.Frag) : Sp := fun vs H Q _ => ∃ (t p : Addr) (N : Nat) (ss : List Stp) (l : List Nat), vs = [.ref t, .ref p] ∧ StSq K H t ss ∧ SsOk N ss ∧ H p = some (.lst (nats l)) ∧ (∀ n ∈ l, n < N) ∧ l.length ≤ 300 ∧
  ∀ q (l' : List Nat) H', Same H H' → H q = none → H' q = some (.lst (nats l')) → (∀ n, n ∈ l' ↔ Reach ss l n) → l'.Pairwise (· < ·) → Q (.ref q) H'
theorem nodup_sub {α : Type} [DecidableEq α] : ∀ {l T : List α}, l.Nodup → (∀ x ∈ l, x ∈ T) → l.length ≤ T.length
  | [], _, _, _ => Nat.zero_le _
  | a :: l, T, h, s => by
    have q := List.nodup_cons.mp h
    have i := nodup_sub (T := T.erase a) q.2 fun x hx => (List.mem_erase_of_ne (fun e => q.1 (by rw [← e]; exact hx))).mpr (s x (List.mem_cons_of_mem _ hx))
    have m := s a List.mem_cons_self
    have := List.length_erase_of_mem m
    have := List.length_pos_of_mem m
    rw [List.length_cons]
    omega
theorem inV_nats (n : Nat) : ∀ l : List Nat, inV (.int (n : Nat)) (nats l) = decide (n ∈ l)
  | [] => rfl
  | a :: l => by
    have ih := inV_nats n l
    unfold inV nats at ih ⊢
    rw [List.map_cons, List.any_cons, ih]
    have e : eqV (.int (a : Nat)) (.int (n : Nat)) = decide (n = a) := by
      show ((((a : Nat) : Int)) == ((n : Nat) : Int)) = decide (n = a)
      rw [Bool.eq_iff_iff, beq_iff_eq, decide_eq_true_iff]
      omega
    rw [e]
    by_cases c : n = a
    · subst c
      simp
    · simp [c]
theorem flat_nats : ∀ l : List Nat, (nats l).all flatV = true
  | [] => rfl
  | a :: l => by
    show (flatV (.int (a : Nat)) && (nats l).all flatV) = true
    rw [flat_nats l]
    rfl
theorem dec_int (a b : Int) : decide (V.int a = V.int b) = decide (a = b) := decide_eq_decide.mpr ⟨fun h => by injection h, fun h => by rw [h]⟩
/-! ### which stands have a better row -/
def impr (f D : RF) (n : Nat) : Bool := match f n with
  | none => false
  | some x => match D n with
    | none => true
    | some y => decide (y.1 < x.1)
def sp_improved (K : PySem.W.Frag) : Sp := fun vs H Q _ => ∃ (r b : Addr) (f D : RF) (kvs kvb : List (Key × V)), vs = [.ref r, .ref b] ∧ H r = some (.dK kvs) ∧ KvOk K H kvs (E2 f) ∧ H b = some (.dK kvb) ∧ KvOk K H kvb (E2 D) ∧ r ≠ b ∧ kvs.length ≤ 300 ∧
  ∀ p (l : List Nat) H', Same H H' → H p = none → H' p = some (.lst (nats l)) → (∀ n, n ∈ l ↔ impr f D n = true) → l.length ≤ 300 → Q (.ref p) H'
/-- the stands found and those that wait -/
structure Led (N : Nat) (ss : List Stp) (l F Wt : List Nat) : Prop where
  nd : F.Nodup
  bd : ∀ n ∈ F, n < N
  re : ∀ n ∈ F, Reach ss l n
  sub : ∀ n ∈ Wt, n ∈ F
  bas : ∀ n ∈ l, n ∈ F
/-- all but those that wait (and it, from the step i on) are closed -/
def Closed (ss : List Stp) (F Wt : List Nat) : Prop := ∀ s ∈ ss, s.b ∈ F → s.b ∉ Wt → s.e ∈ F
/-! ### the best rows of all -/
def lvl (sg : Int) (ss : List Stp) : Nat → RF
  | 0 => fun n => if n = 0 then some (0, []) else none
  | i + 1 => longer sg (lvl sg ss i) ss
def bst (sg : Int) (ss : List Stp) : Nat → RF
  | 0 => fun _ => none
  | i + 1 => fun n => if impr (lvl sg ss i) (bst sg ss i) n = true then lvl sg ss i n else bst sg ss i n
theorem longer_ind {sg : Int} {f : RF} {ss : List Stp} {P : Nat → Int × Wd → Prop} (h : ∀ s ∈ ss, ∀ y, f s.b = some y → P s.e (y.1 + sg * s.g, y.2 ++ [s.c])) : ∀ n y, longer sg f ss n = some y → P n y := by
  have gen : ∀ (ss' : List Stp) (acc : RF), (∀ s ∈ ss', s ∈ ss) → (∀ n y, acc n = some y → P n y) → ∀ n y, ss'.foldl (turnL sg f) acc n = some y → P n y := by
    intro ss'
    induction ss' with
    | nil => exact fun acc _ ha => ha
    | cons s r ih =>
      intro acc sub ha
      refine ih (turnL sg f acc s) (fun t ht => sub t (List.mem_cons_of_mem _ ht)) fun n y e => ?_
      unfold turnL at e
      cases fb : f s.b with
      | none => rw [fb] at e; exact ha n y e
      | some v =>
        rw [fb] at e
        dsimp only at e
        split at e
        · unfold RF.put at e
          split at e
          · rename_i q
            cases e
            rw [q]
            exact h s (sub s List.mem_cons_self) v fb
          · exact ha n y e
        · exact ha n y e
  exact gen ss _ (fun _ h => h) fun _ _ e => nomatch e
theorem lvl_sok {sg : Int} {N : Nat} {ss : List Stp} (o : SsOk N ss) : ∀ i n y, lvl sg ss i n = some y → n < N ∧ y.2.length = i
  | 0, n, y, e => by
    unfold lvl at e
    split at e
    · rename_i q
      cases e
      exact ⟨by rw [q]; exact o.n1, rfl⟩
    · cases e
  | i + 1, n, y, e => longer_ind (P := fun n y => n < N ∧ y.2.length = i + 1) (fun s hs v ev => ⟨(o.ok s hs).e, by rw [List.length_append, (lvl_sok o i _ _ ev).2]; rfl⟩) n y e
theorem lvl_ok {sg : Int} {m : MD} (o : m.Ok) : ∀ i n y, lvl sg m.ss i n = some y → n < m.n ∧ y.2.length = i := lvl_sok o.sok
def endE : List V := [.str "endless", .non]
def sp_best (K : PySem.W.Frag) : Sp := fun vs H Q _ => ∃ (t : Addr) (sg : Int) (N : Nat) (ss : List Stp), vs = [.int (N : Nat), .ref t, .int sg] ∧ StSq K H t ss ∧ SsOk N ss ∧ Sgn sg ∧
  ∀ p kvs H' (l L : List Nat), Same H H' → H p = none → H' p = some (.dK kvs) → (∀ n, n ∈ l ↔ impr (lvl sg ss N) (bst sg ss N) n = true) → (∀ n, n ∈ L ↔ Reach ss l n) →
    KvOk K H' kvs (fun n => if n ∈ L then some endE else E2 (bst sg ss N) n) → Q (.ref p) H'
/-! ### a machine is one -/
def sp_check_machine (C : Addr) : Sp := fun vs H Q _ => ∃ x dx fs, vs = [.ref x] ∧ H x = some (.ins C dx fs) ∧ Q .non H
section
variable {P : Program} {w : World} {K : PySem.W.Frag} {mg : Str → Option Value} {base : Heap}
theorem ty_Machine (T : Txt K mg) {H : Hp} {x dx : Addr} {fs : List (Str × V)} (h : H x = some (.ins T.c_Machine dx fs)) : TyX K H (.ref x) (.ref T.c_Machine) := .base (.ins h T.cl_Machine T.i1_Machine T.i2_Machine T.i3_Machine T.i4_Machine)
theorem kit_self {C : Addr} : PySem.W.kitOne K (.ref C) (.ref C) = some true := by
  unfold PySem.W.kitOne
  rw [if_pos (by simp)]
theorem ok_check_machine (T : Txt K mg) : FnOk P w K mg base (L2.CX P w) 1 T.a_check_machine T.fd_check_machine ["value"] (sp_check_machine T.c_Machine) := by
  refine T.F_check_machine.okX sc_check_machine (fun vs H Q E h => ?_) (fun cdv A outer s H vs Q E hr h => ?_)
  · obtain ⟨x, dx, fs, rfl, _⟩ := h
    rfl
  · obtain ⟨x, dx, fs, rfl, hx, k⟩ := h
    refine ⟨_, (PSs.nox (pss_one (ps_if (pt_not (pt_val (pe_callB call_isi (by rfl) T.z_isinstance (by decide +kernel) (pa_cons (pv 0) (pa_cons (pe_glob (v := .ref T.c_Machine) (by rfl) T.m_Machine rfl) pa_nil)))))
  (pss_one ps_never)
  pss_nil))), ?_⟩
    walk_at "begin"
    walk_at "go"
    refine k_isi (.own _) (ty_Machine T hx) kit_self ?_
    walk_at "go"
    refine iteF ?_
    walk_at "go"
    exact k
end
/-! ### least and greatest tallies and their rows at a stand -/
theorem lvl_small {sg : Int} {m : MD} (o : m.Ok) (hsg : sg = 1 ∨ sg = -1) : ∀ i n y, lvl sg m.ss i n = some y → -(i * 10 ^ 30 : Int) ≤ y.1 ∧ y.1 ≤ i * 10 ^ 30
  | 0, n, y, e => by
    unfold lvl at e
    split at e
    · cases e; exact ⟨by decide, by decide⟩
    · cases e
  | i + 1, n, y, e => longer_ind (P := fun n y => -(((i + 1 : Nat) : Int) * 10 ^ 30) ≤ y.1 ∧ y.1 ≤ ((i + 1 : Nat) : Int) * 10 ^ 30) (fun s hs v ev => by
      have := lvl_small o hsg i _ _ ev
      have := (o.ok s hs).g
      have := (o.ok s hs).g'
      rcases hsg with rfl | rfl
      · constructor <;> dsimp only <;> omega
      · constructor <;> dsimp only <;> omega) n y e
theorem bst_of {sg : Int} {ss : List Stp} : ∀ i n y, bst sg ss i n = some y → ∃ j, j < i ∧ lvl sg ss j n = some y
  | 0, n, y, e => nomatch e
  | i + 1, n, y, e => by
    unfold bst at e
    split at e
    · exact ⟨i, Nat.lt_succ_self _, e⟩
    · obtain ⟨j, h, q⟩ := bst_of i n y e
      exact ⟨j, by omega, q⟩
def impL (sg : Int) (m : MD) : List Nat := (List.range m.n).filter fun n => impr (lvl sg m.ss m.n) (bst sg m.ss m.n) n
theorem mem_impL {sg : Int} {m : MD} (o : m.Ok) (n : Nat) : n ∈ impL sg m ↔ impr (lvl sg m.ss m.n) (bst sg m.ss m.n) n = true := by
  unfold impL
  rw [List.mem_filter, List.mem_range]
  refine ⟨fun h => h.2, fun h => ⟨?_, h⟩⟩
  unfold impr at h
  cases e : lvl sg m.ss m.n n with
  | none => rw [e] at h; cases h
  | some y => exact (lvl_ok o _ _ _ e).1
theorem reach_congr {ss : List Stp} {l l' : List Nat} (h : ∀ n, n ∈ l ↔ n ∈ l') (n : Nat) : Reach ss l n ↔ Reach ss l' n := by
  constructor
  · intro q
    induction q with
    | base q => exact .base ((h _).mp q)
    | step q _ ih => exact .step q ih
  · intro q
    induction q with
    | base q => exact .base ((h _).mpr q)
    | step q _ ih => exact .step q ih
/-- no best tally there -/
def Endl (sg : Int) (m : MD) (n : Nat) : Prop := Reach m.ss (impL sg m) n
open Classical in
noncomputable def bestE (sg : Int) (m : MD) (n : Nat) : Option (List V) := if Endl sg m n then some endE else E2 (bst sg m.ss m.n) n
open Classical in
noncomputable def tallyAt (sg : Int) (m : MD) (n : Nat) : V := if Endl sg m n then .str "endless" else match bst sg m.ss m.n n with
  | none => .non
  | some y => .int (sg * y.1)
open Classical in
noncomputable def rowAt (sg : Int) (m : MD) (n : Nat) : V := if Endl sg m n then .non else match bst sg m.ss m.n n with
  | none => .non
  | some y => .str (sOf y.2)
def sp_check_stand (K : PySem.W.Frag) (C : Addr) : Sp := fun vs H Q _ => ∃ (x : Addr) (n : Nat) (m : MD), vs = [.ref x, .int (n : Nat)] ∧ MAt K C H x m ∧ n < m.n ∧ Q .non H
def sp_at3 (K : PySem.W.Frag) (C : Addr) (f : Int → MD → Nat → V) : Sp := fun vs H Q _ => ∃ (x : Addr) (n : Nat) (sg : Int) (m : MD), vs = [.ref x, .int (n : Nat), .int sg] ∧ MAt K C H x m ∧ m.Ok ∧ n < m.n ∧ (sg = 1 ∨ sg = -1) ∧ ∀ H', Same H H' → Q (f sg m n) H'
def sp_at2 (K : PySem.W.Frag) (C : Addr) (f : MD → Nat → V) : Sp := fun vs H Q _ => ∃ (x : Addr) (n : Nat) (m : MD), vs = [.ref x, .int (n : Nat)] ∧ MAt K C H x m ∧ m.Ok ∧ n < m.n ∧ ∀ H', Same H H' → Q (f m n) H'
section
variable {P : Program} {w : World} {K : PySem.W.Frag} {mg : Str → Option Value} {base : Heap}
theorem bestE_of {sg : Int} {m : MD} {l L : List Nat} (o : m.Ok) (h : ∀ n, n ∈ l ↔ impr (lvl sg m.ss m.n) (bst sg m.ss m.n) n = true) (h2 : ∀ n, n ∈ L ↔ Reach m.ss l n) : (fun n => if n ∈ L then some endE else E2 (bst sg m.ss m.n) n) = bestE sg m := by
  funext n
  unfold bestE Endl
  have e : n ∈ L ↔ Reach m.ss (impL sg m) n := (h2 n).trans (reach_congr (fun k => (h k).trans (mem_impL o k).symm) n)
  by_cases c : n ∈ L
  · rw [if_pos c, if_pos (e.mp c)]
  · rw [if_neg c, if_neg fun z => c (e.mpr z)]
end
/-! ### what the best rows are worth -/
theorem le_of_not {v w : Wd} (h : ¬ w < v) : v ≤ w := h
theorem wd_trans {u v w : Wd} (h : ¬ v < u) (q : ¬ w < v) : ¬ w < u := List.le_trans (le_of_not h) (le_of_not q)
theorem wd_asymm {v w : Wd} (h : v < w) : ¬ w < v := List.lt_asymm h
theorem wd_snoc : ∀ {v w : Wd} {c : Nat}, v.length = w.length → (v ++ [c] < w ++ [c] ↔ v < w)
  | [], [], c, _ => by simp
  | a :: v, b :: w, c, h => by
    have ih := wd_snoc (v := v) (w := w) (c := c) (by simpa using h)
    rw [List.cons_append, List.cons_append, List.cons_lt_cons_iff, List.cons_lt_cons_iff, ih]
  | [], _ :: _, _, h => by simp at h
  | _ :: _, [], _, h => by simp at h
/-- y is at least as good as x -/
def NW (x y : Int × Wd) : Prop := x.1 < y.1 ∨ (x.1 = y.1 ∧ ¬ x.2 < y.2)
theorem NW.refl (x : Int × Wd) : NW x x := .inr ⟨rfl, List.lt_irrefl _⟩
theorem NW.trans {x y z : Int × Wd} (h : NW x y) (q : NW y z) : NW x z := by
  rcases h with h | ⟨h1, h2⟩
  · rcases q with q | ⟨q1, q2⟩
    · exact .inl (by omega)
    · exact .inl (by omega)
  · rcases q with q | ⟨q1, q2⟩
    · exact .inl (by omega)
    · exact .inr ⟨by omega, wd_trans q2 h2⟩
theorem NW.le {x y : Int × Wd} (h : NW x y) : x.1 ≤ y.1 := by
  rcases h with h | ⟨h, _⟩ <;> omega
theorem better_no {x y : Int × Wd} (h : better x (some y) = false) : NW x y := by
  have e : better x (some y) = (decide (y.1 < x.1) || (decide (x.1 = y.1) && decide (x.2 < y.2))) := rfl
  rw [e, Bool.or_eq_false_iff, Bool.and_eq_false_iff] at h
  obtain ⟨h1, h2⟩ := h
  have h1 := of_decide_eq_false h1
  by_cases c : x.1 = y.1
  · rcases h2 with h2 | h2
    · exact absurd c (of_decide_eq_false h2)
    · exact .inr ⟨c, of_decide_eq_false h2⟩
  · exact .inl (by omega)
theorem better_yes {x y : Int × Wd} (h : better x (some y) = true) : NW y x := by
  have e : better x (some y) = (decide (y.1 < x.1) || (decide (x.1 = y.1) && decide (x.2 < y.2))) := rfl
  rw [e, Bool.or_eq_true, Bool.and_eq_true] at h
  rcases h with h | ⟨h1, h2⟩
  · exact .inl (of_decide_eq_true h)
  · exact .inr ⟨(of_decide_eq_true h1).symm, wd_asymm (of_decide_eq_true h2)⟩
theorem turnL_grow {sg : Int} {f acc : RF} {s : Stp} {n : Nat} {y : Int × Wd} (h : acc n = some y) : ∃ z, turnL sg f acc s n = some z ∧ NW y z := by
  unfold turnL
  cases fb : f s.b with
  | none => exact ⟨y, h, .refl y⟩
  | some v =>
    dsimp only
    by_cases c : better (v.1 + sg * s.g, v.2 ++ [s.c]) (acc s.e) = true
    · rw [if_pos c]
      unfold RF.put
      by_cases d : n = s.e
      · rw [if_pos d]
        rw [← d, h] at c
        exact ⟨_, rfl, better_yes c⟩
      · rw [if_neg d]
        exact ⟨y, h, .refl y⟩
    · rw [if_neg c]
      exact ⟨y, h, .refl y⟩
theorem turnL_has {sg : Int} {f acc : RF} {s : Stp} {v : Int × Wd} (h : f s.b = some v) : ∃ z, turnL sg f acc s s.e = some z ∧ NW (v.1 + sg * s.g, v.2 ++ [s.c]) z := by
  unfold turnL
  rw [h]
  dsimp only
  by_cases c : better (v.1 + sg * s.g, v.2 ++ [s.c]) (acc s.e) = true
  · rw [if_pos c]
    unfold RF.put
    rw [if_pos rfl]
    exact ⟨_, rfl, .refl _⟩
  · rw [if_neg c]
    cases e : acc s.e with
    | none => rw [e] at c; exact absurd rfl c
    | some y =>
      rw [e] at c
      exact ⟨y, rfl, better_no (by simpa using c)⟩
theorem fold_grow {sg : Int} {f : RF} {n : Nat} : ∀ (ss : List Stp) (acc : RF) (y : Int × Wd), acc n = some y → ∃ z, ss.foldl (turnL sg f) acc n = some z ∧ NW y z
  | [], _, y, h => ⟨y, h, .refl y⟩
  | s :: r, acc, y, h => by
    obtain ⟨z, e, q⟩ := turnL_grow (sg := sg) (f := f) (s := s) h
    obtain ⟨z', e', q'⟩ := fold_grow r _ z e
    exact ⟨z', e', q.trans q'⟩
theorem longer_has {sg : Int} {f : RF} {s : Stp} {v : Int × Wd} (h : f s.b = some v) : ∀ (ss : List Stp), s ∈ ss → ∀ acc : RF, ∃ z, ss.foldl (turnL sg f) acc s.e = some z ∧ NW (v.1 + sg * s.g, v.2 ++ [s.c]) z
  | a :: r, hs, acc => by
    rcases List.mem_cons.mp hs with rfl | hs
    · obtain ⟨z, e, q⟩ := turnL_has (sg := sg) (f := f) (acc := acc) h
      obtain ⟨z', e', q'⟩ := fold_grow (sg := sg) (f := f) r _ z e
      exact ⟨z', e', q.trans q'⟩
    · exact longer_has h r hs _
/-- the rows -/
def stepOf (m : MD) (b c : Nat) : Option Stp := m.ss.find? fun s => s.b == b && s.c == c
def runW (m : MD) : Nat × Int → Wd → Option (Nat × Int)
  | st, [] => some st
  | st, c :: w => match stepOf m st.1 c with
    | none => none
    | some x => runW m (x.e, st.2 + x.g) w
def run (m : MD) (w : Wd) : Option (Nat × Int) := runW m (0, 0) w
theorem runW_snoc (m : MD) (c : Nat) : ∀ (w : Wd) (st : Nat × Int), runW m st (w ++ [c]) = (runW m st w).bind fun q => (stepOf m q.1 c).map fun x => (x.e, q.2 + x.g)
  | [], st => by
    show (match stepOf m st.1 c with | none => none | some x => some (x.e, st.2 + x.g)) = (stepOf m st.1 c).map _
    cases stepOf m st.1 c <;> rfl
  | a :: w, st => by
    show (match stepOf m st.1 a with | none => none | some x => runW m (x.e, st.2 + x.g) (w ++ [c])) = (match stepOf m st.1 a with | none => none | some x => runW m (x.e, st.2 + x.g) w).bind _
    cases stepOf m st.1 a with
    | none => rfl
    | some x => exact runW_snoc m c w (x.e, st.2 + x.g)
theorem stepOf_mem {m : MD} {b c : Nat} {s : Stp} (h : stepOf m b c = some s) : s ∈ m.ss ∧ s.b = b ∧ s.c = c := by
  have h1 := List.mem_of_find?_eq_some h
  have h2 := List.find?_some h
  rw [Bool.and_eq_true] at h2
  exact ⟨h1, by simpa using h2.1, by simpa using h2.2⟩
theorem stepOf_self {m : MD} (o : m.Ok) {s : Stp} (h : s ∈ m.ss) : stepOf m s.b s.c = some s := by
  cases e : stepOf m s.b s.c with
  | none =>
    have := List.find?_eq_none.mp e s h
    simp at this
  | some t =>
    obtain ⟨h1, h2, h3⟩ := stepOf_mem e
    obtain ⟨i, hi, ei⟩ := List.getElem_of_mem h
    obtain ⟨j, hj, ej⟩ := List.getElem_of_mem h1
    have up := List.pairwise_iff_getElem.mp o.up
    have : i = j := by
      rcases Nat.lt_trichotomy i j with c | c | c
      · have := up i j hi hj c
        rw [ei, ej] at this
        rcases this with z | z <;> omega
      · exact c
      · have := up j i hj hi c
        rw [ei, ej] at this
        rcases this with z | z <;> omega
    subst this
    rw [← ei, ← ej]
theorem run_snoc {m : MD} {w : Wd} {c : Nat} {n : Nat} {t : Int} : run m (w ++ [c]) = some (n, t) ↔ ∃ u t' s, run m w = some (u, t') ∧ stepOf m u c = some s ∧ n = s.e ∧ t = t' + s.g := by
  unfold run
  rw [runW_snoc]
  constructor
  · intro h
    cases e : runW m (0, 0) w with
    | none => rw [e] at h; cases h
    | some q =>
      rw [e] at h
      cases e2 : stepOf m q.1 c with
      | none =>
        have h' : (stepOf m q.1 c).map (fun x => (x.e, q.2 + x.g)) = some (n, t) := h
        rw [e2] at h'
        cases h'
      | some s =>
        have h' : (stepOf m q.1 c).map (fun x => (x.e, q.2 + x.g)) = some (n, t) := h
        rw [e2] at h'
        have h2 : (s.e, q.2 + s.g) = (n, t) := Option.some.inj h'
        injection h2 with h3 h4
        exact ⟨q.1, q.2, s, rfl, e2, h3.symm, h4.symm⟩
  · rintro ⟨u, t', s, e, e2, rfl, rfl⟩
    rw [e]
    show (stepOf m u c).map _ = _
    rw [e2]
    rfl
theorem lvl_run {sg : Int} {m : MD} (o : m.Ok) (hsg : sg = 1 ∨ sg = -1) : ∀ i n y, lvl sg m.ss i n = some y → run m y.2 = some (n, sg * y.1)
  | 0, n, y, e => by
    unfold lvl at e
    split at e
    · rename_i q
      cases e
      rw [q, Int.mul_zero]
      rfl
    · cases e
  | i + 1, n, y, e => longer_ind (P := fun n y => run m y.2 = some (n, sg * y.1)) (fun s hs v ev => by
      refine run_snoc.mpr ⟨s.b, _, s, lvl_run o hsg i _ _ ev, stepOf_self o hs, rfl, ?_⟩
      rcases hsg with rfl | rfl
      · omega
      · omega) n y e
theorem lvl_best {sg : Int} {m : MD} (o : m.Ok) (hsg : sg = 1 ∨ sg = -1) : ∀ i (w : Wd) n t, w.length = i → run m w = some (n, t) → ∃ y, lvl sg m.ss i n = some y ∧ NW (sg * t, w) y := by
  intro i
  induction i with
  | zero =>
    intro w n t hl hr
    have : w = [] := List.eq_nil_of_length_eq_zero hl
    subst this
    cases hr
    exact ⟨(0, []), rfl, .inr ⟨by rw [Int.mul_zero], by simp⟩⟩
  | succ i ih =>
    intro w n t hl hr
    rcases List.eq_nil_or_concat w with rfl | ⟨w', c, e⟩
    · cases hl
    · rw [List.concat_eq_append] at e
      subst e
      obtain ⟨u, t', s, h1, h2, rfl, rfl⟩ := run_snoc.mp hr
      obtain ⟨hs, hb, hc⟩ := stepOf_mem h2
      have hl' : w'.length = i := by simpa using hl
      obtain ⟨v, ev, nv⟩ := ih w' u t' hl' h1
      have lv := (lvl_ok o i _ _ ev).2
      rw [← hb] at ev
      obtain ⟨z, ez, nz⟩ := longer_has (sg := sg) ev m.ss hs fun _ => none
      refine ⟨z, ez, NW.trans ?_ nz⟩
      rw [hc]
      have e1 : sg * (t' + s.g) = sg * t' + sg * s.g := Int.mul_add ..
      rcases nv with nv | ⟨n1, n2⟩
      · exact .inl (by show sg * (t' + s.g) < v.1 + sg * s.g; dsimp only at nv; omega)
      · refine .inr ⟨by show sg * (t' + s.g) = v.1 + sg * s.g; dsimp only at n1; omega, fun q => n2 ((wd_snoc (by rw [hl', lv])).mp q)⟩
/-- the best of the lengths below i, and where it is found first -/
theorem bst_spec {sg : Int} {ss : List Stp} {n : Nat} : ∀ i y, bst sg ss i n = some y → (∃ j, j < i ∧ lvl sg ss j n = some y ∧ ∀ k x, k < j → lvl sg ss k n = some x → x.1 < y.1) ∧ ∀ k x, k < i → lvl sg ss k n = some x → x.1 ≤ y.1
  | 0, _, h => nomatch h
  | i + 1, y, h => by
    unfold bst at h
    split at h
    · rename_i c
      have up : ∀ k x, k < i → lvl sg ss k n = some x → x.1 < y.1 := fun k x hk ex => by
        unfold impr at c
        rw [h] at c
        dsimp only at c
        cases eb : bst sg ss i n with
        | none =>
          exfalso
          have none_of : ∀ i, bst sg ss i n = none → ∀ k, k < i → lvl sg ss k n = none := by
            intro i
            induction i with
            | zero => exact fun _ k hk => absurd hk (Nat.not_lt_zero _)
            | succ i ih =>
              intro hn k hk
              unfold bst at hn
              split at hn
              · rename_i q
                unfold impr at q
                rw [hn] at q
                cases q
              · rename_i q
                by_cases e : k = i
                · cases el : lvl sg ss i n with
                  | none => rw [e]; exact el
                  | some z =>
                    exfalso
                    apply q
                    unfold impr
                    rw [el, hn]
                · exact ih hn k (by omega)
          have := none_of i eb k hk
          rw [ex] at this
          cases this
        | some z =>
          rw [eb] at c
          have c' := of_decide_eq_true c
          have := (bst_spec i z eb).2 k x hk ex
          omega
      refine ⟨⟨i, Nat.lt_succ_self _, h, up⟩, fun k x hk ex => ?_⟩
      by_cases e : k = i
      · rw [e, h] at ex
        cases ex
        exact Int.le_refl _
      · exact Int.le_of_lt (up k x (by omega) ex)
    · rename_i c
      obtain ⟨⟨j, hj, ej, up⟩, all⟩ := bst_spec i y h
      refine ⟨⟨j, by omega, ej, up⟩, fun k x hk ex => ?_⟩
      by_cases e : k = i
      · unfold impr at c
        rw [e] at ex
        rw [ex, h] at c
        have c' : ¬ decide (y.1 < x.1) = true := c
        have : ¬ y.1 < x.1 := fun z => c' (decide_eq_true z)
        omega
      · exact all k x (by omega) ex
theorem bst_has {sg : Int} {ss : List Stp} {n : Nat} : ∀ i k x, k < i → lvl sg ss k n = some x → ∃ y, bst sg ss i n = some y
  | i + 1, k, x, hk, ex => by
    unfold bst
    by_cases c : impr (lvl sg ss i) (bst sg ss i) n = true
    · rw [if_pos c]
      unfold impr at c
      cases e : lvl sg ss i n with
      | none => rw [e] at c; cases c
      | some y => exact ⟨y, rfl⟩
    · rw [if_neg c]
      by_cases e : k = i
      · rw [e] at ex
        unfold impr at c
        rw [ex] at c
        cases eb : bst sg ss i n with
        | none => rw [eb] at c; exact absurd rfl c
        | some y => exact ⟨y, rfl⟩
      · exact bst_has i k x (by omega) ex
/-- no row is better, if there is a best one -/
theorem no_better {sg : Int} {m : MD} (o : m.Ok) (hsg : sg = 1 ∨ sg = -1) : ∀ (k : Nat) (w : Wd) n t, w.length = k → run m w = some (n, t) → ¬ Endl sg m n → ∃ y, bst sg m.ss m.n n = some y ∧ sg * t ≤ y.1 := by
  have up : ∀ j x n, j ≤ m.n → lvl sg m.ss j n = some x → ¬ Endl sg m n → ∃ y, bst sg m.ss m.n n = some y ∧ x.1 ≤ y.1 := fun j x n hj ex hn => by
    by_cases c : j < m.n
    · obtain ⟨y, ey⟩ := bst_has m.n j x c ex
      exact ⟨y, ey, (bst_spec _ _ ey).2 j x c ex⟩
    · have e : j = m.n := by omega
      rw [e] at ex
      have ni : ¬ impr (lvl sg m.ss m.n) (bst sg m.ss m.n) n = true := fun q => hn (.base ((mem_impL o n).mpr q))
      unfold impr at ni
      rw [ex] at ni
      cases eb : bst sg m.ss m.n n with
      | none => rw [eb] at ni; exact absurd rfl ni
      | some y =>
        rw [eb] at ni
        refine ⟨y, rfl, ?_⟩
        have : ¬ y.1 < x.1 := fun z => ni (decide_eq_true z)
        omega
  intro k
  induction k with
  | zero =>
    intro w n t hl hr hn
    have e0 : w = [] := List.eq_nil_of_length_eq_zero hl
    subst e0
    cases hr
    obtain ⟨y, ey, hy⟩ := up 0 (0, []) 0 (Nat.zero_le _) rfl hn
    exact ⟨y, ey, by rw [Int.mul_zero]; exact hy⟩
  | succ k ih =>
    intro w n t hl hr hn
    rcases List.eq_nil_or_concat w with rfl | ⟨w', c, e⟩
    · cases hl
    · rw [List.concat_eq_append] at e
      subst e
      obtain ⟨u, t', s, h1, h2, rfl, rfl⟩ := run_snoc.mp hr
      obtain ⟨hs, hb, hc⟩ := stepOf_mem h2
      have hu : ¬ Endl sg m u := fun q => hn (.step hs (by rw [hb]; exact q))
      obtain ⟨y, ey, hy⟩ := ih w' u t' (by simpa using hl) h1 hu
      obtain ⟨⟨j, hj, ej, _⟩, _⟩ := bst_spec _ _ ey
      have r1 := lvl_run o hsg j _ _ ej
      have l1 := (lvl_ok o j _ _ ej).2
      obtain ⟨x, ex, nx⟩ := lvl_best o hsg (j + 1) (y.2 ++ [c]) s.e (sg * y.1 + s.g) (by rw [List.length_append, l1]; rfl) (run_snoc.mpr ⟨u, _, s, r1, h2, rfl, rfl⟩)
      obtain ⟨z, ez, hz⟩ := up (j + 1) x s.e (by omega) ex hn
      refine ⟨z, ez, ?_⟩
      have := nx.le
      dsimp only at this
      rcases hsg with rfl | rfl
      · omega
      · omega
/-- the best one that is told is the least of the shortest ones -/
theorem first_best {sg : Int} {m : MD} (o : m.Ok) (hsg : sg = 1 ∨ sg = -1) {w : Wd} {n : Nat} {t : Int} {y : Int × Wd} (hr : run m w = some (n, t)) (ey : bst sg m.ss m.n n = some y) (ht : sg * t = y.1) : y.2.length < w.length ∨ (y.2.length = w.length ∧ ¬ w < y.2) := by
  obtain ⟨⟨j, hj, ej, first⟩, all⟩ := bst_spec _ _ ey
  have l1 := (lvl_ok o j _ _ ej).2
  by_cases c : w.length < m.n
  · obtain ⟨x, ex, nx⟩ := lvl_best o hsg w.length w n t rfl hr
    have hx := all _ _ c ex
    rcases nx with nx | ⟨n1, n2⟩
    · dsimp only at nx
      omega
    · dsimp only at n1 n2
      rcases Nat.lt_trichotomy w.length j with d | d | d
      · have := first _ _ d ex
        omega
      · rw [d, ej] at ex
        cases ex
        exact .inr ⟨by omega, n2⟩
      · exact .inl (by omega)
  · exact .inl (by omega)
/-! ### two words one after the other -/
theorem runW_append (m : MD) (v : Wd) : ∀ (u : Wd) (st : Nat × Int), runW m st (u ++ v) = (runW m st u).bind fun q => runW m q v
  | [], st => rfl
  | a :: u, st => by
    show (match stepOf m st.1 a with | none => none | some x => runW m (x.e, st.2 + x.g) (u ++ v)) = (match stepOf m st.1 a with | none => none | some x => runW m (x.e, st.2 + x.g) u).bind _
    cases stepOf m st.1 a with
    | none => rfl
    | some x => exact runW_append m v u (x.e, st.2 + x.g)
/-! ### the steps from a stand -/
def nxV (s : Stp) : List V := [.str ⟨#[s.c]⟩, .int (s.e : Nat), .int s.g]
def NxAt (K : PySem.W.Frag) (H : Hp) (vs : List V) (ns : List Stp) : Prop := vs.length = ns.length ∧ ∀ (i : Nat) (s : Stp), ns[i]? = some s → ∃ p, vs[i]? = some (V.ref p) ∧ SqT K H p (nxV s)
theorem NxAt.tups {K : PySem.W.Frag} {H H' : Hp} {vs : List V} {ns : List Stp} (h : NxAt K H vs ns) (t : Tups H H') : NxAt K H' vs ns := ⟨h.1, fun i s e => let ⟨p, q, z⟩ := h.2 i s e; ⟨p, q, t.sq z⟩⟩
theorem NxAt.snoc {K : PySem.W.Frag} {H : Hp} {vs : List V} {ns : List Stp} {p : Addr} {s : Stp} (h : NxAt K H vs ns) (q : SqT K H p (nxV s)) : NxAt K H (vs ++ [V.ref p]) (ns ++ [s]) := by
  refine ⟨by rw [List.length_append, List.length_append, h.1]; rfl, fun i t e => ?_⟩
  by_cases c : i < ns.length
  · rw [List.getElem?_append_left c] at e
    obtain ⟨r, e1, q1⟩ := h.2 i t e
    exact ⟨r, by rw [List.getElem?_append_left (by rw [h.1]; exact c)]; exact e1, q1⟩
  · rw [List.getElem?_append_right (by omega)] at e
    have z : i - ns.length = 0 := by
      have := (List.getElem?_eq_some_iff.mp e).1
      simp at this
      omega
    rw [z] at e
    cases e
    exact ⟨p, by rw [List.getElem?_append_right (by rw [h.1]; omega), h.1, z]; rfl, q⟩
def fromS (m : MD) (n : Nat) : List Stp := m.ss.filter fun s => s.b == n
def sp_next (K : PySem.W.Frag) : Sp := fun vs H Q _ => ∃ (d : Addr) (n : Nat) (m : MD), vs = [.ref d, .int (n : Nat)] ∧ DAt K H d m ∧ m.Ok ∧
  ∀ p us H', Same H H' → H p = none → H' p = some (.lst us) → NxAt K H' us (fromS m n) → Q (.ref p) H'
section
variable {P : Program} {w : World} {K : PySem.W.Frag} {mg : Str → Option Value} {base : Heap}
theorem ok_law_next (T : Txt K mg) : FnOk P w K mg base (L2.CX P w) 1 T.a_law_next T.fd_law_next ["_law_d", "_law_stand"] (sp_next K) := by
  refine T.F_law_next.okX sc_law_next (fun vs H Q E h => ?_) (fun cdv A outer s H vs Q E hr h => ?_)
  · obtain ⟨d, n, m, rfl, _⟩ := h
    rfl
  · obtain ⟨d, n, m, rfl, ⟨t, u, hd, ⟨us, ht, hs⟩, hu⟩, o, k⟩ := h
    refine ⟨_, (PSs.nox (pss_one (ps_ret (pe_lc (own := [("_law_begun", 2), ("_law_letter", 3), ("_law_end", 4), ("_law_gain", 5)]) (g := (gTup K 4 (gCons (gName 2) (gCons (gName 3) (gCons (gName 4) (gCons (gName 5) gNil)))))) rfl sc_law_next.nd (pi_tup (pe_dget (hu_of hr) (pv 0) pe_str (fun _ _ => rfl))) (blkOk_by (own := [("_law_begun", 2), ("_law_letter", 3), ("_law_end", 4), ("_law_gain", 5)]) (N := ["_law_d", "_law_stand", "_law_begun", "_law_letter", "_law_end", "_law_gain"]) (sc := defScope s_law_next) (by decide +kernel)) (fun _ _ _ _ _ => (pg_tup rfl (pgs_cons (pg_name (i := 2) sc_law_next.nd rfl (Or.inl rfl)) (pgs_cons (pg_name (i := 3) sc_law_next.nd rfl (Or.inl rfl)) (pgs_cons (pg_name (i := 4) sc_law_next.nd rfl (Or.inl rfl)) (pgs_cons (pg_name (i := 5) sc_law_next.nd rfl (Or.inl rfl)) pgs_nil)))))) (fun _ _ _ _ _ => (pts_one (pt_cmpR op_eq (pv 2) (pv 1) (nomark _)))) (fun _ _ _ _ _ => (pe_tup (pa_cons (pv 3) (pa_cons (pv 4) (pa_cons (pv 5) pa_nil))))))))), ?_⟩
    walk_at "begin"
    walk_at "go"
    refine ⟨d, .ref t, rfl, DGet.k (k := .inr "steps") hd, t, rfl, ⟨us, ht⟩, fun D hD => ?_⟩
    refine lc_tup (xs := us) (fun i H' => Same H H' ∧ ∃ ws, H' D = some (.lst ws) ∧ NxAt K H' ws ((m.ss.take i).filter fun s => s.b == n) ∧ ws.length ≤ i) ⟨Same.new hD, [], upd_same, ⟨rfl, fun i s e => by simp at e⟩, Nat.le_refl _⟩
      (fun i H' _ ⟨z, _⟩ => (same_tups z).sq ht) ?_ ?_
    · rintro i y H1 hy ⟨z, ws, eD, nx, lw⟩
      have il : i < m.ss.length := by rw [← hs.1]; exact (List.getElem?_eq_some_iff.mp hy).1
      have ei : m.ss[i]? = some (m.ss[i]'il) := List.getElem?_eq_getElem il
      obtain ⟨q, eq, hq⟩ := hs.2 i _ ei
      rw [hy] at eq
      cases eq
      have l32 := o.len
      have tk : (m.ss.take (i + 1)).filter (fun s => s.b == n) = (m.ss.take i).filter (fun s => s.b == n) ++ (if (m.ss[i]'il).b == n then [m.ss[i]'il] else []) := by
        rw [List.take_add_one, ei, List.filter_append]
        congr 1
        show List.filter _ [m.ss[i]'il] = _
        rw [List.filter_cons]
        rfl
      rw [tk]
      generalize m.ss[i]'il = s0 at hq
      refine k_gt ((same_tups z).sq hq) rfl ?_
      unfold stpV
      walk_at "go"
      refine ⟨rfl, ?_⟩
      walk_at "go"
      refine k_ite (fun c => ?_) (fun c => ?_)
      · have c' : s0.b = n := by
          injection c with c
          omega
        walk_at "go"
        refine ⟨(by decide : 3 ≤ sizeLine), fun pn hpn => ?_⟩
        have eD2 : (upd H1 pn (.tup [.str ⟨#[s0.c]⟩, .int (s0.e : Nat), .int s0.g])) D = some (.lst ws) := by rw [upd_ne (ne_of_none eD hpn)]; exact eD
        refine ⟨ws, eD2, Nat.lt_trans (show ws.length < 100 by omega) (by decide), Same.mut (z.trans (Same.new hpn)) hD, _, upd_same, ?_, by rw [List.length_append, List.length_singleton]; omega⟩
        rw [if_pos (by rw [c']; exact beq_self_eq_true n)]
        exact ((nx.tups (Tups.new hpn)).snoc (SqT.of upd_same)).tups (Tups.lst eD2)
      · have c' : ¬ s0.b = n := fun z => c (by rw [z])
        refine ⟨z, ws, eD, ?_, by omega⟩
        rw [if_neg (by simpa using c'), List.append_nil]
        exact nx
    · rintro H1 ⟨z, ws, eD, nx, lw⟩
      rw [hs.1, List.take_length] at nx
      walk_at "go"
      exact k D ws H1 z hD eD nx
end
/-! ### words; the steps told as data -/
theorem bl_ne (b : Bool) : decide (V.bl (!b) = V.bl b) = false := by cases b <;> rfl
theorem sOf_fits {w : Wd} (h : w.length ≤ 100) : (sOf w).length ≤ sizeLine := by rw [sOf_len]; exact Nat.le_trans h (by decide)
theorem dp2 {K : PySem.W.Frag} {H : Hp} {p : Addr} {i j : Int} (h : SqT K H p [.int i, .int j]) : Dp K H (.ref p) (.tuple [.int i, .int j]) := .tup h (.cons (.int _) (.cons (.int _) .nil))
theorem eqv2 (i j : Int) : PyData.eqv (.tuple [.int i, .int j]) (.tuple [.int i, .int j]) = true := by
  show ((i == i) && ((j == j) && true)) = true
  simp
def nxD (s : Stp) : PyData := .tuple [.str ⟨#[s.c]⟩, .int (s.e : Nat), .int s.g]
theorem dp_nx {K : PySem.W.Frag} {H : Hp} : ∀ {us : List V} {ns : List Stp}, NxAt K H us ns → DpAll K H us (ns.map nxD)
  | [], [], _ => .nil
  | [], _ :: _, h => by have := h.1; simp at this
  | _ :: _, [], h => by have := h.1; simp at this
  | v :: us, s :: ns, h => by
    obtain ⟨p, e, q⟩ := h.2 0 s rfl
    have ev : v = .ref p := Option.some.inj e
    subst ev
    refine .cons (.tup q (.cons (.str _) (.cons (.int _) (.cons (.int _) .nil)))) (dp_nx (ns := ns) ⟨by have := h.1; simpa using this, fun i t et => h.2 (i + 1) t et⟩)
theorem nx_shaped : ∀ {ns : List Stp}, (∀ s ∈ ns, s.c ≤ 100) → PyData.canLayAll0 (ns.map nxD) = true ∧ PyData.depthAll (ns.map nxD) ≤ 3
  | [], _ => ⟨rfl, Nat.zero_le _⟩
  | s :: ns, h => by
    obtain ⟨h1, h2⟩ := nx_shaped (ns := ns) fun t ht => h t (List.mem_cons_of_mem _ ht)
    have hc := h s List.mem_cons_self
    constructor
    · show (PyData.canLay0 (nxD s) && PyData.canLayAll0 (ns.map nxD)) = true
      rw [h1, Bool.and_true]
      show ((#[s.c].all (· < 0x110000)) && (true && (true && true))) = true
      simp
      omega
    · show max (PyData.depth (nxD s)) (PyData.depthAll (ns.map nxD)) ≤ 3
      have : PyData.depth (nxD s) ≤ 3 := by
        show max _ (max _ (max _ _)) + 1 ≤ 3
        simp [PyData.depth, PyData.depthAll]
      omega
theorem nx_sh {ns : List Stp} (h : ∀ s ∈ ns, s.c ≤ 100) : SeqAt.shaped (.list (ns.map nxD)) = true := by
  obtain ⟨h1, h2⟩ := nx_shaped h
  show (PyData.canLayAll0 (ns.map nxD) && decide (PyData.depthAll (ns.map nxD) + 1 ≤ 64)) = true
  rw [h1, Bool.true_and]
  exact decide_eq_true (by omega)
theorem nx_eqv (ns : List Stp) : PyData.eqv (.list (ns.map nxD)) (.list []) = ns.isEmpty := by
  cases ns with
  | nil => rfl
  | cons s ns => rfl
/-! ### the reached stands, round by round -/
theorem addN_len {F : List Nat} {n : Nat} : F.length ≤ (addN F n).length := by
  unfold addN
  split
  · exact Nat.le_refl _
  · rw [List.length_append]
    omega
def ClosedS (m : MD) (F : List Nat) : Prop := ∀ s ∈ m.ss, s.b ∈ F → s.e ∈ F
theorem reach_closed {m : MD} {F : List Nat} (h0 : 0 ∈ F) (c : ClosedS m F) : ∀ n, Reach m.ss [0] n → n ∈ F := fun n q => by
  induction q with
  | base q => rw [List.mem_singleton.mp q]; exact h0
  | step hs _ ih => exact c _ hs ih
theorem mem_fromS' {m : MD} {n : Nat} {s : Stp} : s ∈ fromS m n ↔ s ∈ m.ss ∧ s.b = n := by
  unfold fromS
  rw [List.mem_filter]
  simp
/-- what stands found in a round: of F those before, at least those of G and of what they lead to, but no others than the reached ones -/
structure Fd (m : MD) (F : List Nat) : Prop where
  zero : 0 ∈ F
  nd : F.Nodup
  lt : ∀ k ∈ F, k < m.n
  re : ∀ k ∈ F, Reach m.ss [0] k
theorem Fd.add {m : MD} {F : List Nat} (o : m.Ok) (h : Fd m F) {s : Stp} (hs : s ∈ m.ss) (hb : s.b ∈ F) : Fd m (addN F s.e) :=
  ⟨addN_mem.mpr (.inl h.zero), addN_nodup h.nd, fun k hk => by
    rcases addN_mem.mp hk with hk | rfl
    · exact h.lt k hk
    · exact (o.ok s hs).e, fun k hk => by
    rcases addN_mem.mp hk with hk | rfl
    · exact h.re k hk
    · exact .step hs (h.re _ hb)⟩
theorem asc_eq : ∀ {l l' : List Nat}, l.Pairwise (· < ·) → l'.Pairwise (· < ·) → (∀ n, n ∈ l ↔ n ∈ l') → l = l'
  | [], [], _, _, _ => rfl
  | [], a :: _, _, _, h => absurd ((h a).mpr List.mem_cons_self) (by simp)
  | a :: _, [], _, _, h => absurd ((h a).mp List.mem_cons_self) (by simp)
  | a :: l, b :: l', h1, h2, h => by
    have p1 := List.pairwise_cons.mp h1
    have p2 := List.pairwise_cons.mp h2
    have e : a = b := by
      rcases List.mem_cons.mp ((h a).mp List.mem_cons_self) with e | e
      · exact e
      · rcases List.mem_cons.mp ((h b).mpr List.mem_cons_self) with d | d
        · exact d.symm
        · have := p1.1 b d
          have := p2.1 a e
          omega
    subst e
    rw [asc_eq p1.2 p2.2 fun n => ⟨fun q => by
      rcases List.mem_cons.mp ((h n).mp (List.mem_cons_of_mem _ q)) with e | e
      · have := p1.1 n q; omega
      · exact e, fun q => by
      rcases List.mem_cons.mp ((h n).mpr (List.mem_cons_of_mem _ q)) with e | e
      · have := p2.1 n q; omega
      · exact e⟩]
def Grown (l l' : List Nat) : Prop := (∀ k ∈ l, k ∈ l') ∧ (l' = l ∨ l.length < l'.length)
theorem Grown.add {l l' : List Nat} {n : Nat} (g : Grown l l') : Grown l (addN l' n) := by
  refine ⟨fun k hk => addN_mem.mpr (.inl (g.1 k hk)), ?_⟩
  unfold addN
  split
  · exact g.2
  · right
    rw [List.length_append, List.length_singleton]
    rcases g.2 with e | e
    · rw [e]; omega
    · omega
def sp_lreached (K : PySem.W.Frag) : Sp := fun vs H Q _ => ∃ (d : Addr) (m : MD), vs = [.ref d] ∧ DAt K H d m ∧ m.Ok ∧
  ∀ q (l' : List Nat) H', Same H H' → H q = none → H' q = some (.lst (nats l')) → (∀ n, n ∈ l' ↔ Reach m.ss [0] n) → l'.Pairwise (· < ·) → Q (.ref q) H'
def sp_reached (K : PySem.W.Frag) (C : Addr) : Sp := fun vs H Q _ => ∃ (x : Addr) (m : MD), vs = [.ref x] ∧ MAt K C H x m ∧ m.Ok ∧
  ∀ q (l' : List Nat) H', Same H H' → H q = none → H' q = some (.lst (nats l')) → (∀ n, n ∈ l' ↔ Reach m.ss [0] n) → l'.Pairwise (· < ·) → Q (.ref q) H'
/-! ### rows cut short -/
theorem runW_shift (m : MD) (d : Int) : ∀ (w : Wd) (v : Nat) (a : Int) (k : Nat) (t : Int), runW m (v, a) w = some (k, t) → runW m (v, a + d) w = some (k, t + d)
  | [], v, a, k, t, h => by
    cases h
    rfl
  | c :: w, v, a, k, t, h => by
    unfold runW at h ⊢
    dsimp only at h ⊢
    cases e : stepOf m v c with
    | none => rw [e] at h; cases h
    | some x =>
      rw [e] at h
      have q := runW_shift m d w x.e (a + x.g) k t h
      dsimp only
      rw [show a + d + x.g = a + x.g + d by omega]
      exact q
theorem runW_lt {m : MD} (o : m.Ok) : ∀ (w : Wd) (v : Nat) (a : Int) (k : Nat) (t : Int), v < m.n → runW m (v, a) w = some (k, t) → k < m.n
  | [], v, a, k, t, hv, h => by
    cases h
    exact hv
  | c :: w, v, a, k, t, hv, h => by
    unfold runW at h
    dsimp only at h
    cases e : stepOf m v c with
    | none => rw [e] at h; cases h
    | some x =>
      rw [e] at h
      exact runW_lt o w x.e (a + x.g) k t (o.ok x (stepOf_mem e).1).e h
theorem run_cut {m : MD} {w : Wd} {k : Nat} {t : Int} (h : run m w = some (k, t)) (i : Nat) : ∃ v tv, run m (w.take i) = some (v, tv) ∧ runW m (v, tv) (w.drop i) = some (k, t) := by
  have e : run m (w.take i ++ w.drop i) = some (k, t) := by rw [List.take_append_drop]; exact h
  unfold run at e ⊢
  rw [runW_append] at e
  cases q : runW m (0, 0) (w.take i) with
  | none => rw [q] at e; cases e
  | some p =>
    rw [q] at e
    exact ⟨p.1, p.2, rfl, e⟩
theorem run_reach {m : MD} : ∀ (L : Nat) (w : Wd) (k : Nat) (t : Int), w.length = L → run m w = some (k, t) → Reach m.ss [0] k
  | 0, w, k, t, hl, h => by
    have : w = [] := List.eq_nil_of_length_eq_zero hl
    subst this
    cases h
    exact .base (List.mem_singleton.mpr rfl)
  | L + 1, w, k, t, hl, h => by
    rcases List.eq_nil_or_concat w with rfl | ⟨w', c, e⟩
    · cases hl
    · rw [List.concat_eq_append] at e
      subst e
      obtain ⟨u, t', s, h1, h2, rfl, rfl⟩ := run_snoc.mp h
      obtain ⟨hs, hb, _⟩ := stepOf_mem h2
      have ih := run_reach L w' u t' (by simpa using hl) h1
      rw [← hb] at ih
      exact .step hs ih
/-- F rises at least by what a step adds, into the stands of N, that come from N alone -/
def Pot (sg : Int) (m : MD) (N : Nat → Prop) (F : Nat → Int) : Prop := ∀ s ∈ m.ss, Reach m.ss [0] s.b → N s.e → N s.b ∧ F s.b + sg * s.g ≤ F s.e
theorem pot_run {sg : Int} {m : MD} {N : Nat → Prop} {F : Nat → Int} (p : Pot sg m N F) : ∀ (w : Wd) (v : Nat) (a : Int) (k : Nat) (t : Int), Reach m.ss [0] v → runW m (v, a) w = some (k, t) → N k → N v ∧ F v + sg * (t - a) ≤ F k
  | [], v, a, k, t, hv, h, hk => by
    cases h
    refine ⟨hk, ?_⟩
    rw [Int.sub_self, Int.mul_zero]
    omega
  | c :: w, v, a, k, t, hv, h, hk => by
    unfold runW at h
    dsimp only at h
    cases e : stepOf m v c with
    | none => rw [e] at h; cases h
    | some x =>
      rw [e] at h
      obtain ⟨hs, hb, _⟩ := stepOf_mem e
      rw [← hb] at hv
      obtain ⟨h1, h2⟩ := pot_run p w x.e (a + x.g) k t (.step hs hv) h hk
      obtain ⟨h3, h4⟩ := p x hs hv h1
      rw [hb] at h3 h4
      refine ⟨h3, ?_⟩
      have e1 : sg * (t - a) = sg * (t - (a + x.g)) + sg * x.g := by rw [← Int.mul_add]; congr 1; omega
      omega
theorem not_nodup {l : List Nat} {n : Nat} (b : ∀ k ∈ l, k < n) (h : n < l.length) : ∃ i j, ∃ (hi : i < l.length) (hj : j < l.length), i < j ∧ l[i] = l[j] := by
  apply Classical.byContradiction
  intro c
  have nd : l.Nodup := List.pairwise_iff_getElem.mpr fun i j hi hj hij e => c ⟨i, j, hi, hj, hij, e⟩
  have := nodup_small nd b
  omega
theorem cut_row {sg : Int} {m : MD} (o : m.Ok) {N : Nat → Prop} {F : Nat → Int} (p : Pot sg m N F) {w : Wd} {k : Nat} {t : Int} (h : run m w = some (k, t)) (hk : N k) (hl : m.n ≤ w.length) :
    ∃ w' t', w'.length < w.length ∧ run m w' = some (k, t') ∧ sg * t ≤ sg * t' := by
  have st : ∀ i, ∃ v, ∃ tv, run m (w.take i) = some (v, tv) ∧ runW m (v, tv) (w.drop i) = some (k, t) := run_cut h
  let f : Nat → Nat := fun i => (st i).choose
  have hf : ∀ i, ∃ tv, run m (w.take i) = some (f i, tv) ∧ runW m (f i, tv) (w.drop i) = some (k, t) := fun i => (st i).choose_spec
  have n1 := o.n1
  obtain ⟨i, j, hi, hj, hij, e⟩ := not_nodup (l := (List.range (w.length + 1)).map f) (n := m.n) (fun v hv => by
    obtain ⟨i, _, rfl⟩ := List.mem_map.mp hv
    obtain ⟨tv, q, _⟩ := hf i
    exact runW_lt o _ 0 0 _ _ (by omega) q) (by rw [List.length_map, List.length_range]; omega)
  rw [List.length_map, List.length_range] at hi hj
  rw [List.getElem_map, List.getElem_map, List.getElem_range, List.getElem_range] at e
  obtain ⟨ti, a1, a2⟩ := hf i
  obtain ⟨tj, b1, b2⟩ := hf j
  rw [← e] at b1 b2
  have rv := run_reach _ _ _ _ rfl a1
  have hNv := (pot_run p _ _ _ _ _ rv a2 hk).1
  have mid : runW m (f i, ti) ((w.take j).drop i) = some (f i, tj) := by
    have s : run m (w.take i ++ (w.take j).drop i) = some (f i, tj) := by
      have : w.take i = (w.take j).take i := by rw [List.take_take, Nat.min_eq_left (by omega)]
      rw [this, List.take_append_drop]
      exact b1
    unfold run at s a1
    rw [runW_append, a1] at s
    exact s
  have gain := (pot_run p _ _ _ _ _ rv mid hNv).2
  refine ⟨w.take i ++ w.drop j, t + (ti - tj), ?_, ?_, ?_⟩
  · rw [List.length_append, List.length_take, List.length_drop]
    omega
  · unfold run at a1 ⊢
    rw [runW_append, a1]
    have q := runW_shift m (ti - tj) _ _ _ _ _ b2
    rw [show tj + (ti - tj) = ti by omega] at q
    exact q
  · have e1 : sg * (t + (ti - tj)) = sg * t - sg * (tj - ti) := by rw [← Int.mul_sub]; congr 1; omega
    omega
theorem pot_short {sg : Int} {m : MD} (o : m.Ok) {N : Nat → Prop} {F : Nat → Int} (p : Pot sg m N F) {k : Nat} (hk : N k) : ∀ (L : Nat) (w : Wd) (t : Int), w.length ≤ L → run m w = some (k, t) → ∃ w' t', w'.length < m.n ∧ run m w' = some (k, t') ∧ sg * t ≤ sg * t'
  | 0, w, t, hl, h => ⟨w, t, by have := o.n1; omega, h, Int.le_refl _⟩
  | L + 1, w, t, hl, h => by
    by_cases c : w.length < m.n
    · exact ⟨w, t, c, h, Int.le_refl _⟩
    · obtain ⟨w1, t1, h1, h2, h3⟩ := cut_row o p h hk (by omega)
      obtain ⟨w2, t2, q1, q2, q3⟩ := pot_short o p hk L w1 t1 (by omega) h2
      exact ⟨w2, t2, q1, q2, Int.le_trans h3 q3⟩
theorem best_short {sg : Int} {m : MD} (o : m.Ok) (hsg : sg = 1 ∨ sg = -1) {k : Nat} {w : Wd} {t : Int} (hl : w.length < m.n) (h : run m w = some (k, t)) : ∃ y, bst sg m.ss m.n k = some y ∧ sg * t ≤ y.1 := by
  obtain ⟨x, ex, nx⟩ := lvl_best o hsg w.length w k t rfl h
  obtain ⟨y, ey⟩ := bst_has m.n _ _ hl ex
  have h1 := (bst_spec _ _ ey).2 _ _ hl ex
  have h2 := nx.le
  dsimp only at h2
  exact ⟨y, ey, by omega⟩
theorem endl_reach {sg : Int} {m : MD} (o : m.Ok) (hsg : sg = 1 ∨ sg = -1) : ∀ k, Endl sg m k → Reach m.ss [0] k := fun k h => by
  induction h with
  | base h =>
    have q := (mem_impL o _).mp h
    unfold impr at q
    cases ex : lvl sg m.ss m.n _ with
    | none => rw [ex] at q; cases q
    | some x => exact run_reach _ _ _ _ rfl (lvl_run o hsg _ _ _ ex)
  | step hs _ ih => exact .step hs ih
/-- where there is such an F nothing is endless -/
theorem pot_not_endl {sg : Int} {m : MD} (o : m.Ok) (hsg : sg = 1 ∨ sg = -1) {N : Nat → Prop} {F : Nat → Int} (p : Pot sg m N F) : ∀ k, Endl sg m k → ¬ N k := fun k h => by
  induction h with
  | base h =>
    rename_i k
    intro hk
    have q := (mem_impL o k).mp h
    unfold impr at q
    cases ex : lvl sg m.ss m.n k with
    | none => rw [ex] at q; cases q
    | some x =>
      rw [ex] at q
      have hr := lvl_run o hsg _ _ _ ex
      obtain ⟨w', t', h1, h2, h3⟩ := pot_short o p hk x.2.length x.2 _ (Nat.le_refl _) hr
      obtain ⟨y, ey, hy⟩ := best_short o hsg h1 h2
      rw [ey] at q
      have q : y.1 < x.1 := of_decide_eq_true q
      rcases hsg with rfl | rfl <;> omega
  | step hs hb ih => exact fun he => ih (p _ hs (endl_reach o hsg _ hb) he).1
/-! ### the least and greatest tallies of several stands -/
theorem reach_run {m : MD} (o : m.Ok) {k : Nat} (h : Reach m.ss [0] k) : ∃ w t, run m w = some (k, t) := by
  induction h with
  | base h =>
    rw [List.mem_singleton.mp h]
    exact ⟨[], 0, rfl⟩
  | step hs _ ih =>
    obtain ⟨w, t, q⟩ := ih
    exact ⟨_, _, run_snoc.mpr ⟨_, _, _, q, stepOf_self o hs, rfl, rfl⟩⟩
theorem reach_bst {sg : Int} {m : MD} (o : m.Ok) (hsg : sg = 1 ∨ sg = -1) {k : Nat} (h : Reach m.ss [0] k) (ne : ¬ Endl sg m k) : ∃ y, bst sg m.ss m.n k = some y := by
  obtain ⟨w, t, q⟩ := reach_run o h
  obtain ⟨y, e, _⟩ := no_better o hsg w.length w k t rfl q ne
  exact ⟨y, e⟩
/-- what is told of the stands l: none of them may be endless -/
def EdgeOf (sg : Int) (m : MD) (l : List Nat) (r : V) : Prop := (r = .non ∧ ∃ k ∈ l, Endl sg m k) ∨
  ∃ v : Int, r = .int (sg * v) ∧ (∀ k ∈ l, ¬ Endl sg m k) ∧ (∃ k ∈ l, ∃ y, bst sg m.ss m.n k = some y ∧ y.1 = v) ∧ ∀ k ∈ l, ∀ y, bst sg m.ss m.n k = some y → y.1 ≤ v
theorem EdgeOf.uniq {sg : Int} {m : MD} {l : List Nat} {r r' : V} (h : EdgeOf sg m l r) (h' : EdgeOf sg m l r') : r = r' := by
  rcases h with ⟨e, k, hk, q⟩ | ⟨v, e, h1, ⟨k, hk, y, ey, hy⟩, h3⟩
  · rcases h' with ⟨e', _⟩ | ⟨v', e', h1', _⟩
    · rw [e, e']
    · exact absurd q (h1' k hk)
  · rcases h' with ⟨e', k', hk', q'⟩ | ⟨v', e', h1', ⟨k', hk', y', ey', hy'⟩, h3'⟩
    · exact absurd q' (h1 k' hk')
    · have a1 := h3 k' hk' y' ey'
      have a2 := h3' k hk y ey
      have : v = v' := by omega
      rw [e, e', this]
open Classical in
noncomputable def tl0 (sg : Int) (m : MD) (k : Nat) : V := if Endl sg m k then .str "endless" else match bst sg m.ss m.n k with
  | none => .non
  | some y => .int y.1
theorem tl0_flat {sg : Int} {m : MD} (l : List Nat) : (l.map (tl0 sg m)).all flatV = true := by
  rw [List.all_eq_true]
  intro v hv
  obtain ⟨k, _, rfl⟩ := List.mem_map.mp hv
  unfold tl0
  split
  · rfl
  · split <;> rfl
theorem tl0_in {sg : Int} {m : MD} {l : List Nat} (h : ∃ k ∈ l, Endl sg m k) : inV (.str "endless") (l.map (tl0 sg m)) = true := by
  obtain ⟨k, hk, e⟩ := h
  unfold inV
  rw [List.any_eq_true]
  refine ⟨.str "endless", List.mem_map.mpr ⟨k, hk, by unfold tl0; rw [if_pos e]⟩, by decide⟩
theorem tl0_out {sg : Int} {m : MD} {l : List Nat} (h : ¬ ∃ k ∈ l, Endl sg m k) : inV (.str "endless") (l.map (tl0 sg m)) = false := by
  cases q : inV (.str "endless") (l.map (tl0 sg m)) with
  | false => rfl
  | true =>
    exfalso
    unfold inV at q
    rw [List.any_eq_true] at q
    obtain ⟨v, hv, e⟩ := q
    obtain ⟨k, hk, rfl⟩ := List.mem_map.mp hv
    unfold tl0 at e
    rw [if_neg fun z => h ⟨k, hk, z⟩] at e
    split at e <;> cases e
noncomputable def bst1 (sg : Int) (m : MD) (k : Nat) : Int := ((bst sg m.ss m.n k).getD (0, [])).1
theorem reach_lt {m : MD} (o : m.Ok) {k : Nat} (h : Reach m.ss [0] k) : k < m.n := by
  cases h with
  | base h => rw [List.mem_singleton.mp h]; exact o.n1
  | step hs _ => exact (o.ok _ hs).e
/-! ### rows without end that never lead below nought: the mathematics -/
def Abv (m : MD) : Nat → Int → Wd → Prop
  | _, c, [] => 0 ≤ c
  | b, c, a :: w => 0 ≤ c ∧ ∃ s, stepOf m b a = some s ∧ Abv m s.e (c + s.g) w
theorem Abv.nn {m : MD} {b : Nat} {c : Int} {w : Wd} (h : Abv m b c w) : 0 ≤ c := by
  cases w with
  | nil => exact h
  | cons a w => exact h.1
theorem abv_app {m : MD} : ∀ (v w : Wd) (b : Nat) (c : Int), Abv m b c (v ++ w) ↔ ∃ n t, runW m (b, c) v = some (n, t) ∧ Abv m b c v ∧ Abv m n t w
  | [], w, b, c => ⟨fun h => ⟨b, c, rfl, h.nn, h⟩, fun ⟨n, t, e, _, h⟩ => by cases e; exact h⟩
  | a :: v, w, b, c => by
    constructor
    · rintro ⟨h0, s, es, h⟩
      obtain ⟨n, t, e, h1, h2⟩ := (abv_app v w s.e (c + s.g)).mp h
      refine ⟨n, t, ?_, ⟨h0, s, es, h1⟩, h2⟩
      show (match stepOf m b a with | none => none | some x => runW m (x.e, c + x.g) v) = _
      rw [es]
      exact e
    · rintro ⟨n, t, e, ⟨h0, s, es, h1⟩, h2⟩
      refine ⟨h0, s, es, (abv_app v w s.e (c + s.g)).mpr ⟨n, t, ?_, h1, h2⟩⟩
      have e : (match stepOf m b a with | none => none | some x => runW m (x.e, c + x.g) v) = some (n, t) := e
      rw [es] at e
      exact e
theorem Abv.mono {m : MD} : ∀ {w : Wd} {b : Nat} {c c' : Int}, c ≤ c' → Abv m b c w → Abv m b c' w
  | [], _, _, _, h, k => Int.le_trans k h
  | a :: w, b, c, c', h, ⟨k0, s, es, k⟩ => ⟨Int.le_trans k0 h, s, es, k.mono (by omega)⟩
theorem Abv.runs {m : MD} {w : Wd} {b : Nat} {c : Int} (h : Abv m b c w) : ∃ n t, runW m (b, c) w = some (n, t) ∧ 0 ≤ t := by
  have := (abv_app w [] b c).mp (by rw [List.append_nil]; exact h)
  obtain ⟨n, t, e, _, k⟩ := this
  exact ⟨n, t, e, k⟩
theorem runW_at {m : MD} {w : Wd} {b : Nat} {c : Int} {n : Nat} {t : Int} (h : runW m (b, c) w = some (n, t)) (c' : Int) : runW m (b, c') w = some (n, t + (c' - c)) := by
  have q := runW_shift m (c' - c) w b c n t h
  rw [show c + (c' - c) = c' by omega] at q
  exact q
/-- a row and a loop behind it that never lead below nought -/
structure LastW (m : MD) (b : Nat) (c : Int) (u v : Wd) : Prop where
  ne : v ≠ []
  abv : Abv m b c (u ++ v)
  lp : ∃ n t t', runW m (b, c) u = some (n, t) ∧ runW m (n, t) v = some (n, t') ∧ t ≤ t'
def Lasts (m : MD) (b : Nat) (c : Int) : Prop := ∃ u v, LastW m b c u v
theorem LastW.mono {m : MD} {b : Nat} {c c' : Int} {u v : Wd} (h : LastW m b c u v) (q : c ≤ c') : LastW m b c' u v := by
  obtain ⟨n, t, t', e1, e2, le⟩ := h.lp
  refine ⟨h.ne, h.abv.mono q, n, t + (c' - c), t' + (t + (c' - c) - t), runW_at e1 c', runW_at e2 _, by omega⟩
/-- a word too long for its stands to be unlike: two places with one stand -/
theorem abv_twice {m : MD} (o : m.Ok) {b : Nat} (hb : b < m.n) {c : Int} {w : Wd} (h : Abv m b c w) (hl : m.n < w.length) :
    ∃ x y z s t t', w = x ++ y ++ z ∧ y ≠ [] ∧ z ≠ [] ∧ runW m (b, c) x = some (s, t) ∧ runW m (s, t) y = some (s, t') ∧ Abv m b c x ∧ Abv m s t y ∧ Abv m s t' z := by
  have st : ∀ i, ∃ s t, runW m (b, c) (w.take i) = some (s, t) ∧ Abv m b c (w.take i) ∧ Abv m s t (w.drop i) := fun i => (abv_app _ _ _ _).mp (by rw [List.take_append_drop]; exact h)
  let f : Nat → Nat := fun i => (st i).choose
  have hf : ∀ i, ∃ t, runW m (b, c) (w.take i) = some (f i, t) ∧ Abv m b c (w.take i) ∧ Abv m (f i) t (w.drop i) := fun i => (st i).choose_spec
  obtain ⟨i, j, hi, hj, hij, e⟩ := not_nodup (l := (List.range (m.n + 1)).map f) (n := m.n) (fun v hv => by
    obtain ⟨i, _, rfl⟩ := List.mem_map.mp hv
    obtain ⟨t, q, _⟩ := hf i
    exact runW_lt o _ _ _ _ _ hb q) (by rw [List.length_map, List.length_range]; omega)
  rw [List.length_map, List.length_range] at hi hj
  rw [List.getElem_map, List.getElem_map, List.getElem_range, List.getElem_range] at e
  obtain ⟨ti, a1, a2, a3⟩ := hf i
  obtain ⟨tj, b1, b2, b3⟩ := hf j
  rw [← e] at b1 b3
  have e1 : w.take j = w.take i ++ (w.take j).drop i := by
    have : w.take i = (w.take j).take i := by rw [List.take_take, Nat.min_eq_left (by omega)]
    rw [this, List.take_append_drop]
  rw [e1] at b1 b2
  rw [runW_append, a1] at b1
  obtain ⟨n', t', q1, _, q2⟩ := (abv_app _ _ _ _).mp b2
  rw [a1] at q1
  cases q1
  have lv : ((w.take j).drop i).length = j - i := by rw [List.length_drop, List.length_take]; omega
  refine ⟨w.take i, (w.take j).drop i, w.drop j, f i, ti, tj, ?_, fun z => ?_, fun z => ?_, a1, b1, a2, q2, b3⟩
  · rw [← e1, List.take_append_drop]
  · rw [z] at lv; simp at lv; omega
  · have : (w.drop j).length = 0 := by rw [z]; rfl
    rw [List.length_drop] at this
    omega
theorem last_cut {m : MD} (o : m.Ok) {b : Nat} (hb : b < m.n) {c : Int} {u v : Wd} (h : LastW m b c u v) (hl : m.n < (u ++ v).length) : ∃ u' v', LastW m b c u' v' ∧ (u' ++ v').length < (u ++ v).length := by
  obtain ⟨x, y, z, s, t, t', e, ny, nz, rx, ry, ax, ay, az⟩ := abv_twice o hb h.abv hl
  have ly : 0 < y.length := List.length_pos_iff.mpr ny
  have lz : 0 < z.length := List.length_pos_iff.mpr nz
  have le := congrArg List.length e
  rw [List.length_append, List.length_append, List.length_append] at le
  by_cases g : t ≤ t'
  · exact ⟨x, y, ⟨ny, (abv_app _ _ _ _).mpr ⟨s, t, rx, ax, ay⟩, s, t, t', rx, ry, g⟩, by rw [List.length_append, List.length_append]; omega⟩
  obtain ⟨n, p, p', ru, rv, gp⟩ := h.lp
  obtain ⟨n2, p2, ru2, au, av⟩ := (abv_app _ _ _ _).mp h.abv
  rw [ru] at ru2
  cases ru2
  have az' : Abv m s t z := az.mono (by omega)
  rcases List.append_eq_append_iff.mp e with ⟨as, e1, e2⟩ | ⟨bs, e1, e2⟩
  · -- x ++ y = u ++ as, v = as ++ z
    rcases List.append_eq_append_iff.mp e1 with ⟨a2, e3, e4⟩ | ⟨bs, e3, e4⟩
    · -- u = x ++ a2, y = a2 ++ as
      by_cases nb : a2 = []
      · have e5 : x = u := by rw [e3, nb, List.append_nil]
        have e6 : as = y := by rw [e4, nb]; rfl
        subst e5 e6 e2
        rw [rx] at ru
        cases ru
        refine ⟨x, z, ⟨nz, (abv_app _ _ _ _).mpr ⟨s, t, rx, ax, az'⟩, s, t, p' + (t - t'), rx, ?_, by omega⟩, by rw [List.length_append, List.length_append, List.length_append]; omega⟩
        have rv2 := rv
        rw [runW_append, ry] at rv2
        exact runW_at rv2 t
      · subst e3 e4 e2
        have la : 0 < a2.length := List.length_pos_iff.mpr nb
        have ry2 := ry
        rw [runW_append] at ry2
        have rva := rv
        rw [runW_append] at rva
        have rxa := ru
        rw [runW_append, rx] at rxa
        have rxa : runW m (s, t) a2 = some (n, p) := rxa
        rw [rxa] at ry2
        have ras : runW m (n, p) as = some (s, t') := ry2
        rw [ras] at rva
        have rz : runW m (s, t') z = some (n, p') := rva
        obtain ⟨n3, p3, r3, _, aas⟩ := (abv_app _ _ _ _).mp ay
        rw [rxa] at r3
        cases r3
        have rz' := runW_at rz t
        refine ⟨x, z ++ as, ⟨fun q => nz (List.append_eq_nil_iff.mp q).1, ?_, s, t, t + (p' - p), rx, ?_, by omega⟩, ?_⟩
        · refine (abv_app _ _ _ _).mpr ⟨s, t, rx, ax, (abv_app _ _ _ _).mpr ⟨n, _, rz', az', aas.mono (by omega)⟩⟩
        · rw [runW_append, rz']
          show runW m (n, p' + (t - t')) as = _
          rw [runW_at ras]
          congr 2
          omega
        · rw [List.length_append, List.length_append, List.length_append, List.length_append, List.length_append]
          omega
    · -- x = u ++ bs, as = bs ++ y
      subst e3 e4 e2
      rw [runW_append, ru] at rx
      have rb : runW m (n, p) bs = some (s, t) := rx
      obtain ⟨n3, p3, r3, _, ab⟩ := (abv_app _ _ _ _).mp ax
      rw [ru] at r3
      cases r3
      have rz : runW m (s, t') z = some (n, p') := by
        have q := rv
        rw [List.append_assoc, runW_append, rb] at q
        have q : runW m (s, t) (y ++ z) = some (n, p') := q
        rw [runW_append, ry] at q
        exact q
      have rz' := runW_at rz t
      refine ⟨u, bs ++ z, ⟨fun q => nz (List.append_eq_nil_iff.mp q).2, ?_, n, p, p' + (t - t'), ru, ?_, by omega⟩, ?_⟩
      · exact (abv_app _ _ _ _).mpr ⟨n, p, ru, au, (abv_app _ _ _ _).mpr ⟨s, t, rb, ab, az'⟩⟩
      · rw [runW_append, rb]
        exact rz'
      · rw [List.length_append, List.length_append, List.length_append, List.length_append, List.length_append]
        omega
  · -- u = x ++ y ++ bs, z = bs ++ v
    subst e1 e2
    rw [runW_append, runW_append, rx] at ru
    have ru : (Option.bind (runW m (s, t) y) fun q => runW m q bs) = some (n, p) := ru
    rw [ry] at ru
    have rb : runW m (s, t') bs = some (n, p) := ru
    have rb' := runW_at rb t
    refine ⟨x ++ bs, v, ⟨h.ne, ?_, n, _, _, by rw [runW_append, rx]; exact rb', runW_at rv _, by omega⟩, ?_⟩
    · rw [List.append_assoc]
      exact (abv_app _ _ _ _).mpr ⟨s, t, rx, ax, az'⟩
    · rw [List.length_append, List.length_append, List.length_append, List.length_append, List.length_append]
      omega
theorem last_short {m : MD} (o : m.Ok) {b : Nat} (hb : b < m.n) {c : Int} : ∀ (L : Nat) (u v : Wd), (u ++ v).length ≤ L → LastW m b c u v → ∃ u' v', LastW m b c u' v' ∧ (u' ++ v').length ≤ m.n
  | 0, u, v, hl, h => ⟨u, v, h, Nat.le_trans hl (Nat.zero_le _)⟩
  | L + 1, u, v, hl, h => by
    by_cases k : (u ++ v).length ≤ m.n
    · exact ⟨u, v, h, k⟩
    · obtain ⟨u', v', h', l'⟩ := last_cut o hb h (by omega)
      exact last_short o hb L u' v' (by omega) h'
/-- a word that leads somewhere: what it needs, and where it is lowest -/
theorem abv_low {m : MD} : ∀ (w : Wd) (b : Nat), runW m (b, 0) w ≠ none → ∃ c x y s, w = x ++ y ∧ 0 ≤ c ∧ Abv m b c w ∧ runW m (b, c) x = some (s, 0)
  | [], b, _ => ⟨0, [], [], b, rfl, Int.le_refl _, Int.le_refl 0, rfl⟩
  | a :: w, b, h => by
    have h : (match stepOf m b a with | none => none | some x => runW m (x.e, 0 + x.g) w) ≠ none := h
    cases es : stepOf m b a with
    | none => rw [es] at h; exact absurd rfl h
    | some s =>
      rw [es] at h
      have h : runW m (s.e, 0 + s.g) w ≠ none := h
      have h' : runW m (s.e, 0) w ≠ none := fun z => h (by
        cases q : runW m (s.e, 0 + s.g) w with
        | none => rfl
        | some p =>
          have := runW_at (n := p.1) (t := p.2) q 0
          rw [z] at this
          cases this)
      obtain ⟨c, x, y, k, rfl, c0, ab, rx⟩ := abv_low w s.e h'
      by_cases d : 0 ≤ c - s.g
      · refine ⟨c - s.g, a :: x, y, k, rfl, d, ⟨d, s, es, by rw [show c - s.g + s.g = c by omega]; exact ab⟩, ?_⟩
        show (match stepOf m b a with | none => none | some z => runW m (z.e, c - s.g + z.g) x) = _
        rw [es]
        show runW m (s.e, c - s.g + s.g) x = _
        rw [show c - s.g + s.g = c by omega]
        exact rx
      · exact ⟨0, [], a :: (x ++ y), b, rfl, Int.le_refl _, ⟨Int.le_refl _, s, es, ab.mono (by omega)⟩, rfl⟩
/-- a loop that loses nothing has a stand from which it never leads below nought -/
theorem loop_turn {m : MD} {b : Nat} {t t' : Int} {v : Wd} (ne : v ≠ []) (h : runW m (b, t) v = some (b, t')) (le : t ≤ t') :
    ∃ x y s t1 t2, v = x ++ y ∧ y ≠ [] ∧ runW m (b, t) x = some (s, t1) ∧ Abv m s 0 (y ++ x) ∧ runW m (s, 0) (y ++ x) = some (s, t2) := by
  have h0 := runW_at h 0
  obtain ⟨c, x, y, s, rfl, c0, ab, rx⟩ := abv_low v b (by rw [h0]; exact fun z => by cases z)
  obtain ⟨n, p, r1, ax, ay⟩ := (abv_app _ _ _ _).mp ab
  rw [rx] at r1
  cases r1
  have rv := runW_at h c
  rw [runW_append, rx] at rv
  have ry : runW m (s, 0) y = some (b, t' + (c - t)) := rv
  by_cases n : y = []
  · subst n
    have e1 := Option.some.inj ry
    have hs : s = b := (Prod.mk.inj e1).1
    have ht : (0 : Int) = t' + (c - t) := (Prod.mk.inj e1).2
    subst hs
    have c00 : c = 0 := by omega
    rw [c00] at ax rx
    rw [List.append_nil] at ne
    exact ⟨[], x, s, t, 0, by rw [List.append_nil]; rfl, ne, rfl, by rw [List.append_nil]; exact ax, by rw [List.append_nil]; exact rx⟩
  · refine ⟨x, y, s, 0 + (t - c), 0 + (t' + (c - t) - c), rfl, n, runW_at rx t, (abv_app _ _ _ _).mpr ⟨b, _, ry, ay, ax.mono (by omega)⟩, ?_⟩
    rw [runW_append, ry]
    exact runW_at rx _
/-- the best rows from a stand that never lead below nought -/
def lvA (s0 : Nat) (ss : List Stp) : Nat → RF
  | 0 => fun n => if n = s0 then some (0, []) else none
  | i + 1 => fun n => (longer 1 (lvA s0 ss i) ss n).filter fun y => decide (0 ≤ y.1)
theorem filter_some {α : Type} {p : α → Bool} {o : Option α} {y : α} (h : o.filter p = some y) : o = some y ∧ p y = true := by
  cases o with
  | none => cases h
  | some x =>
    have h : (if p x = true then some x else none) = some y := by rw [← h]; rfl
    by_cases c : p x = true
    · rw [if_pos c] at h; cases h; exact ⟨rfl, c⟩
    · rw [if_neg c] at h; cases h
theorem lvA_true {s0 : Nat} {m : MD} (o : m.Ok) : ∀ i n y, lvA s0 m.ss i n = some y → y.2.length = i ∧ Abv m s0 0 y.2 ∧ runW m (s0, 0) y.2 = some (n, y.1)
  | 0, n, y, e => by
    unfold lvA at e
    split at e
    · rename_i q
      cases e
      exact ⟨rfl, Int.le_refl 0, by rw [q]; rfl⟩
    · cases e
  | i + 1, n, y, e => by
    obtain ⟨e, hy⟩ := filter_some (show (longer 1 (lvA s0 m.ss i) m.ss n).filter (fun y => decide (0 ≤ y.1)) = some y from e)
    have hy : 0 ≤ y.1 := of_decide_eq_true hy
    have q := longer_ind (P := fun n y => y.2.length = i + 1 ∧ (0 ≤ y.1 → Abv m s0 0 y.2) ∧ runW m (s0, 0) y.2 = some (n, y.1)) (fun s hs v ev => by
      obtain ⟨h1, h2, h3⟩ := lvA_true o i _ _ ev
      have r : runW m (s0, 0) (v.2 ++ [s.c]) = some (s.e, v.1 + 1 * s.g) := by
        rw [runW_snoc, h3]
        show (stepOf m s.b s.c).map _ = _
        rw [stepOf_self o hs]
        show some (s.e, v.1 + s.g) = _
        rw [Int.one_mul]
      obtain ⟨n', t', e', ht'⟩ := h2.runs
      rw [h3] at e'
      cases e'
      refine ⟨by rw [List.length_append, h1]; rfl, fun hp => (abv_app _ _ _ _).mpr ⟨_, _, h3, h2, ⟨ht', s, stepOf_self o hs, ?_⟩⟩, r⟩
      have hp : 0 ≤ v.1 + 1 * s.g := hp
      show 0 ≤ v.1 + s.g
      omega) n y e
    exact ⟨q.1, q.2.1 hy, q.2.2⟩
theorem lvA_best {s0 : Nat} {m : MD} : ∀ i (w : Wd) n t, w.length = i → Abv m s0 0 w → runW m (s0, 0) w = some (n, t) → ∃ y, lvA s0 m.ss i n = some y ∧ t ≤ y.1 := by
  intro i
  induction i with
  | zero =>
    intro w n t hl _ hr
    have : w = [] := List.eq_nil_of_length_eq_zero hl
    subst this
    cases hr
    exact ⟨(0, []), if_pos rfl, Int.le_refl _⟩
  | succ i ih =>
    intro w n t hl ha hr
    rcases List.eq_nil_or_concat w with rfl | ⟨w', c, e⟩
    · cases hl
    · rw [List.concat_eq_append] at e
      subst e
      have hl' : w'.length = i := by simpa using hl
      obtain ⟨k, p, r1, a1, a2⟩ := (abv_app _ _ _ _).mp ha
      obtain ⟨_, s, es, hp⟩ := a2
      rw [runW_append, r1] at hr
      have hr : (match stepOf m k c with | none => none | some x => runW m (x.e, p + x.g) []) = some (n, t) := hr
      rw [es] at hr
      cases hr
      obtain ⟨hs, hb, hc⟩ := stepOf_mem es
      obtain ⟨v, ev, nv⟩ := ih w' k p hl' a1 r1
      rw [← hb] at ev
      obtain ⟨z, ez, nz⟩ := longer_has (sg := 1) ev m.ss hs fun _ => none
      have zl := nz.le
      dsimp only at zl
      have hp : 0 ≤ p + s.g := hp
      refine ⟨z, ?_, by omega⟩
      show (longer 1 (lvA s0 m.ss i) m.ss s.e).filter _ = some z
      have ez : longer 1 (lvA s0 m.ss i) m.ss s.e = some z := ez
      rw [ez]
      show (if decide (0 ≤ z.1) = true then some z else none) = some z
      rw [if_pos (decide_eq_true (by omega))]
def loopFrom (m : MD) (s0 : Nat) : Nat → Nat → Option Wd
  | 0, _ => none
  | k + 1, i => match lvA s0 m.ss (i + 1) s0 with
    | some y => some y.2
    | none => loopFrom m s0 k (i + 1)
def loopA (m : MD) (s0 : Nat) : Option Wd := loopFrom m s0 m.n 0
theorem loopFrom_true {m : MD} (o : m.Ok) {s0 : Nat} {v : Wd} : ∀ k i, loopFrom m s0 k i = some v → v ≠ [] ∧ v.length ≤ k + i ∧ Abv m s0 0 v ∧ ∃ g, runW m (s0, 0) v = some (s0, g) ∧ 0 ≤ g
  | 0, i, h => by cases h
  | k + 1, i, h => by
    unfold loopFrom at h
    split at h
    · rename_i y e
      cases h
      obtain ⟨h1, h2, h3⟩ := lvA_true o _ _ _ e
      obtain ⟨n, t, e2, ht⟩ := h2.runs
      rw [h3] at e2
      cases e2
      exact ⟨(fun z => by rw [z] at h1; cases h1), by omega, h2, _, h3, ht⟩
    · obtain ⟨a, b, c⟩ := loopFrom_true o k (i + 1) h
      exact ⟨a, by omega, c⟩
theorem loopFrom_none {m : MD} {s0 : Nat} : ∀ k i, loopFrom m s0 k i = none → ∀ j, i ≤ j → j < i + k → lvA s0 m.ss (j + 1) s0 = none
  | 0, i, _, j, h1, h2 => by omega
  | k + 1, i, h, j, h1, h2 => by
    unfold loopFrom at h
    split at h
    · cases h
    · rename_i e
      by_cases c : j = i
      · rw [c]; exact e
      · exact loopFrom_none k (i + 1) h j (by omega) (by omega)
theorem loopA_has {m : MD} {s0 : Nat} {v : Wd} {g : Int} (ne : v ≠ []) (l : v.length ≤ m.n) (a : Abv m s0 0 v) (r : runW m (s0, 0) v = some (s0, g)) : ∃ v', loopA m s0 = some v' := by
  cases e : loopA m s0 with
  | some v' => exact ⟨v', rfl⟩
  | none =>
    obtain ⟨y, ey, _⟩ := lvA_best v.length v s0 g rfl a r
    have l0 := List.length_pos_iff.mpr ne
    have := loopFrom_none m.n 0 e (v.length - 1) (Nat.zero_le _) (by omega)
    rw [show v.length - 1 + 1 = v.length by omega, ey] at this
    cases this
/-- what ways need, their leads and loops, by stand -/
abbrev WV := Int × Wd × Wd
abbrev WF := Nat → Option WV
def mx0 (a : Int) : Int := if a > 0 then a else 0
def WF.put (f : WF) (k : Nat) (x : WV) : WF := fun j => if j = k then some x else f j
def lessW (n : Int) : Option WV → Bool
  | none => true
  | some z => decide (n < z.1)
def backT (f acc : WF) (s : Stp) : WF := match f s.e with
  | none => acc
  | some y => if lessW (mx0 (y.1 - s.g)) (acc s.b) = true then acc.put s.b (mx0 (y.1 - s.g), s.c :: y.2.1, y.2.2) else acc
theorem backT_none {f acc : WF} {s : Stp} (h : f s.e = none) : backT f acc s = acc := by unfold backT; rw [h]
theorem backT_some {f acc : WF} {s : Stp} {y : WV} (h : f s.e = some y) : backT f acc s = if lessW (mx0 (y.1 - s.g)) (acc s.b) = true then acc.put s.b (mx0 (y.1 - s.g), s.c :: y.2.1, y.2.2) else acc := by unfold backT; rw [h]
def back (f : WF) (ss : List Stp) : WF := ss.foldl (backT f) f
def way0 (m : MD) : WF := fun b => if b < m.n then (loopA m b).map fun v => (0, [], v) else none
def ways (m : MD) : Nat → WF
  | 0 => way0 m
  | i + 1 => back (ways m i) m.ss
/-- of acc on the way -/
theorem back_ind {f : WF} {P : Nat → WV → Prop} : ∀ (ss : List Stp) (acc : WF), (∀ n y, acc n = some y → P n y) → (∀ s ∈ ss, ∀ y, f s.e = some y → P s.b (mx0 (y.1 - s.g), s.c :: y.2.1, y.2.2)) → ∀ n y, ss.foldl (backT f) acc n = some y → P n y
  | [], acc, h, _ => h
  | s :: r, acc, h, k => by
    refine back_ind r (backT f acc s) (fun n y e => ?_) fun t ht => k t (List.mem_cons_of_mem _ ht)
    cases ev : f s.e with
    | none => rw [backT_none ev] at e; exact h n y e
    | some v =>
      rw [backT_some ev] at e
      split at e
      · unfold WF.put at e
        split at e
        · rename_i en
          cases e
          rw [en]
          exact k s List.mem_cons_self v ev
        · exact h n y e
      · exact h n y e
theorem backT_le {f acc : WF} {s : Stp} {n : Nat} {y : WV} (h : acc n = some y) : ∃ z, backT f acc s n = some z ∧ z.1 ≤ y.1 := by
  cases ev : f s.e with
  | none => rw [backT_none ev]; exact ⟨y, h, Int.le_refl _⟩
  | some v =>
    rw [backT_some ev]
    split
    · rename_i c
      unfold WF.put
      by_cases d : n = s.b
      · rw [if_pos d]
        rw [← d, h] at c
        have c : mx0 (v.1 - s.g) < y.1 := of_decide_eq_true c
        exact ⟨_, rfl, Int.le_of_lt c⟩
      · rw [if_neg d]
        exact ⟨y, h, Int.le_refl _⟩
    · exact ⟨y, h, Int.le_refl _⟩
theorem back_le {f : WF} : ∀ (ss : List Stp) (acc : WF) {n : Nat} {y : WV}, acc n = some y → ∃ z, ss.foldl (backT f) acc n = some z ∧ z.1 ≤ y.1
  | [], acc, n, y, h => ⟨y, h, Int.le_refl _⟩
  | s :: r, acc, n, y, h => by
    obtain ⟨z, e, l⟩ := backT_le (f := f) (s := s) h
    obtain ⟨z', e', l'⟩ := back_le r _ e
    exact ⟨z', e', Int.le_trans l' l⟩
theorem back_step {f : WF} {s : Stp} {y : WV} (h : f s.e = some y) : ∀ (ss : List Stp) (acc : WF), s ∈ ss → ∃ z, ss.foldl (backT f) acc s.b = some z ∧ z.1 ≤ mx0 (y.1 - s.g)
  | a :: r, acc, hs => by
    rcases List.mem_cons.mp hs with rfl | hs
    · have : ∃ z, backT f acc s s.b = some z ∧ z.1 ≤ mx0 (y.1 - s.g) := by
        unfold backT
        rw [h]
        dsimp only
        by_cases c : lessW (mx0 (y.1 - s.g)) (acc s.b) = true
        · rw [if_pos c]
          unfold WF.put
          rw [if_pos rfl]
          exact ⟨_, rfl, Int.le_refl _⟩
        · rw [if_neg c]
          cases e : acc s.b with
          | none => rw [e] at c; exact absurd rfl c
          | some z =>
            rw [e] at c
            have c : ¬ mx0 (y.1 - s.g) < z.1 := fun w => c (decide_eq_true w)
            exact ⟨z, rfl, by omega⟩
      obtain ⟨z, e, l⟩ := this
      obtain ⟨z', e', l'⟩ := back_le (f := f) r _ e
      exact ⟨z', e', Int.le_trans l' l⟩
    · exact back_step h r _ hs
theorem mx0_le {a c : Int} (h0 : 0 ≤ c) (h : a ≤ c) : mx0 a ≤ c := by
  unfold mx0
  split <;> omega
theorem mx0_ge (a : Int) : 0 ≤ mx0 a ∧ a ≤ mx0 a := by
  unfold mx0
  split <;> omega
structure WayOk (m : MD) (i : Nat) (b : Nat) (y : WV) : Prop where
  last : LastW m b y.1 y.2.1 y.2.2
  lead : y.2.1.length ≤ i
  loop : y.2.2.length ≤ m.n
theorem ways_true {m : MD} (o : m.Ok) : ∀ i b y, ways m i b = some y → WayOk m i b y
  | 0, b, y, h => by
    have h : (if b < m.n then (loopA m b).map fun v => ((0, [], v) : WV) else none) = some y := h
    split at h
    · obtain ⟨v, ev, rfl⟩ := Option.map_eq_some_iff.mp h
      obtain ⟨h1, h2, h3, g, h4, h5⟩ := loopFrom_true o _ _ ev
      exact ⟨⟨h1, h3, b, 0, g, rfl, h4, h5⟩, Nat.le_refl _, by omega⟩
    · cases h
  | i + 1, b, y, h => back_ind (P := WayOk m (i + 1)) m.ss (ways m i) (fun n y e => let q := ways_true o i n y e; ⟨q.last, Nat.le_succ_of_le q.lead, q.loop⟩) (fun s hs y ey => by
      have q := ways_true o i _ _ ey
      obtain ⟨n, t, t', e1, e2, le⟩ := q.last.lp
      have mg := mx0_ge (y.1 - s.g)
      have l2 := q.last.mono (c' := mx0 (y.1 - s.g) + s.g) (by omega)
      obtain ⟨n, t, t', e1, e2, le⟩ := l2.lp
      refine ⟨⟨l2.ne, ⟨mg.1, s, stepOf_self o hs, l2.abv⟩, n, t, t', ?_, e2, le⟩, by show (s.c :: y.2.1).length ≤ _; rw [List.length_cons]; exact Nat.succ_le_succ q.lead, q.loop⟩
      show (match stepOf m s.b s.c with | none => none | some x => runW m (x.e, mx0 (y.1 - s.g) + x.g) y.2.1) = _
      rw [stepOf_self o hs]
      exact e1) b y h
theorem ways_up {m : MD} {b : Nat} {y : WV} : ∀ {i j : Nat}, i ≤ j → ways m i b = some y → ∃ z, ways m j b = some z ∧ z.1 ≤ y.1 := by
  intro i j h e
  obtain ⟨d, rfl⟩ : ∃ d, j = i + d := ⟨j - i, by omega⟩
  clear h
  induction d with
  | zero => exact ⟨y, e, Int.le_refl _⟩
  | succ d ih =>
    obtain ⟨z, ez, l⟩ := ih
    obtain ⟨z', ez', l'⟩ := back_le (f := ways m (i + d)) m.ss (ways m (i + d)) ez
    exact ⟨z', ez', Int.le_trans l' l⟩
theorem ways_lead {m : MD} {k : Nat} {y : WV} (hk : way0 m k = some y) (y0 : y.1 = 0) : ∀ (u : Wd) (b : Nat) (c t : Int), Abv m b c u → runW m (b, c) u = some (k, t) → ∃ z, ways m u.length b = some z ∧ z.1 ≤ c
  | [], b, c, t, h, e => by
    cases e
    exact ⟨y, hk, by rw [y0]; exact h⟩
  | a :: u, b, c, t, ⟨h0, s, es, h⟩, e => by
    have e : (match stepOf m b a with | none => none | some x => runW m (x.e, c + x.g) u) = some (k, t) := e
    rw [es] at e
    obtain ⟨z, ez, l⟩ := ways_lead hk y0 u s.e (c + s.g) t h e
    obtain ⟨hs, hb, _⟩ := stepOf_mem es
    obtain ⟨z', ez', l'⟩ := back_step ez m.ss (ways m u.length) hs
    rw [hb] at ez'
    exact ⟨z', ez', Int.le_trans l' (mx0_le h0 (by omega))⟩
/-- the program's ways are the least -/
theorem ways_least {m : MD} (o : m.Ok) {b : Nat} (hb : b < m.n) {c : Int} (h : Lasts m b c) : ∃ y, ways m m.n b = some y ∧ y.1 ≤ c := by
  obtain ⟨u0, v0, h0⟩ := h
  obtain ⟨u, v, h, l⟩ := last_short o hb _ u0 v0 (Nat.le_refl _) h0
  obtain ⟨n, t, t', e1, e2, le⟩ := h.lp
  obtain ⟨x, y, s, t1, t2, rfl, ny, rx, ab, ry⟩ := loop_turn h.ne e2 le
  rw [List.length_append, List.length_append] at l
  have ly := List.length_pos_iff.mpr ny
  have n0 : n < m.n := runW_lt o _ _ _ _ _ hb e1
  have s0 : s < m.n := runW_lt o _ _ _ _ _ n0 rx
  obtain ⟨v', ev⟩ := loopA_has (m := m) (s0 := s) (v := y ++ x) (fun z => ny (List.append_eq_nil_iff.mp z).1) (by rw [List.length_append]; omega) ab ry
  have w0 : way0 m s = some (0, [], v') := by unfold way0; rw [if_pos s0, ev]; rfl
  have a1 : Abv m b c (u ++ x) := by
    have := h.abv
    rw [← List.append_assoc] at this
    obtain ⟨_, _, _, q, _⟩ := (abv_app _ _ _ _).mp this
    exact q
  have r1 : runW m (b, c) (u ++ x) = some (s, t1) := by rw [runW_append, e1]; exact rx
  obtain ⟨z, ez, lz⟩ := ways_lead w0 rfl (u ++ x) b c t1 a1 r1
  obtain ⟨z', ez', lz'⟩ := ways_up (j := m.n) (by rw [List.length_append]; omega) ez
  exact ⟨z', ez', Int.le_trans lz' lz⟩
theorem ways_iff {m : MD} (o : m.Ok) {b : Nat} (hb : b < m.n) {c : Int} : Lasts m b c ↔ ∃ y, ways m m.n b = some y ∧ y.1 ≤ c :=
  ⟨ways_least o hb, fun ⟨y, ey, l⟩ => ⟨y.2.1, y.2.2, (ways_true o _ _ _ ey).last.mono l⟩⟩
theorem abv_takes {m : MD} : ∀ {w : Wd} {b : Nat} {c : Int}, Abv m b c w ↔ ∀ j, j ≤ w.length → ∃ s t, runW m (b, c) (w.take j) = some (s, t) ∧ 0 ≤ t
  | [], b, c => ⟨fun h j _ => ⟨b, c, by rw [List.take_nil]; rfl, h⟩, fun h => by
    obtain ⟨s, t, e, q⟩ := h 0 (Nat.zero_le _)
    cases e
    exact q⟩
  | a :: w, b, c => by
    constructor
    · rintro ⟨h0, s, es, h⟩ j hj
      cases j with
      | zero => exact ⟨b, c, rfl, h0⟩
      | succ j =>
        obtain ⟨n, t, e, q⟩ := abv_takes.mp h j (by simpa using hj)
        refine ⟨n, t, ?_, q⟩
        show (match stepOf m b a with | none => none | some x => runW m (x.e, c + x.g) (w.take j)) = _
        rw [es]
        exact e
    · intro h
      obtain ⟨_, _, e0, q0⟩ := h 0 (Nat.zero_le _)
      cases e0
      cases es : stepOf m b a with
      | none =>
        obtain ⟨n, t, e, _⟩ := h 1 (by simp)
        have e : (match stepOf m b a with | none => none | some x => runW m (x.e, c + x.g) (w.take 0)) = some (n, t) := e
        rw [es] at e
        cases e
      | some s =>
        refine ⟨q0, s, es, abv_takes.mpr fun j hj => ?_⟩
        obtain ⟨n, t, e, q⟩ := h (j + 1) (by simpa using hj)
        have e : (match stepOf m b a with | none => none | some x => runW m (x.e, c + x.g) (w.take j)) = some (n, t) := e
        rw [es] at e
        exact ⟨n, t, e, q⟩
/-! ### a dict comprehension by its turns -/
theorem dc_by {J : It} {n : Nat} {G : Hp → Prop} {Y : Nat → Hp → V → Hp → Prop} (w : Walk J n G Y) {g : TG} {tt : TT} {tk tv : TE} {vs : List Nat} {σ : L2.St} {H1 : Hp} {D : Addr} {Qd : Hp → Prop} (Pv : Nat → Hp → Prop) (h0 : Pv 0 (upd H1 D (.dK []))) (hG : ∀ i H, i ≤ n → Pv i H → G H)
    (hs : ∀ i x H H', i < n → Pv i H → Y i H x H' → g x (wipe σ vs) H' fun σ2 H2 => wipe σ2 vs = wipe σ vs ∧ tt σ2 H2 fun b H3 => if b = true then tk σ2 H3 fun y H4 => tv σ2 H4 fun z H5 => ∃ kvs k, y = kV k ∧ H5 D = some (.dK kvs) ∧ kvs.length < sizeLine ∧ Pv (i + 1) (upd H5 D (.dK (putK kvs k z))) else Pv (i + 1) H3) (hd : ∀ H, Pv n H → Qd H) :
    ∃ W : Nat → Nat → Hp → Prop, (∃ m, W 0 m (upd H1 D (.dK []))) ∧ ∀ i m H, W i m H → (J.stop i H ∧ Qd H) ∨ (J.go i H ∧ ∃ Nx : Hp → Prop, (∀ H', Nx H' → ∃ m', m' < m ∧ W (i + 1) m' H') ∧ ∀ x H', J.yld i H x H' → g x (wipe σ vs) H' fun σ2 H2 => wipe σ2 vs = wipe σ vs ∧ tt σ2 H2 fun b H3 =>
      if b = true then tk σ2 H3 fun y H4 => tv σ2 H4 fun z H5 => ∃ kvs k, y = kV k ∧ H5 D = some (.dK kvs) ∧ kvs.length < sizeLine ∧ Nx (upd H5 D (.dK (putK kvs k z))) else Nx H3) := by
  refine ⟨fun i m H => m + i = n ∧ Pv i H, ⟨n, by simp, h0⟩, fun i m H ⟨em, hP⟩ => ?_⟩
  have gG := hG i H (by omega) hP
  by_cases c : i < n
  · refine .inr ⟨w.goes i H c gG, Pv (i + 1), fun H' z => ⟨m - 1, by omega, by omega, z⟩, fun x H' y => hs i x H H' c hP (w.yields i H x H' c gG y)⟩
  · have e : i = n := by omega
    subst e
    exact .inl ⟨w.stops H gG, hd H hP⟩
/-! ### lasting and credit are read -/
def loopV : Option Wd → V
  | none => .non
  | some w => .str (sOf w)
theorem valV_has {kvs : List (Key × V)} {n : Nat} {x : V} (h : valV kvs (.inl (n : Int)) = some x) : ∃ (i : Nat) (v : V), kvs[i]? = some ((Sum.inl (n : Int) : Key), v) := by
  have a := valV_any (.inl (n : Int) : Key) kvs
  rw [h] at a
  obtain ⟨kv, hm, hd⟩ := List.any_eq_true.mp (a.trans rfl)
  obtain ⟨j, hj, ej⟩ := List.getElem_of_mem hm
  have hd' : kv.1 = .inl (n : Int) := of_decide_eq_true hd
  refine ⟨j, kv.2, ?_⟩
  rw [List.getElem?_eq_getElem hj, ej, ← hd']
theorem KvOk.key {K : PySem.W.Frag} {H : Hp} {kvs : List (Key × V)} {e : Nat → Option (List V)} (h : KvOk K H kvs e) {k : Key} {v : V} (hk : (k, v) ∈ kvs) : ∃ (n : Nat) (l : List V), k = .inl (n : Int) ∧ e n = some l := by
  obtain ⟨n, rfl⟩ : ∃ n : Nat, k = .inl (n : Int) := h.1 _ hk
  cases q : e n with
  | some l => exact ⟨n, l, rfl, q⟩
  | none =>
    have a := valV_any (.inl (n : Int) : Key) kvs
    rw [(h.2 n).1 q] at a
    have : kvs.any (fun kv => decide (kv.1 = (.inl (n : Int) : Key))) = true := List.any_eq_true.mpr ⟨_, hk, decide_eq_true rfl⟩
    rw [this] at a
    cases a
theorem KvOk.has {K : PySem.W.Frag} {H : Hp} {kvs : List (Key × V)} {e : Nat → Option (List V)} (h : KvOk K H kvs e) {n : Nat} {l : List V} (q : e n = some l) : ∃ (i : Nat) (v : V), kvs[i]? = some ((Sum.inl (n : Int) : Key), v) := by
  obtain ⟨p, z, _⟩ := (h.2 n).2 l q
  exact valV_has z
theorem key_inj {n k : Nat} {v u : V} (h : ((Sum.inl (n : Int) : Key), v) = (.inl (k : Int), u)) : n = k := by
  have := congrArg Prod.fst h
  have : (Sum.inl (n : Int) : Key) = .inl (k : Int) := this
  injection this with this
  omega
theorem loopFrom_no {m : MD} {b k i : Nat} (e : lvA b m.ss (i + 1) b = none) : loopFrom m b (k + 1) i = loopFrom m b k (i + 1) := by
  show (match lvA b m.ss (i + 1) b with | some y => some y.2 | none => loopFrom m b k (i + 1)) = _
  rw [e]
theorem loopFrom_yes {m : MD} {b k i : Nat} {y : Int × Wd} (e : lvA b m.ss (i + 1) b = some y) : loopFrom m b (k + 1) i = some y.2 := by
  show (match lvA b m.ss (i + 1) b with | some y => some y.2 | none => loopFrom m b k (i + 1)) = _
  rw [e]
def sp_above (K : PySem.W.Frag) (C : Addr) : Sp := fun vs H Q _ => ∃ (x : Addr) (b : Nat) (m : MD), vs = [.ref x, .int (b : Nat)] ∧ MAt K C H x m ∧ m.Ok ∧ b < m.n ∧ ∀ H', Same H H' → Q (loopV (loopA m b)) H'
def ent3 (y : WV) : List V := [.int y.1, .str (sOf y.2.1), .str (sOf y.2.2)]
def E3 (f : WF) : Nat → Option (List V) := fun n => (f n).map ent3
theorem E3_put (f : WF) (k : Nat) (x : WV) (n : Nat) : (if n = k then some (ent3 x) else E3 f n) = E3 (f.put k x) n := by
  unfold E3 WF.put
  by_cases c : n = k
  · rw [if_pos c, if_pos c]; rfl
  · rw [if_neg c, if_neg c]
def sp_back (K : PySem.W.Frag) (C : Addr) : Sp := fun vs H Q _ => ∃ (x d : Addr) (m : MD) (i : Nat) (kvs : List (Key × V)), vs = [.ref x, .ref d] ∧ MAt K C H x m ∧ m.Ok ∧ H d = some (.dK kvs) ∧ KvOk K H kvs (E3 (ways m i)) ∧ i < m.n ∧ kvs.length ≤ 8 + 33 * i ∧
  ∀ p kvs' H', Same H H' → H p = none → H' p = some (.dK kvs') → KvOk K H' kvs' (E3 (ways m (i + 1))) → kvs'.length ≤ 8 + 33 * (i + 1) → Q (.ref p) H'
def sp_lways (K : PySem.W.Frag) (C : Addr) : Sp := fun vs H Q _ => ∃ (x : Addr) (m : MD), vs = [.ref x] ∧ MAt K C H x m ∧ m.Ok ∧ ∀ p kvs H', Same H H' → H p = none → H' p = some (.dK kvs) → KvOk K H' kvs (E3 (ways m m.n)) → Q (.ref p) H'
def sp_lasting (K : PySem.W.Frag) (C : Addr) : Sp := fun vs H Q _ => ∃ (x : Addr) (m : MD), vs = [.ref x] ∧ MAt K C H x m ∧ m.Ok ∧ (ways m m.n 0 = none → ∀ H', Same H H' → Q .non H') ∧ ∀ y, ways m m.n 0 = some y → ∀ q H', Same H H' → SqT K H' q (ent3 y) → Q (.ref q) H'
def credV : Option WV → V
  | none => .non
  | some y => .int y.1
def sp_credit (K : PySem.W.Frag) (C : Addr) : Sp := fun vs H Q _ => ∃ (x : Addr) (m : MD), vs = [.ref x] ∧ MAt K C H x m ∧ m.Ok ∧ ∀ H', Same H H' → Q (credV (ways m m.n 0)) H'
section
variable {P : Program} {w : World} {K : PySem.W.Frag} {mg : Str → Option Value} {base : Heap}
theorem ok_loop_above (T : Txt K mg) : FnOk P w K mg base (L2.CX P w) 4 T.a_loop_above T.fd_loop_above ["machine", "stand"] (sp_above K T.c_Machine) := by
  refine T.F_loop_above.okX sc_loop_above (fun vs H Q E h => ?_) (fun cdv A outer s H vs Q E hr h => ?_)
  · obtain ⟨x, b, m, rfl, _⟩ := h
    rfl
  · obtain ⟨x, b, m, rfl, hm, o, hb, k⟩ := h
    obtain ⟨dx, t, u, hx, hp⟩ := id hm
    have n8 := o.n8
    refine ⟨_, (PSs.nox (pss_cons (ps_set (i := 2) sc_loop_above.nd rfl (Or.inl rfl) (pe_disp (pps_cons (pv 1) (pe_tup (pa_cons pe_int (pa_cons pe_str pa_nil))) pps_nil) (by rfl) (by rfl) (fun z => by cases z) (by decide)))
  (pss_cons (ps_for PassesOwn.never rfl (pi_range1 (by rfl) T.z_range (pa_cons (pe_prop (pv 0) T.cl_Machine T.p_stands (ok_Machine_stands T) (hr.mono (by decide)) T.b_Machine_stands .nil passL rfl) pa_nil)) (pg_name (i := 3) sc_loop_above.nd rfl (Or.inl rfl))
  (pss_cons (ps_set (i := 4) sc_loop_above.nd rfl (Or.inr rfl) (pe_call (ok_longer_rows T) (hr.mono (by decide)) (by rfl) T.m_longer_rows T.k_longer_rows T.b_longer_rows .nil passL (pa_cons (pe_prop (pv 0) T.cl_Machine T.p_steps (ok_Machine_steps T) (hr.mono (by decide)) T.b_Machine_steps .nil passL rfl) (pa_cons pe_int (pa_cons (pv 2) pa_nil)))))
  (pss_cons (ps_lock (ps_setDc (i := 2) (own := [("end", 5)]) (g := (gName 5)) rfl sc_loop_above.nd rfl rfl (sw_trueD rfl rfl rfl (by decide +kernel)) (pi_keys (pv 4)) (blkOk_by (own := [("end", 5)]) (N := ["machine", "stand", "rows", "_", "longer", "end"]) (sc := defScope s_loop_above) (by decide +kernel)) (fun _ _ _ _ _ => (pg_name (i := 5) sc_loop_above.nd rfl (Or.inl rfl))) (fun _ _ _ _ _ => (pts_one (pt_cmpR op_ge (pe_ix (show IxR _ (rIxT K) from ix_tup) (pe_dget (hu_of hr) (pv 4) (pv 5) (fun _ _ => rfl)) pe_int (fun _ _ => rfl)) pe_int (nomark _)))) (fun _ _ _ _ _ => (pv 5)) (fun _ _ _ _ _ => (pe_dget (hu_of hr) (pv 4) (pv 5) (fun _ _ => rfl)))))
  (pss_one (ps_if (pt_cmp (pc_din (hu_of hr) (pv 1) (pv 2)) (by rfl))
  (pss_one (ps_ret (pe_ix ix_tup (pe_dget (hu_of hr) (pv 2) (pv 1) (fun _ _ => rfl)) pe_int (fun _ _ => rfl))))
  pss_nil)))))
  (pss_one (ps_ret pe_non))))), ?_⟩
    walk_at "begin"
    walk_at "go"
    intro r hr0
    walk_at "go"
    refine ⟨(by decide : 2 ≤ sizeLine), fun q hq => ?_⟩
    walk_at "go"
    have nrq : r ≠ q := ne_of_none upd_same hq
    have z1 : Same H (upd (upd H r (.dK [])) q (.tup [.int 0, .str ""])) := (Same.new hr0).trans (Same.new hq)
    refine ⟨by rw [upd_ne nrq, upd_same], [(.inl (b : Int), .ref q)], rfl, (by decide : 1 ≤ 15), ?_⟩
    have em : mergeK [] [((.inl (b : Int) : Key), V.ref q)] = [(.inl (b : Int), .ref q)] := rfl
    rw [em]
    have z2 := Same.mut (o := .dK [(.inl (b : Int), .ref q)]) z1 hr0
    have er1 : (upd (upd (upd H r (.dK [])) q (.tup [.int 0, .str ""])) r (.dK [(.inl (b : Int), .ref q)])) r = some (.dK [(.inl (b : Int), .ref q)]) := upd_same
    have eq1 : (upd (upd (upd H r (.dK [])) q (.tup [.int 0, .str ""])) r (.dK [(.inl (b : Int), .ref q)])) q = some (.tup [.int 0, .str ""]) := by rw [upd_ne nrq.symm, upd_same]
    generalize upd (upd (upd H r (.dK [])) q (.tup [.int 0, .str ""])) r (.dK [(.inl (b : Int), .ref q)]) = H1 at z2 er1 eq1 ⊢
    have ok0 : KvOk K H1 [(.inl (b : Int), .ref q)] (E2 (lvA b m.ss 0)) := by
      have := KvOk.put (n := b) (KvOk.nil (K := K) (H := H1)) (l := ent2 (0, [])) (SqT.of eq1)
      refine KvOk.congr this fun n => ?_
      unfold E2 lvA
      by_cases c : n = b
      · rw [if_pos c, if_pos c]; rfl
      · rw [if_neg c, if_neg c]; rfl
    walk_at "go"
    refine ⟨x, dx, _, rfl, z2 _ _ hx, x, dx, _, .int (m.n : Nat), rfl, z2 _ _ hx, rfl, ?_⟩
    walk_at "go"
    refine k_rg (by omega) (by omega) ?_
    refine for_range (lo := 0) (n := m.n) (fun i σ H' => ∃ r kvs a3 a4, Same H H' ∧ H' r = some (.dK kvs) ∧ KvOk K H' kvs (E2 (lvA b m.ss i)) ∧ loopA m b = loopFrom m b (m.n - i) i ∧
      σ = [some (.ref x), some (.int (b : Nat)), some (.ref r), a3, a4, none]) ⟨r, _, _, _, z2, er1, ok0, rfl, rfl⟩ ?_ ?_
    · clear ok0 eq1 er1 z2 z1 hq nrq hr0
      rintro i σ H2 hi ⟨r, kvs, a3, a4, z, er, ok, lf, rfl⟩
      walk_at "go"
      refine ⟨x, dx, _, rfl, z _ _ hx, x, dx, _, .ref t, rfl, z _ _ hx, rfl, ?_⟩
      walk_at "go"
      refine ⟨t, r, 1, m.n, m.ss, lvA b m.ss i, kvs, rfl, .of ((same_tups z).parts hp).1, o.sok, er, ok, .inl rfl, fun n y e => by have := (lvA_true o _ _ _ e).1; omega, fun p kvs' H3 z3 hp0 ep ok3 l300 => ?_⟩
      walk_at "go"
      refine ⟨p, _, ep, trivial, fun od => ?_⟩
      obtain ⟨HL, eHL⟩ : ∃ z, z = upd H3 p (.frz od (.dK kvs')) := ⟨_, rfl⟩
      rw [← eHL]
      have tL : Tups H3 HL := by rw [eHL]; exact Tups.dk ep
      have pL : HL p = some (.frz od (.dK kvs')) := by rw [eHL, upd_same]
      walk_at "go"
      refine ⟨_, rfl, p, od, rfl, .inl ⟨kvs', pL, fun D hD => ?_⟩⟩
      refine dc_by walk_keys (fun i' H' => Same HL H' ∧ ∃ (kv : List (Key × V)) (g : RF), H' D = some (.dK kv) ∧ KvOk K H' kv (E2 g) ∧ kv.length ≤ i' ∧ (∀ n y, g n = some y → longer 1 (lvA b m.ss i) m.ss n = some y ∧ 0 ≤ y.1) ∧
          ∀ (n : Nat) y, longer 1 (lvA b m.ss i) m.ss n = some y → 0 ≤ y.1 → (∃ (j : Nat) (v : V), j < i' ∧ kvs'[j]? = some ((Sum.inl (n : Int) : Key), v)) → g n = some y)
        ⟨Same.new hD, [], fun _ => none, upd_same, KvOk.nil, Nat.le_refl _, (fun n y e => nomatch e), fun n y _ _ ⟨j, v, hj, _⟩ => absurd hj (Nat.not_lt_zero _)⟩ (fun i' H' _ ⟨z, _⟩ => z _ _ pL) ?_ ?_
      · rintro j x5 H5 H6 hj ⟨z6, kv, g, eD, okg, lkv, g1, g2⟩ ⟨rfl, key, v, hk, rfl⟩
        obtain ⟨n, l, rfl, el⟩ := ok3.key (List.mem_of_getElem? hk)
        obtain ⟨y, ey, rfl⟩ := Option.map_eq_some_iff.mp el
        obtain ⟨q, eq, sq⟩ := (ok3.2 n).2 _ el
        have dg : DGet H6 p (.int (n : Nat)) (valV kvs' (.inl (n : Int))) := .inl ⟨kvs', .inl (n : Int), .inr ⟨od, z6 _ _ pL⟩, rfl, rfl⟩
        rw [eq] at dg
        walk_at "go"
        refine ⟨rfl, ?_⟩
        walk_at "go"
        refine ⟨p, _, rfl, dg, ?_⟩
        walk_at "go"
        refine k_ixT ((same_tups z6).sq (tL.sq sq)) (v := .int y.1) rfl ?_
        walk_at "go"
        refine k_ite (fun c => ?_) (fun c => ?_)
        · walk_at "go"
          refine ⟨p, _, rfl, dg, ?_⟩
          refine ⟨kv, .inl (n : Int), rfl, eD, Nat.lt_of_le_of_lt (show kv.length ≤ 300 by omega) (by decide), Same.mut z6 hD, _, g.put n y, upd_same, ?_, by have := length_putK kv (.inl (n : Int)) (V.ref q); omega, fun k z e => ?_, fun k z e hz hj2 => ?_⟩
          · refine ((okg.put (n := n) (l := ent2 y) ((same_tups z6).sq (tL.sq sq))).tups (Tups.dk eD)).congr fun k => ?_
            exact E2_put g n _ k
          · unfold RF.put at e
            split at e
            · rename_i ek
              cases e
              rw [ek]
              exact ⟨ey, c⟩
            · exact g1 k z e
          · unfold RF.put
            by_cases ck : k = n
            · rw [if_pos ck]
              rw [ck, ey] at e
              exact e
            · rw [if_neg ck]
              obtain ⟨j2, v2, h1, h2⟩ := hj2
              refine g2 k z e hz ⟨j2, v2, ?_, h2⟩
              by_cases cj : j2 = j
              · rw [cj, hk] at h2
                exact absurd (key_inj (Option.some.inj h2)).symm ck
              · omega
        · refine ⟨z6, kv, g, eD, okg, by omega, g1, fun k z e hz hj2 => ?_⟩
          obtain ⟨j2, v2, h1, h2⟩ := hj2
          refine g2 k z e hz ⟨j2, v2, ?_, h2⟩
          by_cases cj : j2 = j
          · rw [cj, hk] at h2
            have ek := key_inj (Option.some.inj h2)
            rw [← ek, ey] at e
            cases e
            exact absurd hz c
          · omega
      · rintro H6 ⟨z6, kv, g, eD, okg, lkv, g1, g2⟩
        have nDp : D ≠ p := fun z => by rw [z, pL] at hD; cases hD
        have zz : Same H3 (upd H6 p (.dK kvs')) := by
          rw [eHL] at z6
          exact unlock_same ep z6
        have eg : ∀ n, g n = lvA b m.ss (i + 1) n := fun n => by
          show g n = (longer 1 (lvA b m.ss i) m.ss n).filter fun y => decide (0 ≤ y.1)
          cases e : longer 1 (lvA b m.ss i) m.ss n with
          | none =>
            cases q : g n with
            | none => rfl
            | some y => have := (g1 n y q).1; rw [e] at this; cases this
          | some y =>
            show g n = if decide (0 ≤ y.1) = true then some y else none
            by_cases c : 0 ≤ y.1
            · rw [if_pos (decide_eq_true c)]
              obtain ⟨j, v, hj⟩ := ok3.has (n := n) (l := ent2 y) (by unfold E2; rw [e]; rfl)
              exact g2 n y e c ⟨j, v, (List.getElem?_eq_some_iff.mp hj).1, hj⟩
            · rw [if_neg (fun w => c (of_decide_eq_true w))]
              cases q : g n with
              | none => rfl
              | some z =>
                obtain ⟨e1, e2⟩ := g1 n z q
                rw [e] at e1
                cases e1
                exact absurd e2 c
        have okn : KvOk K (upd H6 p (.dK kvs')) kv (E2 (lvA b m.ss (i + 1))) := (okg.tups ⟨fun a xs e => by rw [upd_ne (fun z => by rw [z, z6 _ _ pL] at e; cases e)]; exact e, fun a od xs e => by rw [upd_ne (fun z => by rw [z, z6 _ _ pL] at e; cases e)]; exact e⟩).congr fun n => by unfold E2; rw [eg n]
        have eD7 : (upd H6 p (.dK kvs')) D = some (.dK kv) := by rw [upd_ne nDp]; exact eD
        refine ⟨z6 _ _ pL, ?_⟩
        have z7 := (z.trans z3).trans zz
        generalize upd H6 p (.dK kvs') = H7 at okn eD7 z7 ⊢
        walk_at "go"
        have dg : DGet H7 D (.int (b : Nat)) (valV kv (.inl (b : Int))) := DGet.k (k := .inl (b : Int)) eD7
        have un : loopA m b = loopFrom m b (m.n - i - 1 + 1) i := by rw [lf]; congr 1; omega
        refine ⟨D, _, rfl, dg, ?_⟩
        walk_at "go"
        cases e : lvA b m.ss (i + 1) b with
        | none =>
          rw [(okn.2 b).1 (by unfold E2; rw [e]; rfl)]
          refine iteF ?_
          walk_at "go"
          refine ⟨D, kv, _, _, z7, eD7, okn, ?_, rfl⟩
          rw [un, loopFrom_no e, show m.n - i - 1 = m.n - (i + 1) by omega]
        | some y =>
          obtain ⟨q, eq, sq⟩ := (okn.2 b).2 (ent2 y) (by unfold E2; rw [e]; rfl)
          rw [eq] at dg ⊢
          refine iteT ?_
          walk_at "go"
          refine ⟨D, _, rfl, dg, ?_⟩
          walk_at "go"
          refine k_ixT sq (v := .str (sOf y.2)) rfl ?_
          have : loopA m b = some y.2 := by
            rw [un, loopFrom_yes e]
          have kk := k H7 z7
          rw [this] at kk
          exact kk
    · rintro σ H2 ⟨r, kvs, a3, a4, z, er, ok, lf, rfl⟩
      walk_at "go"
      have : loopA m b = none := by rw [lf, Nat.sub_self]; rfl
      have kk := k H2 z
      rw [this] at kk
      exact kk
theorem ok_led_back (T : Txt K mg) : FnOk P w K mg base (L2.CX P w) 3 T.a_led_back T.fd_led_back ["machine", "ways"] (sp_back K T.c_Machine) := by
  refine T.F_led_back.okX sc_led_back (fun vs H Q E h => ?_) (fun cdv A outer s H vs Q E hr h => ?_)
  · obtain ⟨x, d, m, i, kvs, rfl, _⟩ := h
    rfl
  · obtain ⟨x, d, m, i, kvs, rfl, hm, o, hd, ok, hi, lk, k⟩ := h
    obtain ⟨dx, t, u, hx, hp⟩ := id hm
    obtain ⟨us, ht, hs⟩ := hp.1
    have len32 := o.len
    have n8 := o.n8
    refine ⟨_, (PSs.nox (pss_cons (ps_lock (ps_setDc (i := 2) (own := [("stand", 10)]) (g := (gName 10)) (tt := tYes) rfl sc_led_back.nd rfl rfl (sw_trueD rfl rfl rfl (by decide +kernel)) (pi_keys (pv 1)) (blkOk_by (own := [("stand", 10)]) (N := ["machine", "ways", "better", "begun", "letter", "end", "gain", "need", "lead", "loop", "stand"]) (sc := defScope s_led_back) (by decide +kernel)) (fun _ _ _ _ _ => (pg_name (i := 10) sc_led_back.nd rfl (Or.inl rfl))) (fun _ _ _ _ _ => pts_nil) (fun _ _ _ _ _ => (pv 10)) (fun _ _ _ _ _ => (pe_dget (hu_of hr) (pv 1) (pv 10) (fun _ _ => rfl)))))
  (pss_cons (ps_for PassesOwn.never rfl (pi_tup (pe_prop (pv 0) T.cl_Machine T.p_steps (ok_Machine_steps T) (hr.mono (by decide)) T.b_Machine_steps .nil passL rfl)) (pg_tup rfl (pgs_cons (pg_name (i := 3) sc_led_back.nd rfl (Or.inl rfl)) (pgs_cons (pg_name (i := 4) sc_led_back.nd rfl (Or.inl rfl)) (pgs_cons (pg_name (i := 5) sc_led_back.nd rfl (Or.inl rfl)) (pgs_cons (pg_name (i := 6) sc_led_back.nd rfl (Or.inl rfl)) pgs_nil)))))
  (pss_one (ps_if (pt_cmp (pc_din (hu_of hr) (pv 5) (pv 1)) (by rfl))
  (pss_cons (ps_asg (pe_dget (hu_of hr) (pv 1) (pv 5) (fun _ _ => rfl)) (pg_tup rfl (pgs_cons (pg_name (i := 7) sc_led_back.nd rfl (Or.inl rfl)) (pgs_cons (pg_name (i := 8) sc_led_back.nd rfl (Or.inl rfl)) (pgs_cons (pg_name (i := 9) sc_led_back.nd rfl (Or.inl rfl)) pgs_nil)))))
  (pss_cons (ps_set (i := 7) sc_led_back.nd rfl (Or.inl rfl) (pe_callB (call_max2 rfl) (by rfl) T.z_max (by decide +kernel) (pa_cons pe_int (pa_cons (pe_op op_sub (pv 7) (pv 6)) pa_nil))))
  (pss_one (ps_if (PW.pt (pw_or (pt_cmp (pc_dnotin (hu_of hr) (pv 3) (pv 2)) (by rfl)) (pw_or1 (pt_cmpR op_lt (pv 7) (pe_ix ix_tup (pe_dget (hu_of hr) (pv 2) (pv 3) (fun _ _ => rfl)) pe_int (fun _ _ => rfl)) (nomark _)))))
  (pss_one (ps_dput (hu_of hr) (pv 2) (pv 3) (pe_tup (pa_cons (pv 7) (pa_cons (pe_op op_add_str (pv 4) (pv 8)) (pa_cons (pv 9) pa_nil)))) rfl))
  pss_nil))))
  pss_nil)))
  (pss_one (ps_ret (pv 2)))))), ?_⟩
    walk_at "begin"
    walk_at "go"
    refine ⟨d, _, hd, trivial, fun od => ?_⟩
    obtain ⟨HL, eHL⟩ : ∃ z, z = upd H d (.frz od (.dK kvs)) := ⟨_, rfl⟩
    rw [← eHL]
    have tL : Tups H HL := by rw [eHL]; exact Tups.dk hd
    have pL : HL d = some (.frz od (.dK kvs)) := by rw [eHL, upd_same]
    walk_at "go"
    refine ⟨_, rfl, d, od, rfl, .inl ⟨kvs, pL, fun D hD => ?_⟩⟩
    refine dc_by walk_keys (fun i' H' => Same HL H' ∧ ∃ (kv : List (Key × V)) (g : WF), H' D = some (.dK kv) ∧ KvOk K H' kv (E3 g) ∧ kv.length ≤ i' ∧ (∀ n y, g n = some y → ways m i n = some y) ∧
        ∀ (n : Nat) y, ways m i n = some y → (∃ (j : Nat) (v : V), j < i' ∧ kvs[j]? = some ((Sum.inl (n : Int) : Key), v)) → g n = some y)
      ⟨Same.new hD, [], fun _ => none, upd_same, KvOk.nil, Nat.le_refl _, (fun n y e => nomatch e), fun n y _ ⟨j, v, hj, _⟩ => absurd hj (Nat.not_lt_zero _)⟩ (fun i' H' _ ⟨z, _⟩ => z _ _ pL) ?_ ?_
    · rintro j x5 H5 H6 hj ⟨z6, kv, g, eD, okg, lkv, g1, g2⟩ ⟨rfl, key, v, hk, rfl⟩
      obtain ⟨n, l, rfl, el⟩ := ok.key (List.mem_of_getElem? hk)
      obtain ⟨y, ey, rfl⟩ := Option.map_eq_some_iff.mp el
      obtain ⟨q, eq, sq⟩ := (ok.2 n).2 _ el
      have dg : DGet H6 d (.int (n : Nat)) (valV kvs (.inl (n : Int))) := .inl ⟨kvs, .inl (n : Int), .inr ⟨od, z6 _ _ pL⟩, rfl, rfl⟩
      rw [eq] at dg
      walk_at "go"
      refine ⟨rfl, ?_⟩
      walk_at "go"
      refine iteT ?_
      walk_at "go"
      refine ⟨d, _, rfl, dg, ?_⟩
      refine ⟨kv, .inl (n : Int), rfl, eD, Nat.lt_of_le_of_lt (show kv.length ≤ 500 by omega) (by decide), Same.mut z6 hD, _, g.put n y, upd_same, ?_, by have := length_putK kv (.inl (n : Int)) (V.ref q); omega, fun k z e => ?_, fun k z e hj2 => ?_⟩
      · refine ((okg.put (n := n) (l := ent3 y) ((same_tups z6).sq (tL.sq sq))).tups (Tups.dk eD)).congr fun k => ?_
        exact E3_put g n _ k
      · unfold WF.put at e
        split at e
        · rename_i ek
          cases e
          rw [ek]
          exact ey
        · exact g1 k z e
      · unfold WF.put
        by_cases ck : k = n
        · rw [if_pos ck]
          rw [ck, ey] at e
          exact e
        · rw [if_neg ck]
          obtain ⟨j2, v2, h1, h2⟩ := hj2
          refine g2 k z e ⟨j2, v2, ?_, h2⟩
          by_cases cj : j2 = j
          · rw [cj, hk] at h2
            exact absurd (key_inj (Option.some.inj h2)).symm ck
          · omega
    rintro H6 ⟨z6, kv, g, eD, okg, lkv, g1, g2⟩
    have nDd : D ≠ d := fun z => by rw [z, pL] at hD; cases hD
    have zz : Same H (upd H6 d (.dK kvs)) := by
      rw [eHL] at z6
      exact unlock_same hd z6
    have eg : ∀ n, g n = ways m i n := fun n => by
      cases e : ways m i n with
      | none =>
        cases q : g n with
        | none => rfl
        | some y => have := g1 n y q; rw [e] at this; cases this
      | some y =>
        obtain ⟨j, v, hj⟩ := ok.has (n := n) (l := ent3 y) (by unfold E3; rw [e]; rfl)
        exact g2 n y e ⟨j, v, (List.getElem?_eq_some_iff.mp hj).1, hj⟩
    have okn : KvOk K (upd H6 d (.dK kvs)) kv (E3 (ways m i)) := (okg.tups ⟨fun a xs e => by rw [upd_ne (fun z => by rw [z, z6 _ _ pL] at e; cases e)]; exact e, fun a od xs e => by rw [upd_ne (fun z => by rw [z, z6 _ _ pL] at e; cases e)]; exact e⟩).congr fun n => by unfold E3; rw [eg n]
    have eD7 : (upd H6 d (.dK kvs)) D = some (.dK kv) := by rw [upd_ne nDd]; exact eD
    have ed7 : (upd H6 d (.dK kvs)) d = some (.dK kvs) := upd_same
    have hD0 : H D = none := by
      rw [eHL, upd_ne nDd] at hD
      exact hD
    refine ⟨z6 _ _ pL, ?_⟩
    generalize upd H6 d (.dK kvs) = H7 at okn eD7 ed7 zz ⊢
    clear okg eD g1 g2 eg z6 hD pL tL eHL
    walk_at "go"
    refine ⟨x, dx, _, rfl, zz _ _ hx, x, dx, _, .ref t, rfl, zz _ _ hx, rfl, ?_⟩
    walk_at "go"
    refine ⟨t, rfl, ⟨us, (same_tups zz).sq ht⟩, for_tup (xs := us) (fun j σ H' => ∃ kv a3 a4 a5 a6 a7 a8 a9, Same H H' ∧ H' D = some (.dK kv) ∧ H' d = some (.dK kvs) ∧ KvOk K H' kvs (E3 (ways m i)) ∧ KvOk K H' kv (E3 ((m.ss.take j).foldl (backT (ways m i)) (ways m i))) ∧ kv.length ≤ 8 + 33 * i + j ∧
      σ = [some (.ref x), some (.ref d), some (.ref D), a3, a4, a5, a6, a7, a8, a9, none])
      ⟨kv, _, _, _, _, _, _, _, zz, eD7, ed7, ok.tups (same_tups zz), okn, by omega, rfl⟩ (fun j σ H' _ ⟨_, _, _, _, _, _, _, _, z, _⟩ => (same_tups z).sq ht) ?_ ?_⟩
    · clear eD7 ed7 okn zz lkv ok
      rintro j y σ H1 hy ⟨kv, a3, a4, a5, a6, a7, a8, a9, z, eD, ed, ok, okk, lkv, rfl⟩
      have il : j < m.ss.length := by rw [← hs.1]; exact (List.getElem?_eq_some_iff.mp hy).1
      have ei : m.ss[j]? = some (m.ss[j]'il) := List.getElem?_eq_getElem il
      obtain ⟨q, eq, hq⟩ := hs.2 j _ ei
      rw [hy] at eq
      cases eq
      have ok1 := o.ok _ (List.getElem_mem il)
      rw [take_fold _ _ ei]
      generalize m.ss[j]'il = st at hq ok1 ⊢
      have acc3 : ∀ n y, (m.ss.take j).foldl (backT (ways m i)) (ways m i) n = some y → ∃ z, ways m (i + 1) n = some z ∧ z.1 ≤ y.1 := fun n y e => by
        have := back_le (f := ways m i) (m.ss.drop j) ((m.ss.take j).foldl (backT (ways m i)) (ways m i)) e
        rw [← List.foldl_append, List.take_append_drop] at this
        exact this
      generalize (m.ss.take j).foldl (backT (ways m i)) (ways m i) = acc at okk acc3 ⊢
      have dg := DGet.k (k := .inl (st.e : Int)) ed
      refine k_gt ((same_tups z).sq hq) rfl ?_
      unfold stpV
      walk_at "go"
      refine ⟨d, _, rfl, dg, ?_⟩
      walk_at "go"
      cases fe : ways m i st.e with
      | none =>
        rw [(ok.2 st.e).1 (by unfold E3; rw [fe]; rfl)]
        refine iteF ?_
        walk_at "go"
        rw [backT_none fe]
        exact ⟨kv, _, _, _, _, _, _, _, z, eD, ed, ok, okk, by omega, rfl⟩
      | some v =>
        obtain ⟨p, ep, sp⟩ := (ok.2 st.e).2 (ent3 v) (by unfold E3; rw [fe]; rfl)
        have wv := ways_true o _ _ _ fe
        rw [ep] at dg ⊢
        refine iteT ?_
        walk_at "go"
        refine ⟨d, _, rfl, dg, ?_⟩
        refine k_gt sp rfl ?_
        unfold ent3
        walk_at "go"
        refine ⟨_, _, rfl, ?_⟩
        rw [show (if v.1 - st.g > 0 then v.1 - st.g else 0) = mx0 (v.1 - st.g) from rfl, backT_some fe]
        generalize mx0 (v.1 - st.g) = nd
        have dgb := DGet.k (k := .inl (st.b : Int)) eD
        have cat : (⟨#[st.c]⟩ : Str).length + (sOf v.2.1).length ≤ sizeLine := by
          rw [sOf_len]
          have := wv.lead
          exact Nat.le_trans (show 1 + v.2.1.length ≤ 1000 by omega) (by decide)
        have put : ∀ (pn : Addr) (H2 : Hp), H2 pn = some (.tup (ent3 (nd, st.c :: v.2.1, v.2.2))) → Same H1 H2 → ∃ H3, DPut H2 D (.int (st.b : Nat)) (.ref pn) H3 ∧ Same H H3 ∧ ∃ kv', H3 D = some (.dK kv') ∧ H3 d = some (.dK kvs) ∧ KvOk K H3 kvs (E3 (ways m i)) ∧ KvOk K H3 kv' (E3 (acc.put st.b (nd, st.c :: v.2.1, v.2.2))) ∧ kv'.length ≤ 8 + 33 * i + (j + 1) := fun pn H2 e2 z2 => by
          refine ⟨_, DPut.k (k := .inl (st.b : Int)) (z2 _ _ eD) (Nat.lt_of_le_of_lt (show kv.length ≤ 500 by omega) (by decide)), Same.mut (z.trans z2) hD0, _, upd_same, by rw [upd_ne nDd.symm]; exact z2 _ _ ed, (ok.tups (same_tups z2)).tups (Tups.dk (z2 _ _ eD)), ?_, by have := length_putK kv (.inl (st.b : Int)) (V.ref pn); omega⟩
          refine (((okk.tups (same_tups z2)).put (n := st.b) (l := ent3 (nd, st.c :: v.2.1, v.2.2)) (SqT.of e2)).tups (Tups.dk (z2 _ _ eD))).congr fun k => ?_
          exact E3_put acc st.b _ k
        walk_at "go"
        refine ⟨D, _, rfl, dgb, ?_⟩
        walk_at "go"
        cases e : acc st.b with
        | none =>
          rw [(okk.2 st.b).1 (by unfold E3; rw [e]; rfl)]
          rw [if_pos (show lessW nd none = true from rfl)]
          refine iteT (iteT ?_)
          walk_at "go"
          refine ⟨_, _, rfl, rfl, cat, ?_⟩
          walk_at "go"
          refine ⟨(by decide : 3 ≤ sizeLine), fun pn hpn => ?_⟩
          obtain ⟨H3, d1, d2, kv', d3, d4, d5, d6, d7⟩ := put pn (upd H1 pn (.tup (ent3 (nd, st.c :: v.2.1, v.2.2)))) upd_same (Same.new hpn)
          have ecat : ((⟨#[st.c]⟩ : Str) ++ sOf v.2.1) = sOf (st.c :: v.2.1) := by
            show Str.mk ([st.c].toArray ++ v.2.1.toArray) = _
            rw [List.append_toArray]
            rfl
          rw [ecat]
          walk_at "go"
          refine ⟨D, H3, rfl, d1, ?_⟩
          exact ⟨kv', _, _, _, _, _, _, _, d2, d3, d4, d5, d6, d7, rfl⟩
        | some y =>
          obtain ⟨p2, ep2, sp2⟩ := (okk.2 st.b).2 (ent3 y) (by unfold E3; rw [e]; rfl)
          rw [ep2] at dgb ⊢
          refine iteF ?_
          walk_at "go"
          refine ⟨D, _, rfl, dgb, ?_⟩
          walk_at "go"
          refine k_ixT sp2 (v := .int y.1) rfl ?_
          walk_at "go"
          have el : lessW nd (some y) = decide (nd < y.1) := rfl
          rw [el]
          refine k_ite (fun c => ?_) (fun c => ?_)
          · rw [if_pos (decide_eq_true c)]
            walk_at "go"
            refine ⟨_, _, rfl, rfl, cat, ?_⟩
            walk_at "go"
            refine ⟨(by decide : 3 ≤ sizeLine), fun pn hpn => ?_⟩
            obtain ⟨H3, d1, d2, kv', d3, d4, d5, d6, d7⟩ := put pn (upd H1 pn (.tup (ent3 (nd, st.c :: v.2.1, v.2.2)))) upd_same (Same.new hpn)
            have ecat : ((⟨#[st.c]⟩ : Str) ++ sOf v.2.1) = sOf (st.c :: v.2.1) := by
              show Str.mk ([st.c].toArray ++ v.2.1.toArray) = _
              rw [List.append_toArray]
              rfl
            rw [ecat]
            walk_at "go"
            refine ⟨D, H3, rfl, d1, ?_⟩
            exact ⟨kv', _, _, _, _, _, _, _, d2, d3, d4, d5, d6, d7, rfl⟩
          · rw [if_neg (fun w => c (of_decide_eq_true w))]
            walk_at "go"
            exact ⟨kv, _, _, _, _, _, _, _, z, eD, ed, ok, okk, by omega, rfl⟩
    · rintro σ H1 ⟨kv, a3, a4, a5, a6, a7, a8, a9, z, eD, ed, ok, okk, lkv, rfl⟩
      walk_at "go"
      rw [hs.1, List.take_length] at okk
      exact k D kv H1 z hD0 eD okk (by rw [hs.1] at lkv; omega)
theorem ok_lasting_ways (T : Txt K mg) : FnOk P w K mg base (L2.CX P w) 5 T.a_lasting_ways T.fd_lasting_ways ["machine"] (sp_lways K T.c_Machine) := by
  refine T.F_lasting_ways.okX sc_lasting_ways (fun vs H Q E h => ?_) (fun cdv A outer s H vs Q E hr h => ?_)
  · obtain ⟨x, m, rfl, _⟩ := h
    rfl
  · obtain ⟨x, m, rfl, hm, o, k⟩ := h
    obtain ⟨dx, t, u, hx, hp⟩ := id hm
    have n8 := o.n8
    refine ⟨_, (PSs.nox (pss_cons (ps_set (i := 1) sc_lasting_ways.nd rfl (Or.inl rfl) pe_dnewK)
  (pss_cons (ps_for PassesOwn.never rfl (pi_range1 (by rfl) T.z_range (pa_cons (pe_prop (pv 0) T.cl_Machine T.p_stands (ok_Machine_stands T) (hr.mono (by decide)) T.b_Machine_stands .nil passL rfl) pa_nil)) (pg_name (i := 2) sc_lasting_ways.nd rfl (Or.inl rfl))
  (pss_cons (ps_set (i := 3) sc_lasting_ways.nd rfl (Or.inl rfl) (pe_call (ok_loop_above T) (hr.mono (by decide)) (by rfl) T.m_loop_above T.k_loop_above T.b_loop_above .nil passL (pa_cons (pv 0) (pa_cons (pv 2) pa_nil))))
  (pss_one (ps_if (pt_cmp (pc_notN (pv 3)))
  (pss_one (ps_dput (hu_of hr) (pv 1) (pv 2) (pe_tup (pa_cons pe_int (pa_cons pe_str (pa_cons (pv 3) pa_nil)))) rfl))
  pss_nil))))
  (pss_cons (ps_for PassesOwn.never rfl (pi_range1 (by rfl) T.z_range (pa_cons (pe_prop (pv 0) T.cl_Machine T.p_stands (ok_Machine_stands T) (hr.mono (by decide)) T.b_Machine_stands .nil passL rfl) pa_nil)) (pg_name (i := 4) sc_lasting_ways.nd rfl (Or.inl rfl))
  (pss_one (ps_set (i := 1) sc_lasting_ways.nd rfl (Or.inl rfl) (pe_call (ok_led_back T) (hr.mono (by decide)) (by rfl) T.m_led_back T.k_led_back T.b_led_back .nil passL (pa_cons (pv 0) (pa_cons (pv 1) pa_nil))))))
  (pss_one (ps_ret (pv 1))))))), ?_⟩
    walk_at "begin"
    walk_at "go"
    intro D hD
    have zD := Same.new (o := .dK []) hD
    walk_at "go"
    refine ⟨x, dx, _, rfl, zD _ _ hx, x, dx, _, .int (m.n : Nat), rfl, zD _ _ hx, rfl, ?_⟩
    walk_at "go"
    refine k_rg (by omega) (by omega) ?_
    refine for_range (lo := 0) (n := m.n) (fun i σ H' => ∃ kvs a2 a3, Same H H' ∧ H' D = some (.dK kvs) ∧ KvOk K H' kvs (E3 fun n => if n < i then way0 m n else none) ∧ kvs.length ≤ i ∧
      σ = [some (.ref x), some (.ref D), a2, a3, none]) ⟨[], _, _, zD, upd_same, KvOk.nil.congr fun n => by unfold E3; dsimp only; rw [if_neg (Nat.not_lt_zero _)]; rfl, Nat.le_refl _, rfl⟩ ?_ ?_
    · rintro i σ H2 hi ⟨kvs, a2, a3, z, eD, ok, lk, rfl⟩
      have hi : i < m.n := by omega
      rw [show (0 : Int) + ((i : Nat) : Int) = ((i : Nat) : Int) by omega]
      walk_at "go"
      refine ⟨x, i, m, rfl, hm.same z, o, hi, fun H3 z3 => ?_⟩
      have w0 : way0 m i = (loopA m i).map fun v => (0, [], v) := by unfold way0; rw [if_pos hi]
      have z4 := z.trans z3
      have eD4 := z3 _ _ eD
      have ok4 := ok.tups (same_tups z3)
      walk_at "go"
      cases e : loopA m i with
      | none =>
        refine k_no (by rfl) ?_
        walk_at "go"
        refine ⟨kvs, _, _, z4, eD4, ok4.congr fun n => ?_, by omega, rfl⟩
        unfold E3
        dsimp only
        by_cases c : n < i
        · rw [if_pos c, if_pos (by omega)]
        · by_cases d : n = i
          · rw [if_neg c, if_pos (by omega), d, w0, e]; rfl
          · rw [if_neg c, if_neg (by omega)]
      | some v =>
        refine k_yes (by rfl) ?_
        walk_at "go"
        refine ⟨(by decide : 3 ≤ sizeLine), fun pn hpn => ?_⟩
        have zp := Same.new (o := .tup (ent3 (0, [], v))) hpn
        walk_at "go"
        refine ⟨D, _, rfl, DPut.k (k := .inl (i : Int)) (zp _ _ eD4) (Nat.lt_of_le_of_lt (show kvs.length ≤ 500 by omega) (by decide)), ?_⟩
        refine ⟨_, _, _, Same.mut (z4.trans zp) hD, upd_same, ?_, by have := length_putK kvs (.inl (i : Int)) (V.ref pn); omega, rfl⟩
        refine (((ok4.tups (same_tups zp)).put (n := i) (l := ent3 (0, [], v)) (SqT.of upd_same)).tups (Tups.dk (zp _ _ eD4))).congr fun n => ?_
        unfold E3
        dsimp only
        by_cases d : n = i
        · rw [if_pos d, if_pos (by omega), d, w0, e]; rfl
        · rw [if_neg d]
          by_cases c : n < i
          · rw [if_pos c, if_pos (by omega)]
          · rw [if_neg c, if_neg (by omega)]
    · rintro σ H2 ⟨kvs, a2, a3, z, eD, ok, lk, rfl⟩
      walk_at "go"
      refine ⟨x, dx, _, rfl, z _ _ hx, x, dx, _, .int (m.n : Nat), rfl, z _ _ hx, rfl, ?_⟩
      walk_at "go"
      refine k_rg (by omega) (by omega) ?_
      refine for_range (lo := 0) (n := m.n) (fun i σ H' => ∃ D kvs a2 a3 a4, Same H H' ∧ H D = none ∧ H' D = some (.dK kvs) ∧ KvOk K H' kvs (E3 (ways m i)) ∧ kvs.length ≤ 8 + 33 * i ∧
        σ = [some (.ref x), some (.ref D), a2, a3, a4]) ⟨D, kvs, _, _, _, z, hD, eD, ok.congr fun n => ?_, by omega, rfl⟩ ?_ ?_
      · unfold E3
        show Option.map ent3 (if n < m.n then way0 m n else none) = (way0 m n).map ent3
        by_cases c : n < m.n
        · rw [if_pos (by omega)]
        · rw [if_neg (by omega)]
          unfold way0
          rw [if_neg c]
      · clear eD ok lk z hD zD kvs D
        rintro i σ H3 hi ⟨D, kvs, a2, a3, a4, z, hD, eD, ok, lk, rfl⟩
        have hi : i < m.n := by omega
        walk_at "go"
        refine ⟨x, D, m, i, kvs, rfl, hm.same z, o, eD, ok, hi, lk, fun p kvs' H4 z4 hp4 ep4 ok4 lk4 => ?_⟩
        walk_at "go"
        exact ⟨p, kvs', _, _, _, z.trans z4, free_of z hp4, ep4, ok4, lk4, rfl⟩
      · rintro σ H3 ⟨D, kvs, a2, a3, a4, z, hD, eD, ok, lk, rfl⟩
        walk_at "go"
        exact k D kvs H3 z hD eD ok
theorem ok_lasting (T : Txt K mg) : FnOk P w K mg base (L2.CX P w) 6 T.a_lasting T.fd_lasting ["machine"] (sp_lasting K T.c_Machine) := by
  refine T.F_lasting.okX sc_lasting (fun vs H Q E h => ?_) (fun cdv A outer s H vs Q E hr h => ?_)
  · obtain ⟨x, m, rfl, _⟩ := h
    rfl
  · obtain ⟨x, m, rfl, hm, o, k0, k1⟩ := h
    obtain ⟨dx, t, u, hx, hp⟩ := id hm
    refine ⟨_, (PSs.nox (pss_cons (ps_expr (pe_call (ok_check_machine T) (hr.mono (by decide)) (by rfl) T.m_check_machine T.k_check_machine T.b_check_machine .nil passL (pa_cons (pv 0) pa_nil)))
  (pss_cons (ps_set (i := 1) sc_lasting.nd rfl (Or.inl rfl) (pe_call (ok_lasting_ways T) (hr.mono (by decide)) (by rfl) T.m_lasting_ways T.k_lasting_ways T.b_lasting_ways .nil passL (pa_cons (pv 0) pa_nil)))
  (pss_one (ps_ret (pe_ifExp (pt_cmp (pc_din (hu_of hr) pe_int (pv 1)) (by rfl)) (pe_dget (hu_of hr) (pv 1) pe_int (fun _ _ => rfl)) pe_non)))))), ?_⟩
    walk_at "begin"
    walk_at "go"
    refine ⟨x, dx, _, rfl, hx, ?_⟩
    walk_at "go"
    refine ⟨x, m, rfl, hm, o, fun p kvs H1 z1 hp1 ep ok => ?_⟩
    have dg := DGet.k (k := .inl (0 : Int)) ep
    walk_at "go"
    refine ⟨p, _, rfl, dg, ?_⟩
    walk_at "go"
    cases e : ways m m.n 0 with
    | none =>
      have e0 : valV kvs (.inl (0 : Int)) = none := (ok.2 0).1 (by unfold E3; rw [e]; rfl)
      rw [e0]
      refine iteF ?_
      walk_at "go"
      exact k0 e H1 z1
    | some y =>
      obtain ⟨q, eq, sq⟩ := (ok.2 0).2 (ent3 y) (by unfold E3; rw [e]; rfl)
      have eq : valV kvs (.inl (0 : Int)) = some (.ref q) := eq
      rw [eq] at dg ⊢
      refine iteT ?_
      walk_at "go"
      refine ⟨p, _, rfl, dg, ?_⟩
      exact k1 y e q H1 z1 sq
theorem ok_credit (T : Txt K mg) : FnOk P w K mg base (L2.CX P w) 7 T.a_credit T.fd_credit ["machine"] (sp_credit K T.c_Machine) := by
  refine T.F_credit.okX sc_credit (fun vs H Q E h => ?_) (fun cdv A outer s H vs Q E hr h => ?_)
  · obtain ⟨x, m, rfl, _⟩ := h
    rfl
  · obtain ⟨x, m, rfl, hm, o, k⟩ := h
    obtain ⟨dx, t, u, hx, hp⟩ := id hm
    refine ⟨_, (PSs.nox (pss_cons (ps_expr (pe_call (ok_check_machine T) (hr.mono (by decide)) (by rfl) T.m_check_machine T.k_check_machine T.b_check_machine .nil passL (pa_cons (pv 0) pa_nil)))
  (pss_cons (ps_set (i := 1) sc_credit.nd rfl (Or.inl rfl) (pe_call (ok_lasting T) (hr.mono (by decide)) (by rfl) T.m_lasting T.k_lasting T.b_lasting .nil passL (pa_cons (pv 0) pa_nil)))
  (pss_one (ps_ret (pe_ifExp (pt_cmp (pc_isN (pv 1))) pe_non (pe_ix ix_tup (pv 1) pe_int (fun _ _ => rfl)))))))), ?_⟩
    walk_at "begin"
    walk_at "go"
    refine ⟨x, dx, _, rfl, hx, ?_⟩
    walk_at "go"
    refine ⟨x, m, rfl, hm, o, fun e H1 z1 => ?_, fun y e q H1 z1 sq => ?_⟩
    · walk_at "go"
      refine k_yes (by rfl) ?_
      walk_at "go"
      have kk := k H1 z1
      rw [e] at kk
      exact kk
    · walk_at "go"
      refine k_no (by rfl) ?_
      walk_at "go"
      refine k_ixT sq (v := .int y.1) rfl ?_
      have kk := k H1 z1
      rw [e] at kk
      exact kk
end
/-! ### what lasting tells -/
def LastV (K : PySem.W.Frag) (H : Hp) (m : MD) (v : V) : Prop := (ways m m.n 0 = none ∧ v = .non) ∨ ∃ y q, ways m m.n 0 = some y ∧ v = .ref q ∧ SqT K H q (ent3 y)
theorem LastV.tups {K : PySem.W.Frag} {H H' : Hp} {m : MD} {v : V} (h : LastV K H m v) (t : Tups H H') : LastV K H' m v := by
  rcases h with h | ⟨y, q, e, e2, s⟩
  · exact .inl h
  · exact .inr ⟨y, q, e, e2, t.sq s⟩
theorem LastV.non {K : PySem.W.Frag} {H : Hp} {m : MD} {v : V} (h : LastV K H m v) : decide (v = .non) = decide (credV (ways m m.n 0) = .non) := by
  rcases h with ⟨e, rfl⟩ | ⟨y, q, e, rfl, _⟩
  · rw [e]; rfl
  · rw [e]; rfl
/-! ### {(a, b): v for ..}: keys that are tuples -/
def tDcT (wi : TI) (g : TG) (tt : TT) (tk tv : TE) (vs : List Nat) : TE := fun σ H Q => wi σ H fun J H1 => ∀ D, H1 D = none → ∃ W : Nat → Nat → Hp → Prop, (∃ m, W 0 m (upd H1 D (.dT []))) ∧ ∀ i m H, W i m H →
  (J.stop i H ∧ Q (.ref D) H) ∨ (J.go i H ∧ ∃ Nx : Hp → Prop, (∀ H', Nx H' → ∃ m', m' < m ∧ W (i + 1) m' H') ∧ ∀ x H', J.yld i H x H' → g x (wipe σ vs) H' fun σ2 H2 => wipe σ2 vs = wipe σ vs ∧ tt σ2 H2 fun b H3 =>
    if b = true then tk σ2 H3 fun y H4 => tv σ2 H4 fun z H5 => ∃ kvs k b, y = .ref b ∧ H5 b = some (.tup (k.map kV)) ∧ H5 D = some (.dT kvs) ∧ kvs.length < sizeLine ∧ Nx (upd H5 D (.dT (putK kvs k z))) else Nx H3)
theorem dictSetT {X : Cx} {pins : List (Addr × Obj)} {σ : L2.St} {H : Hp} {s : Shared} {E : Value → Shared → Prop} {D b : Addr} {kvs : List (List Key × V)} {k : List Key} {v : V} {r : Value} {Q : Unit → Shared → Prop} (hu : X.A.units + 1 < cLine)
    (I : L2.Inv X pins σ H s) (eD : H D = some (.dT kvs)) (eb : H b = some (.tup (k.map kV))) (lz : kvs.length < sizeLine) (rv : RelV v r) (h : ∀ s', L2.Inv X pins σ (upd H D (.dT (putK kvs k v))) s' → Q () s') :
    wpAny (model X.prog X.w) X.A (dictSet D (.ref b) r) Q E s := by
  obtain ⟨z, nsm, xs, rel, dd⟩ := dt_of I.hok eD
  have lx : xs.length ≤ sizeLine := by rw [← Paired.length rel]; exact z
  have ll : (putK kvs k v).length ≤ sizeLine := Nat.le_trans (length_putK kvs k v) lz
  refine wpAny_dictSet_heap (hsz := lx) (Nat.lt_of_succ_lt hu) (key_of I.hok eb) dd fun h' dd' sb => h _ ?_
  obtain ⟨q, es, ep, eq, x2, x3, x4, _, x5⟩ := dd'
  refine d_write I (by rw [eD]; exact True.intro) sb ⟨q, eq⟩ ⟨ll, nsm, _, (rel.put k eb rv).keeps fun c ys ec => ?_, q, es, ep, eq, x2, x3, x4, x5⟩
  rw [upd_ne (ne_of ec eD (fun w => nomatch w))]
  exact ec
section
variable {X : Cx}
theorem dcT_core {pins : List (Addr × Obj)} {s : Shared} {σ : L2.St} {H : Hp} {Q : VK} {kx vx tg it : Expr} {ifs : List Expr} {sc : Scope} {own : List (Str × Nat)} {pos pos' : Pos} {wi : TI} {g : TG} {tt : TT} {tk tv : TE}
    {use : Option (Value → Sem Unit)} {Qf : Value → Shared → Prop} (hu : X.A.units + 1 < cLine) (hc : X.calm = true) (hN : X.N.Nodup) (I : L2.Inv X pins σ H s) (hi : PI X tg it wi) (ok : BlkOk X.N X.env.scope sc own)
    (hg : ∀ (s : Shared) (H : Hp) (C : Addr) (cl : List (Str × Addr)) (fp : List Addr), PG (X.blk s H sc (compEnvC sc cl C X.env) fp) tg g)
    (ht : ∀ (s : Shared) (H : Hp) (C : Addr) (cl : List (Str × Addr)) (fp : List Addr), PTs (X.blk s H sc (compEnvC sc cl C X.env) fp) ifs tt)
    (hk : ∀ (s : Shared) (H : Hp) (C : Addr) (cl : List (Str × Addr)) (fp : List Addr), PE (X.blk s H sc (compEnvC sc cl C X.env) fp) kx tk)
    (hv : ∀ (s : Shared) (H : Hp) (C : Addr) (cl : List (Str × Addr)) (fp : List Addr), PE (X.blk s H sc (compEnvC sc cl C X.env) fp) vx tv)
    (hs : ∀ x, foldedSetIterable it X.env x = pure x) (h : tDcT wi g tt tk tv (own.map (·.2)) σ H Q)
    (post : ∀ D C s' m H', L2.Inv X pins σ H' s' → Q (.ref D) H' → s'.heap.Ns C m → FpOk X pins H' C → compPost (model X.prog X.w) X.A X.xe use Qf (.ref D) C (.ok .next) s') :
    wpAny (model X.prog X.w) X.A (comprehension (.DictComp kx vx [⟨tg, it, ifs, 0⟩] sc pos) sc X.env pos' newDict false (eval it X.env) use) Qf X.xe s := by
  have fr : ∀ y ∈ sc.names, y.2 = .free → ∃ c, X.env.cells.lookup y.1 = some c := by
    intro y hy e
    exact (ok.free y hy e).elim (fun k => I.ok.has _ (.inl k)) (fun k => I.ok.has _ (.inr k))
  refine wpAny_comprehension_free (use := use) rfl hs (closure_ok fr) ok.kind (fun y hy e => by rw [ok.uniq y hy, e]) (thn (hi.run pins s σ H _ I h) ?_)
  intro xv p1 hx
  refine thn hx ?_
  rintro itv p2 ⟨ia, fp, tn, J, G2, rfl, J2, T, st2, f2, q⟩
  refine wpAny_newObj_type (newEnv_comp ?_)
  generalize eD : p2.heap.objs.size = D
  have nD : G2 D = none := J2.hok.fresh (Nat.le_of_eq eD)
  obtain ⟨W, ⟨m0, w0⟩, turn⟩ := q D nD
  generalize ep3 : ({ p2 with heap := p2.heap.push { cls := .type "dict", data := .dict #[] } } : Shared) = p3
  have J3 : L2.Inv X pins σ (upd G2 D (.dT [])) p3 := by
    rw [← ep3]
    refine J2.laid (t' := p2.toks) (fun b o e => Heap.get?_push_of_some _ e) (Nat.le_of_eq eD) ?_
    rw [← eD]
    exact dt_empty p2.heap J2.big
  have hp3 : p3.heap = p2.heap.push { cls := .type "dict", data := .dict #[] } := by rw [← ep3]
  have small : ∀ b ∈ fp, b < p2.heap.objs.size := by
    intro b hb
    obtain ⟨o, e, _⟩ := T.obj _ _ st2 b hb
    exact Heap.lt_size e
  have f3 : ∀ b ∈ fp, FpOk X pins (upd G2 D (.dT [])) b ∧ b < p3.heap.objs.size := by
    intro b hb
    have lt := small b hb
    have up : (upd G2 D (.dT [])) b = none := by
      rw [upd_ne (by rw [← eD]; exact Nat.ne_of_lt lt)]
      exact (f2 b hb).1
    exact ⟨⟨up, (f2 b hb).2⟩, by rw [hp3, Heap.size_push]; exact Nat.lt_succ_of_lt lt⟩
  have st3 : tn 0 p3.heap := T.keep _ _ _ st2 fun b _ o e => by rw [hp3]; exact Heap.get?_push_of_some _ e
  have J4 := block_start J3 ok hN f3
  have pG := hg p3 (upd G2 D (.dT [])) p3.heap.objs.size (cellsFrom (p3.heap.objs.size + 1) sc.names (cloFrom X.env.cells sc.names [])) fp
  have pT := ht p3 (upd G2 D (.dT [])) p3.heap.objs.size (cellsFrom (p3.heap.objs.size + 1) sc.names (cloFrom X.env.cells sc.names [])) fp
  have pK := hk p3 (upd G2 D (.dT [])) p3.heap.objs.size (cellsFrom (p3.heap.objs.size + 1) sc.names (cloFrom X.env.cells sc.names [])) fp
  have pV := hv p3 (upd G2 D (.dT [])) p3.heap.objs.size (cellsFrom (p3.heap.objs.size + 1) sc.names (cloFrom X.env.cells sc.names [])) fp
  show codeAny _ _ (.compStart (.DictComp kx vx [⟨tg, it, ifs, 0⟩] sc pos) 0 (.ref ia) (.ref D) (compEnvC sc (cellsFrom (p3.heap.objs.size + 1) sc.names (cloFrom X.env.cells sc.names [])) p3.heap.objs.size X.env))
    (compPost (model X.prog X.w) X.A X.xe use Qf (.ref D) p3.heap.objs.size) { p3 with heap := pushCells (p3.heap.push { cls := .type "dict", data := .dict #[] }) sc.names }
  have none3 : ∀ b ∈ fp, (upd G2 D (.dT [])) b = none := fun b hb => (f3 b hb).1.1
  generalize ece : compEnvC sc (cellsFrom (p3.heap.objs.size + 1) sc.names (cloFrom X.env.cells sc.names [])) p3.heap.objs.size X.env = ce at J4 pG pT pK pV ⊢
  have locs : ce.locals = p3.heap.objs.size := by subst ece; rfl
  generalize eG3 : upd G2 D (.dT []) = G3 at J3 J4 pG pT pK pV w0 none3 f3
  generalize ep4 : ({ p3 with heap := pushCells (p3.heap.push { cls := .type "dict", data := .dict #[] }) sc.names } : Shared) = p4 at J4 ⊢
  have st4 : tn 0 p4.heap := T.keep _ _ _ st3 fun b _ o e => by rw [← ep4]; exact pushCells_keeps _ _ _ _ (Heap.get?_push_of_some _ e)
  have here : ∀ {σ' : L2.St} {H' : Hp} {s' : Shared}, L2.Inv (X.blk p3 G3 sc ce fp) [] σ' H' s' → (∀ b ∈ fp, H' b = none) → ∀ b ∈ fp, FpOk (X.blk p3 G3 sc ce fp) [] H' b := by
    intro σ' H' s' Z hn b hb
    exact ⟨hn b hb, (Z.ok.exf b hb).1, Z.ok.exfs b hb, .inl hb, fun x c e => (Z.ok.exf b hb).2 x c e, fun p hp => absurd (show p ∈ ([] : List (Addr × Obj)) ++ [] from hp) (by simp)⟩
  have loop : codeAny (model X.prog X.w) X.A (.compLoop (.DictComp kx vx [⟨tg, it, ifs, 0⟩] sc pos) 0 (.ref ia) (.ref D) ce) (compPost (model X.prog X.w) X.A X.xe use Qf (.ref D) p3.heap.objs.size) p4 := by
    refine compLoop_anyD (fun n s' => ∃ i H', L2.Inv (X.blk p3 G3 sc ce fp) [] (wipe σ (own.map (·.2))) H' s' ∧ tn i s'.heap ∧ (∀ b ∈ fp, H' b = none) ∧ W i n H') ?_ m0 ⟨0, G3, J4, st4, none3, w0⟩
    rintro n p5 ⟨i, G5, J5, st5, n5, w5⟩
    rcases turn i n G5 w5 with ⟨stop, qq⟩ | ⟨go, Nx, hNx, step⟩
    · refine thnF (T.done (X.blk p3 G3 sc ce fp) rfl rfl rfl hc i [] p5 _ G5 (fun _ _ => False) J5 (here J5 n5) st5 stop) ?_
      rintro r p6 ⟨rfl, J6⟩
      have J7 : L2.Inv X pins σ G5 p6 := J3.call' (ch := fp) J6.os J6.base J6.hok J6.bare fun b hb => ⟨(f3 b hb).1.2.2.2.1, (f3 b hb).1.2.1, (f3 b hb).1.2.2.2.2.1, (f3 b hb).1.2.2.2.2.2⟩
      have nC : G5 p3.heap.objs.size = none := by
        have z : G5 ce.locals = none := J6.free
        rwa [locs] at z
      obtain ⟨m, hn, _⟩ := J6.loc
      have hn' : p6.heap.Ns ce.locals m := hn
      rw [locs] at hn'
      exact post D p3.heap.objs.size p6 m G5 J7 qq hn' (J3.fpOk (Nat.le_refl _) nC)
    · refine thnF (T.item (X.blk p3 G3 sc ce fp) rfl rfl rfl hc i [] p5 _ G5 (fun _ _ => False) J5 (here J5 n5) st5 go) ?_
      rintro r p6 ⟨u, rfl, h6⟩
      refine thnF h6 ?_
      rintro _ p7 ⟨x, G7, J7, r7, y7, st7, n7⟩
      have K7 := J7.pinned (here J7 n7) (T.obj _ _ st7)
      refine thnF (pG.run _ p7 _ G7 x u _ K7 r7 (step x G7 y7)) ?_
      rintro _ p8 ⟨σ8, G8, J8, hw8, q8⟩
      refine thnF (pT.run _ p8 σ8 G8 _ J8 q8) ?_
      rintro b p9 ⟨G9, J9, q9⟩
      have fin : ∀ {s' : Shared} {H' : Hp}, L2.Inv (X.blk p3 G3 sc ce fp) ([] ++ pinsAt fp p7.heap) σ8 H' s' → Nx H' →
          ∃ m, m < n ∧ ∃ i H', L2.Inv (X.blk p3 G3 sc ce fp) [] (wipe σ (own.map (·.2))) H' s' ∧ tn i s'.heap ∧ (∀ b ∈ fp, H' b = none) ∧ W i m H' := by
        intro s' H' Z nx
        obtain ⟨m', hm, w'⟩ := hNx H' nx
        have pin : ∀ b ∈ fp, ∀ o, p7.heap.get? b = some o → s'.heap.get? b = some o ∧ H' b = none := fun b hb o e =>
          let z := Z.pin (b, o) (List.mem_append_right _ (List.mem_append_right _ (mem_pinsAt hb e)))
          ⟨z.1, z.2.1⟩
        have len : (wipe σ (own.map (·.2))).length = σ8.length := by rw [← hw8, wipe_length]
        have back : L2.Inv (X.blk p3 G3 sc ce fp) [] (wipe σ (own.map (·.2))) H' s' := (Z.unpinned (pins := [])).weak len fun j v e => by
          rw [← hw8] at e
          exact (wipe_some e).1
        exact ⟨m', hm, i + 1, H', back, T.keep _ _ _ st7 fun b hb o e => (pin b hb o e).1, fun b hb => let ⟨o, e, _⟩ := T.obj _ _ st7 b hb; (pin b hb o e).2, w'⟩
      cases b with
      | false =>
        simp only [Bool.false_eq_true, if_false] at q9 ⊢
        exact fin J9 q9
      | true =>
        simp only [if_true] at q9 ⊢
        refine thnF (pK.run _ p9 σ8 G9 _ J9 q9) ?_
        rintro z p10 ⟨yk, G10, J10, r10, q10⟩
        refine thnF (pV.run _ p10 σ8 G10 _ J10 q10) ?_
        rintro z2 p11 ⟨yv, G11, J11, r11, kvs, k, kb, rfl, eb, eD11, lz, nx⟩
        cases (show z = Value.ref kb from r10)
        exact dictSetT (X := X.blk p3 G3 sc ce fp) hu J11 eD11 eb lz r11 fun p12 J12 => fin J12 nx
  exact codeAny_compStart_dict loop (T.self X.A 0 _ _ _ st4 loop)
theorem ps_setDcT {i : Nat} {y : Str} {py : Pos} {kx vx tg it : Expr} {ifs : List Expr} {scope : Scope} {own : List (Str × Nat)} {pos sp : Pos} {wi : TI} {g : TG} {tt : TT} {tk tv : TE} (hu : X.A.units + 1 < cLine) (hc : X.calm = true) (hN : X.N.Nodup)
    (hy : X.N[i]? = some y) (hyl : X.env.scope.names.lookup y = some .local) (hsw : swapsWith (.DictComp kx vx [⟨tg, it, ifs, 0⟩] scope pos) (some (.Name y py)) sp.line X.env = pure true)
    (hi : PI X tg it wi) (ok : BlkOk X.N X.env.scope scope own)
    (hg : ∀ (s : Shared) (H : Hp) (C : Addr) (cl : List (Str × Addr)) (fp : List Addr), PG (X.blk s H scope (compEnvC scope cl C X.env) fp) tg g)
    (ht : ∀ (s : Shared) (H : Hp) (C : Addr) (cl : List (Str × Addr)) (fp : List Addr), PTs (X.blk s H scope (compEnvC scope cl C X.env) fp) ifs tt)
    (hk : ∀ (s : Shared) (H : Hp) (C : Addr) (cl : List (Str × Addr)) (fp : List Addr), PE (X.blk s H scope (compEnvC scope cl C X.env) fp) kx tk)
    (hv : ∀ (s : Shared) (H : Hp) (C : Addr) (cl : List (Str × Addr)) (fp : List Addr), PE (X.blk s H scope (compEnvC scope cl C X.env) fp) vx tv)
    (hs : ∀ x, foldedSetIterable it X.env x = pure x := by intro _; rfl) :
    PS X (.Assign [.Name y py] (.DictComp kx vx [⟨tg, it, ifs, 0⟩] scope pos) sp) (tAsg (tDcT wi g tt tk tv (own.map (·.2))) (gName i)) := by
  constructor
  intro pins s σ H D I h
  rw [exec_Assign_Name_used _ _ _ _ hsw]
  refine wpAny_bind (wpAny_standAt (wpAny_bind ?_))
  show wpAny _ X.A (do let _ ← comprehension (.DictComp kx vx [⟨tg, it, ifs, 0⟩] scope pos) scope X.env (firstIterPos [⟨tg, it, ifs, 0⟩] pos) newDict false (eval it X.env) (some (assign (.Name y py) X.env))) _ _ s
  have h' : tDcT wi g tt tk tv (own.map (·.2)) σ H (fun x H1 => gName i x σ H1 D.nx) := h
  refine wpAny_bind (thn (dcT_core (Qf := fun _ s' => SP X pins D .next s') hu hc hN I hi ok hg ht hk hv hs h' ?_) fun _ s' hq => wpAny_pure (wpAny_pure hq))
  intro L C s' m H' I' q hn f
  show wpAny _ _ (assign (.Name y py) X.env (.ref L)) _ _ _
  refine wpAny_assign_Name (store_ok2 (v := V.ref L) I' hN hy (.inl hyl) rfl ?_ (.inr hyl))
  rintro s2 I2 ⟨a, sb, ha⟩
  obtain ⟨f0, f1, f2, f3, f4, f5⟩ := f
  have ne : C ≠ a := by
    rcases ha with z | z
    · rw [z]; exact f1
    · exact fun e => f4 y a z e.symm
  exact ⟨m, hn.sameBut sb ne, fun h3 sb3 => ⟨_, H', I2.turned (t' := s2.toks) (fun b o hb e => (sb3.2 b hb).trans e) f0 f1 f3 f4 f5, q⟩⟩
theorem pe_dcT {kx vx tg it : Expr} {ifs : List Expr} {scope : Scope} {own : List (Str × Nat)} {pos : Pos} {wi : TI} {g : TG} {tt : TT} {tk tv : TE} (hu : X.A.units + 1 < cLine) (hc : X.calm = true) (hN : X.N.Nodup) (hi : PI X tg it wi) (ok : BlkOk X.N X.env.scope scope own) (hg : ∀ (s : Shared) (H : Hp) (C : Addr) (cl : List (Str × Addr)) (fp : List Addr), PG (X.blk s H scope (compEnvC scope cl C X.env) fp) tg g) (ht : ∀ (s : Shared) (H : Hp) (C : Addr) (cl : List (Str × Addr)) (fp : List Addr), PTs (X.blk s H scope (compEnvC scope cl C X.env) fp) ifs tt) (hk : ∀ (s : Shared) (H : Hp) (C : Addr) (cl : List (Str × Addr)) (fp : List Addr), PE (X.blk s H scope (compEnvC scope cl C X.env) fp) kx tk) (hv : ∀ (s : Shared) (H : Hp) (C : Addr) (cl : List (Str × Addr)) (fp : List Addr), PE (X.blk s H scope (compEnvC scope cl C X.env) fp) vx tv) (hs : ∀ x, foldedSetIterable it X.env x = pure x := by intro _; rfl) :
    PE X (.DictComp kx vx [⟨tg, it, ifs, 0⟩] scope pos) (tDcT wi g tt tk tv (own.map (·.2))) := by
  constructor
  intro pins s σ H Q I h
  rw [arm_eval_DictComp]
  refine dcT_core hu hc hN I hi ok hg ht hk hv hs h ?_
  intro D C s' m H' I' q hn f
  refine ⟨m, hn, fun h3 sb => ?_⟩
  obtain ⟨f0, f1, f2, f3, f4, f5⟩ := f
  exact ⟨.ref D, H', I'.turned (t' := s'.toks) (fun b o hb e => (sb.2 b hb).trans e) f0 f1 f3 f4 f5, rfl, q⟩
/-- over a tuple that stays -/
theorem dcT_tup {K : PySem.W.Frag} {a : Addr} {xs : List V} {g : TG} {tt : TT} {tk tv : TE} {vs : List Nat} {σ : L2.St} {H1 : Hp} {D : Addr} {Qd : Hp → Prop} (Pv : Nat → Hp → Prop) (h0 : Pv 0 (upd H1 D (.dT [])))
    (hl : ∀ i H, i ≤ xs.length → Pv i H → SqT K H a xs)
    (hs : ∀ i x H, xs[i]? = some x → Pv i H → g x (wipe σ vs) H fun σ2 H2 => wipe σ2 vs = wipe σ vs ∧ tt σ2 H2 fun b H3 =>
      if b = true then tk σ2 H3 fun y H4 => tv σ2 H4 fun z H5 => ∃ kvs k b, y = .ref b ∧ H5 b = some (.tup (k.map kV)) ∧ H5 D = some (.dT kvs) ∧ kvs.length < sizeLine ∧ Pv (i + 1) (upd H5 D (.dT (putK kvs k z))) else Pv (i + 1) H3)
    (hd : ∀ H, Pv xs.length H → Qd H) :
    ∃ W : Nat → Nat → Hp → Prop, (∃ m, W 0 m (upd H1 D (.dT []))) ∧ ∀ i m H, W i m H → ((Itt K a).stop i H ∧ Qd H) ∨
      ((Itt K a).go i H ∧ ∃ Nx : Hp → Prop, (∀ H', Nx H' → ∃ m', m' < m ∧ W (i + 1) m' H') ∧ ∀ x H', (Itt K a).yld i H x H' → g x (wipe σ vs) H' fun σ2 H2 => wipe σ2 vs = wipe σ vs ∧ tt σ2 H2 fun b H3 =>
        if b = true then tk σ2 H3 fun y H4 => tv σ2 H4 fun z H5 => ∃ kvs k b, y = .ref b ∧ H5 b = some (.tup (k.map kV)) ∧ H5 D = some (.dT kvs) ∧ kvs.length < sizeLine ∧ Nx (upd H5 D (.dT (putK kvs k z))) else Nx H3) := by
  refine ⟨fun i m H => m + i = xs.length ∧ Pv i H, ⟨xs.length, by simp, h0⟩, fun i m H ⟨em, hP⟩ => ?_⟩
  have sq := hl i H (by omega) hP
  by_cases c : i < xs.length
  · refine .inr ⟨⟨xs, xs[i], sq, List.getElem?_eq_getElem c⟩, Pv (i + 1), fun H' z => ⟨m - 1, by omega, by omega, z⟩, ?_⟩
    rintro x H' ⟨rfl, hx⟩
    exact hs i x _ (hx xs sq) hP
  · have e : i = xs.length := by omega
    exact .inl ⟨⟨xs, sq, by omega⟩, hd H (e ▸ hP)⟩
theorem k_dcT {wi : TI} {g : TG} {tt : TT} {tk tv : TE} {vs : List Nat} {σ : L2.St} {H : Hp} {Q : VK} (h : wi σ H fun J H1 => ∀ D, H1 D = none → ∃ W : Nat → Nat → Hp → Prop, (∃ m, W 0 m (upd H1 D (.dT []))) ∧ ∀ i m H, W i m H →
  (J.stop i H ∧ Q (.ref D) H) ∨ (J.go i H ∧ ∃ Nx : Hp → Prop, (∀ H', Nx H' → ∃ m', m' < m ∧ W (i + 1) m' H') ∧ ∀ x H', J.yld i H x H' → g x (wipe σ vs) H' fun σ2 H2 => wipe σ2 vs = wipe σ vs ∧ tt σ2 H2 fun b H3 =>
    if b = true then tk σ2 H3 fun y H4 => tv σ2 H4 fun z H5 => ∃ kvs k b, y = .ref b ∧ H5 b = some (.tup (k.map kV)) ∧ H5 D = some (.dT kvs) ∧ kvs.length < sizeLine ∧ Nx (upd H5 D (.dT (putK kvs k z))) else Nx H3)) : tDcT wi g tt tk tv vs σ H Q := h
end
/-! ### {(a, b): v for .. in .. for .. in ..}: two clauses, keys that are tuples -/
section
variable {prog : Program} {w : World} {A : Around} {R : Result → Shared → Prop} {s : Shared} {kx vx ta ia tb ib : Expr} {fa fb : List Expr} {sc : Scope} {pos : Pos} {it : Value} {D : Addr} {env : Env}
theorem turnD2_a (kx vx ta ia tb ib : Expr) (fa fb : List Expr) (sc : Scope) (pos : Pos) (it acc : Value) (env : Env) : compTurn (.DictComp kx vx [⟨ta, ia, fa, 0⟩, ⟨tb, ib, fb, 0⟩] sc pos) 0 it acc env = (do
    standAt ia.pos
    match ← pyNext it with
    | none => pure (.done .next)
    | some v =>
      letOwnedTupleGo ta it v
      assign ta env v
      let mut ok := true
      for c in fa do
        if ok then ok ← isTrue c env (eval c env)
      if ok then
        let x ← eval ib env
        standAt ib.pos
        let x ← foldedSetIterable ib env x
        let _ ← runOwn (.compStart (.DictComp kx vx [⟨ta, ia, fa, 0⟩, ⟨tb, ib, fb, 0⟩] sc pos) 1 (← holding [x] (pyIter x)) acc env) env
      again (.compLoop (.DictComp kx vx [⟨ta, ia, fa, 0⟩, ⟨tb, ib, fb, 0⟩] sc pos) 0 it acc env)) := by rfl
theorem turnD2_b (kx vx ta ia tb ib : Expr) (fa fb : List Expr) (sc : Scope) (pos : Pos) (it : Value) (D : Addr) (env : Env) : compTurn (.DictComp kx vx [⟨ta, ia, fa, 0⟩, ⟨tb, ib, fb, 0⟩] sc pos) 1 it (.ref D) env = (do
    standAt ib.pos
    match ← pyNext it with
    | none => pure (.done .next)
    | some v =>
      letOwnedTupleGo tb it v
      assign tb env v
      let mut ok := true
      for c in fb do
        if ok then ok ← isTrue c env (eval c env)
      if ok then
        (do
          let kv ← eval kx env
          let vv ← holding [kv] (eval vx env)
          standAt { kx.pos with endLine := vx.pos.endLine, endCol := vx.pos.endCol }
          holding [kv, vv] (dictSet D kv vv))
      again (.compLoop (.DictComp kx vx [⟨ta, ia, fa, 0⟩, ⟨tb, ib, fb, 0⟩] sc pos) 1 it (.ref D) env)) := by rfl
abbrev NB (prog : Program) (w : World) (A : Around) (env : Env) (R : Result → Shared → Prop) : Value → Shared → Prop := notedBy (model prog w) A env fun e s' => R (.error e) s'
theorem loopD2_a (hs : ∀ x, foldedSetIterable ib env x = pure x) (J : Nat → Shared → Prop)
    (one : ∀ n s, J n s → wpAny (model prog w) A (pyNext it) (fun r s1 => match r with
      | none => R (.ok .next) s1
      | some v => wpAny (model prog w) A (letOwnedTupleGo ta it v) (fun _ s2 => wpAny (model prog w) A (assign ta env v) (fun _ s3 =>
          wpAny (model prog w) A (forIn fa true fun c r => if r = true then do let ok ← isTrue c env (eval c env); pure (ForInStep.yield ok) else pure (ForInStep.yield r)) (fun ok s4 =>
            if ok = true then wpAny (model prog w) A (eval ib env) (fun x s5 => wpAny (model prog w) A (pyIter x) (fun it2 s6 =>
              codeAny (model prog w) A (.compStart (.DictComp kx vx [⟨ta, ia, fa, 0⟩, ⟨tb, ib, fb, 0⟩] sc pos) 1 it2 (.ref D) env) (fun r s' => match r with
                | .ok _ => ∃ m, m < n ∧ J m s'
                | .error _ => False) s6) (NB prog w A env R) s5) (NB prog w A env R) s4
            else ∃ m, m < n ∧ J m s4) (NB prog w A env R) s3) (NB prog w A env R) s2) (NB prog w A env R) s1) (NB prog w A env R) s)
    (n : Nat) (h : J n s) : codeAny (model prog w) A (.compLoop (.DictComp kx vx [⟨ta, ia, fa, 0⟩, ⟨tb, ib, fb, 0⟩] sc pos) 0 it (.ref D) env) R s := by
  refine codeAny_loop rfl J ?_ n h
  intro n s hJ
  show wpAny _ A ((compTurn (.DictComp kx vx [⟨ta, ia, fa, 0⟩, ⟨tb, ib, fb, 0⟩] sc pos) 0 it (.ref D) env).onRaise (fun x => do noteFrame x env; theTreesLotGoes x)) _ _ s
  refine wpAny_noted ?_
  rw [turnD2_a]
  refine wpAny_bind (wpAny_standAt (wpAny_bind (wpAny_mono (one n s hJ) ?_ fun _ _ z => z)))
  intro r s1 h1
  cases r with
  | none => exact wpAny_pure h1
  | some v =>
    refine wpAny_bind (wpAny_mono h1 ?_ fun _ _ z => z)
    intro _ s2 h2
    refine wpAny_bind (wpAny_mono h2 ?_ fun _ _ z => z)
    intro _ s3 h3
    refine wpAny_bind (wpAny_mono h3 ?_ fun _ _ z => z)
    intro ok s4 h4
    cases ok with
    | false => exact wpAny_pure ⟨rfl, h4⟩
    | true =>
      refine wpAny_bind (wpAny_mono h4 ?_ fun _ _ z => z)
      intro x s5 h5
      refine wpAny_bind (wpAny_standAt (wpAny_bind (wpAny_of_eq (hs x) (wpAny_bind (wpAny_holding (wpAny_mono h5 ?_ fun _ _ z => z))))))
      intro it2 s6 h6
      refine wpAny_bind (wpAny_runOwn ?_)
      rw [Around.mark_none]
      refine codeAny_mono h6 ?_
      intro r s' hr
      cases r with
      | error e => exact hr.elim
      | ok f => first | exact wpAny_pure ⟨rfl, hr⟩ | exact wpAny_bind (wpAny_pure (wpAny_pure ⟨rfl, hr⟩))
theorem loopD2_b (J : Nat → Shared → Prop)
    (one : ∀ n s, J n s → wpAny (model prog w) A (pyNext it) (fun r s1 => match r with
      | none => R (.ok .next) s1
      | some v => wpAny (model prog w) A (letOwnedTupleGo tb it v) (fun _ s2 => wpAny (model prog w) A (assign tb env v) (fun _ s3 =>
          wpAny (model prog w) A (forIn fb true fun c r => if r = true then do let ok ← isTrue c env (eval c env); pure (ForInStep.yield ok) else pure (ForInStep.yield r)) (fun ok s4 =>
            if ok = true then wpAny (model prog w) A (eval kx env) (fun kv s5 => wpAny (model prog w) A (eval vx env) (fun vv s6 =>
              wpAny (model prog w) A (dictSet D kv vv) (fun _ s7 => ∃ m, m < n ∧ J m s7) (NB prog w A env R) s6) (NB prog w A env R) s5) (NB prog w A env R) s4
            else ∃ m, m < n ∧ J m s4) (NB prog w A env R) s3) (NB prog w A env R) s2) (NB prog w A env R) s1) (NB prog w A env R) s)
    (n : Nat) (h : J n s) : codeAny (model prog w) A (.compLoop (.DictComp kx vx [⟨ta, ia, fa, 0⟩, ⟨tb, ib, fb, 0⟩] sc pos) 1 it (.ref D) env) R s := by
  refine codeAny_loop rfl J ?_ n h
  intro n s hJ
  show wpAny _ A ((compTurn (.DictComp kx vx [⟨ta, ia, fa, 0⟩, ⟨tb, ib, fb, 0⟩] sc pos) 1 it (.ref D) env).onRaise (fun x => do noteFrame x env; theTreesLotGoes x)) _ _ s
  refine wpAny_noted ?_
  rw [turnD2_b]
  refine wpAny_bind (wpAny_standAt (wpAny_bind (wpAny_mono (one n s hJ) ?_ fun _ _ z => z)))
  intro r s1 h1
  cases r with
  | none => exact wpAny_pure h1
  | some v =>
    refine wpAny_bind (wpAny_mono h1 ?_ fun _ _ z => z)
    intro _ s2 h2
    refine wpAny_bind (wpAny_mono h2 ?_ fun _ _ z => z)
    intro _ s3 h3
    refine wpAny_bind (wpAny_mono h3 ?_ fun _ _ z => z)
    intro ok s4 h4
    cases ok with
    | false => exact wpAny_pure ⟨rfl, h4⟩
    | true =>
      refine wpAny_bind (wpAny_bind (wpAny_mono h4 ?_ fun _ _ z => z))
      intro kv s5 h5
      refine wpAny_bind (wpAny_holding (wpAny_mono h5 ?_ fun _ _ z => z))
      intro vv s6 h6
      refine wpAny_bind (wpAny_standAt (wpAny_holding (wpAny_mono h6 ?_ fun _ _ z => z)))
      intro _ s7 h7
      exact wpAny_pure ⟨rfl, h7⟩
theorem startD2 {acc : Value} (h0 : codeAny (model prog w) A (.compLoop (.DictComp kx vx [⟨ta, ia, fa, 0⟩, ⟨tb, ib, fb, 0⟩] sc pos) 1 it acc env) R s)
    (h1 : wpAny (model prog w) A (pyIter it) (fun it2 s' => codeAny (model prog w) A (.compLoop (.DictComp kx vx [⟨ta, ia, fa, 0⟩, ⟨tb, ib, fb, 0⟩] sc pos) 1 it2 acc env) R s') (NB prog w A env R) s) :
    codeAny (model prog w) A (.compStart (.DictComp kx vx [⟨ta, ia, fa, 0⟩, ⟨tb, ib, fb, 0⟩] sc pos) 1 it acc env) R s := by
  refine codeAny_of_tree ?_
  show wpAny _ A ((compStart (.DictComp kx vx [⟨ta, ia, fa, 0⟩, ⟨tb, ib, fb, 0⟩] sc pos) 1 it acc env).onRaise (fun x => do noteFrame x env; standAt theWindowsPlace)) _ _ s
  refine wpAny_notedAt ?_
  unfold compStart
  show wpAny _ A (ask >>= _) _ _ s
  refine wpAny_bind (wpAny_askSetting (wpAny_ite ?_))
  split
  · first | exact wpAny_bind (wpAny_pure (wpAny_pure ⟨rfl, h0⟩)) | exact wpAny_pure ⟨rfl, h0⟩
  · refine wpAny_bind (wpAny_rule ?_)
    show wpAny _ _ (standAt ib.pos >>= _) _ _ s
    refine wpAny_bind (wpAny_standAt (wpAny_bind (wpAny_mono h1 ?_ fun _ _ z => z)))
    intro it2 s' z
    exact wpAny_pure ⟨rfl, z⟩
end
/-- behind the first clause's store and tests the second one's own loop, from which Nx is reached -/
def tDc2T (wi : TI) (g : TG) (tt : TT) (wi1 : TI) (g1 : TG) (tt1 : TT) (tk tv : TE) (vs vs1 : List Nat) : TE := fun σ H Q => wi σ H fun J H1 => ∀ D, H1 D = none → ∃ W : Nat → Nat → Hp → Prop, (∃ m, W 0 m (upd H1 D (.dT []))) ∧ ∀ i m H, W i m H →
  (J.stop i H ∧ Q (.ref D) H) ∨ (J.go i H ∧ ∃ Nx : Hp → Prop, (∀ H', Nx H' → ∃ m', m' < m ∧ W (i + 1) m' H') ∧ ∀ x H', J.yld i H x H' → g x (wipe σ vs) H' fun σ2 H2 => wipe σ2 vs = wipe σ vs ∧ tt σ2 H2 fun b H3 =>
    if b = true then wi1 σ2 H3 fun J1 H4 => ∃ W1 : Nat → Nat → Hp → Prop, (∃ m, W1 0 m H4) ∧ ∀ j k H, W1 j k H →
      (J1.stop j H ∧ Nx H) ∨ (J1.go j H ∧ ∃ Nx1 : Hp → Prop, (∀ H', Nx1 H' → ∃ k', k' < k ∧ W1 (j + 1) k' H') ∧ ∀ x H', J1.yld j H x H' → g1 x (wipe σ2 vs1) H' fun σ3 H5 => wipe σ3 vs1 = wipe σ2 vs1 ∧ tt1 σ3 H5 fun b H6 =>
        if b = true then tk σ3 H6 fun y H7 => tv σ3 H7 fun z H8 => ∃ kvs k b, y = .ref b ∧ H8 b = some (.tup (k.map kV)) ∧ H8 D = some (.dT kvs) ∧ kvs.length < sizeLine ∧ Nx1 (upd H8 D (.dT (putK kvs k z))) else Nx1 H6)
    else Nx H3)
section
variable {X : Cx}
theorem dc2T_core {pins : List (Addr × Obj)} {s : Shared} {σ : L2.St} {H : Hp} {Q : VK} {kx vx tg it tg1 it1 : Expr} {ifs ifs1 : List Expr} {sc : Scope} {own : List (Str × Nat)} {pos pos' : Pos} {wi wi1 : TI} {g g1 : TG} {tt tt1 : TT} {vs1 : List Nat} {tk tv : TE}
    {use : Option (Value → Sem Unit)} {Qf : Value → Shared → Prop} (hu : X.A.units + 1 < cLine) (hc : X.calm = true) (hN : X.N.Nodup) (I : L2.Inv X pins σ H s) (hi : PI X tg it wi) (ok : BlkOk X.N X.env.scope sc own)
    (hg : ∀ (s : Shared) (H : Hp) (C : Addr) (cl : List (Str × Addr)) (fp : List Addr), PG (X.blk s H sc (compEnvC sc cl C X.env) fp) tg g)
    (ht : ∀ (s : Shared) (H : Hp) (C : Addr) (cl : List (Str × Addr)) (fp : List Addr), PTs (X.blk s H sc (compEnvC sc cl C X.env) fp) ifs tt)
    (hk : ∀ (s : Shared) (H : Hp) (C : Addr) (cl : List (Str × Addr)) (fp : List Addr), PE (X.blk s H sc (compEnvC sc cl C X.env) fp) kx tk)
    (hv : ∀ (s : Shared) (H : Hp) (C : Addr) (cl : List (Str × Addr)) (fp : List Addr), PE (X.blk s H sc (compEnvC sc cl C X.env) fp) vx tv)
    (hi1 : ∀ (s : Shared) (H : Hp) (C : Addr) (cl : List (Str × Addr)) (fp : List Addr), PI (X.blk s H sc (compEnvC sc cl C X.env) fp) tg1 it1 wi1)
    (hg1 : ∀ (s : Shared) (H : Hp) (C : Addr) (cl : List (Str × Addr)) (fp : List Addr), PG (X.blk s H sc (compEnvC sc cl C X.env) fp) tg1 g1)
    (ht1 : ∀ (s : Shared) (H : Hp) (C : Addr) (cl : List (Str × Addr)) (fp : List Addr), PTs (X.blk s H sc (compEnvC sc cl C X.env) fp) ifs1 tt1)
    (hv1 : ∀ i ∈ vs1, i ∈ own.map (·.2)) (hs1 : ∀ env x, foldedSetIterable it1 env x = pure x)
    (hs : ∀ x, foldedSetIterable it X.env x = pure x) (h : tDc2T wi g tt wi1 g1 tt1 tk tv (own.map (·.2)) vs1 σ H Q)
    (post : ∀ D C s' m H', L2.Inv X pins σ H' s' → Q (.ref D) H' → s'.heap.Ns C m → FpOk X pins H' C → compPost (model X.prog X.w) X.A X.xe use Qf (.ref D) C (.ok .next) s') :
    wpAny (model X.prog X.w) X.A (comprehension (.DictComp kx vx [⟨tg, it, ifs, 0⟩, ⟨tg1, it1, ifs1, 0⟩] sc pos) sc X.env pos' newDict false (eval it X.env) use) Qf X.xe s := by
  have fr : ∀ y ∈ sc.names, y.2 = .free → ∃ c, X.env.cells.lookup y.1 = some c := by
    intro y hy e
    exact (ok.free y hy e).elim (fun k => I.ok.has _ (.inl k)) (fun k => I.ok.has _ (.inr k))
  refine wpAny_comprehension_free (use := use) rfl hs (closure_ok fr) ok.kind (fun y hy e => by rw [ok.uniq y hy, e]) (thn (hi.run pins s σ H _ I h) ?_)
  intro xv p1 hx
  refine thn hx ?_
  rintro itv p2 ⟨ia, fp, tn, J, G2, rfl, J2, T, st2, f2, q⟩
  refine wpAny_newObj_type (newEnv_comp ?_)
  generalize eD : p2.heap.objs.size = D
  have nD : G2 D = none := J2.hok.fresh (Nat.le_of_eq eD)
  obtain ⟨W, ⟨m0, w0⟩, turn⟩ := q D nD
  generalize ep3 : ({ p2 with heap := p2.heap.push { cls := .type "dict", data := .dict #[] } } : Shared) = p3
  have J3 : L2.Inv X pins σ (upd G2 D (.dT [])) p3 := by
    rw [← ep3]
    refine J2.laid (t' := p2.toks) (fun b o e => Heap.get?_push_of_some _ e) (Nat.le_of_eq eD) ?_
    rw [← eD]
    exact dt_empty p2.heap J2.big
  have hp3 : p3.heap = p2.heap.push { cls := .type "dict", data := .dict #[] } := by rw [← ep3]
  have small : ∀ b ∈ fp, b < p2.heap.objs.size := by
    intro b hb
    obtain ⟨o, e, _⟩ := T.obj _ _ st2 b hb
    exact Heap.lt_size e
  have f3 : ∀ b ∈ fp, FpOk X pins (upd G2 D (.dT [])) b ∧ b < p3.heap.objs.size := by
    intro b hb
    have lt := small b hb
    have up : (upd G2 D (.dT [])) b = none := by
      rw [upd_ne (by rw [← eD]; exact Nat.ne_of_lt lt)]
      exact (f2 b hb).1
    exact ⟨⟨up, (f2 b hb).2⟩, by rw [hp3, Heap.size_push]; exact Nat.lt_succ_of_lt lt⟩
  have st3 : tn 0 p3.heap := T.keep _ _ _ st2 fun b _ o e => by rw [hp3]; exact Heap.get?_push_of_some _ e
  have J4 := block_start J3 ok hN f3
  have pG := hg p3 (upd G2 D (.dT [])) p3.heap.objs.size (cellsFrom (p3.heap.objs.size + 1) sc.names (cloFrom X.env.cells sc.names [])) fp
  have pT := ht p3 (upd G2 D (.dT [])) p3.heap.objs.size (cellsFrom (p3.heap.objs.size + 1) sc.names (cloFrom X.env.cells sc.names [])) fp
  have pK := hk p3 (upd G2 D (.dT [])) p3.heap.objs.size (cellsFrom (p3.heap.objs.size + 1) sc.names (cloFrom X.env.cells sc.names [])) fp
  have pI1 := hi1 p3 (upd G2 D (.dT [])) p3.heap.objs.size (cellsFrom (p3.heap.objs.size + 1) sc.names (cloFrom X.env.cells sc.names [])) fp
  have pG1 := hg1 p3 (upd G2 D (.dT [])) p3.heap.objs.size (cellsFrom (p3.heap.objs.size + 1) sc.names (cloFrom X.env.cells sc.names [])) fp
  have pT1 := ht1 p3 (upd G2 D (.dT [])) p3.heap.objs.size (cellsFrom (p3.heap.objs.size + 1) sc.names (cloFrom X.env.cells sc.names [])) fp
  have pV := hv p3 (upd G2 D (.dT [])) p3.heap.objs.size (cellsFrom (p3.heap.objs.size + 1) sc.names (cloFrom X.env.cells sc.names [])) fp
  show codeAny _ _ (.compStart (.DictComp kx vx [⟨tg, it, ifs, 0⟩, ⟨tg1, it1, ifs1, 0⟩] sc pos) 0 (.ref ia) (.ref D) (compEnvC sc (cellsFrom (p3.heap.objs.size + 1) sc.names (cloFrom X.env.cells sc.names [])) p3.heap.objs.size X.env))
    (compPost (model X.prog X.w) X.A X.xe use Qf (.ref D) p3.heap.objs.size) { p3 with heap := pushCells (p3.heap.push { cls := .type "dict", data := .dict #[] }) sc.names }
  have none3 : ∀ b ∈ fp, (upd G2 D (.dT [])) b = none := fun b hb => (f3 b hb).1.1
  generalize ece : compEnvC sc (cellsFrom (p3.heap.objs.size + 1) sc.names (cloFrom X.env.cells sc.names [])) p3.heap.objs.size X.env = ce at J4 pG pT pK pV pI1 pG1 pT1 ⊢
  have locs : ce.locals = p3.heap.objs.size := by subst ece; rfl
  generalize eG3 : upd G2 D (.dT []) = G3 at J3 J4 pG pT pK pV pI1 pG1 pT1 w0 none3 f3
  generalize ep4 : ({ p3 with heap := pushCells (p3.heap.push { cls := .type "dict", data := .dict #[] }) sc.names } : Shared) = p4 at J4 ⊢
  have st4 : tn 0 p4.heap := T.keep _ _ _ st3 fun b _ o e => by rw [← ep4]; exact pushCells_keeps _ _ _ _ (Heap.get?_push_of_some _ e)
  have here : ∀ {σ' : L2.St} {H' : Hp} {s' : Shared}, L2.Inv (X.blk p3 G3 sc ce fp) [] σ' H' s' → (∀ b ∈ fp, H' b = none) → ∀ b ∈ fp, FpOk (X.blk p3 G3 sc ce fp) [] H' b := by
    intro σ' H' s' Z hn b hb
    exact ⟨hn b hb, (Z.ok.exf b hb).1, Z.ok.exfs b hb, .inl hb, fun x c e => (Z.ok.exf b hb).2 x c e, fun p hp => absurd (show p ∈ ([] : List (Addr × Obj)) ++ [] from hp) (by simp)⟩
  have loop : codeAny (model X.prog X.w) X.A (.compLoop (.DictComp kx vx [⟨tg, it, ifs, 0⟩, ⟨tg1, it1, ifs1, 0⟩] sc pos) 0 (.ref ia) (.ref D) ce) (compPost (model X.prog X.w) X.A X.xe use Qf (.ref D) p3.heap.objs.size) p4 := by
    refine loopD2_a (hs1 ce) (fun n s' => ∃ i H', L2.Inv (X.blk p3 G3 sc ce fp) [] (wipe σ (own.map (·.2))) H' s' ∧ tn i s'.heap ∧ (∀ b ∈ fp, H' b = none) ∧ W i n H') ?_ m0 ⟨0, G3, J4, st4, none3, w0⟩
    rintro n p5 ⟨i, G5, J5, st5, n5, w5⟩
    rcases turn i n G5 w5 with ⟨stop, qq⟩ | ⟨go, Nx, hNx, step⟩
    · refine thnF (T.done (X.blk p3 G3 sc ce fp) rfl rfl rfl hc i [] p5 _ G5 (fun _ _ => False) J5 (here J5 n5) st5 stop) ?_
      rintro r p6 ⟨rfl, J6⟩
      have J7 : L2.Inv X pins σ G5 p6 := J3.call' (ch := fp) J6.os J6.base J6.hok J6.bare fun b hb => ⟨(f3 b hb).1.2.2.2.1, (f3 b hb).1.2.1, (f3 b hb).1.2.2.2.2.1, (f3 b hb).1.2.2.2.2.2⟩
      have nC : G5 p3.heap.objs.size = none := by
        have z : G5 ce.locals = none := J6.free
        rwa [locs] at z
      obtain ⟨m, hn, _⟩ := J6.loc
      have hn' : p6.heap.Ns ce.locals m := hn
      rw [locs] at hn'
      exact post D p3.heap.objs.size p6 m G5 J7 qq hn' (J3.fpOk (Nat.le_refl _) nC)
    · refine thnF (T.item (X.blk p3 G3 sc ce fp) rfl rfl rfl hc i [] p5 _ G5 (fun _ _ => False) J5 (here J5 n5) st5 go) ?_
      rintro r p6 ⟨u, rfl, h6⟩
      refine thnF h6 ?_
      rintro _ p7 ⟨x, G7, J7, r7, y7, st7, n7⟩
      have K7 := J7.pinned (here J7 n7) (T.obj _ _ st7)
      refine thnF (pG.run _ p7 _ G7 x u _ K7 r7 (step x G7 y7)) ?_
      rintro _ p8 ⟨σ8, G8, J8, hw8, q8⟩
      refine thnF (pT.run _ p8 σ8 G8 _ J8 q8) ?_
      rintro b p9 ⟨G9, J9, q9⟩
      have fin : ∀ {σ9 : L2.St} {s' : Shared} {H' : Hp}, L2.Inv (X.blk p3 G3 sc ce fp) ([] ++ pinsAt fp p7.heap) σ9 H' s' → (wipe σ (own.map (·.2))).length = σ9.length → (∀ (j : Nat) v, (wipe σ (own.map (·.2)))[j]? = some (some v) → σ9[j]? = some (some v)) → Nx H' →
          ∃ m, m < n ∧ ∃ i H', L2.Inv (X.blk p3 G3 sc ce fp) [] (wipe σ (own.map (·.2))) H' s' ∧ tn i s'.heap ∧ (∀ b ∈ fp, H' b = none) ∧ W i m H' := by
        intro σ9 s' H' Z len know nx
        obtain ⟨m', hm, w'⟩ := hNx H' nx
        have pin : ∀ b ∈ fp, ∀ o, p7.heap.get? b = some o → s'.heap.get? b = some o ∧ H' b = none := fun b hb o e =>
          let z := Z.pin (b, o) (List.mem_append_right _ (List.mem_append_right _ (mem_pinsAt hb e)))
          ⟨z.1, z.2.1⟩
        exact ⟨m', hm, i + 1, H', (Z.unpinned (pins := [])).weak len know, T.keep _ _ _ st7 fun b hb o e => (pin b hb o e).1, fun b hb => let ⟨o, e, _⟩ := T.obj _ _ st7 b hb; (pin b hb o e).2, w'⟩
      have len8 : (wipe σ (own.map (·.2))).length = σ8.length := by rw [← hw8]; exact wipe_length _ _
      have know8 : ∀ (j : Nat) v, (wipe σ (own.map (·.2)))[j]? = some (some v) → σ8[j]? = some (some v) := by
        intro j v e
        rw [← hw8] at e
        exact (wipe_some e).1
      have know9 : ∀ (j : Nat) v, (wipe σ (own.map (·.2)))[j]? = some (some v) → (wipe σ8 vs1)[j]? = some (some v) := by
        intro j v e
        rw [← hw8] at e
        obtain ⟨a1, a2⟩ := wipe_some e
        rw [wipe_out (fun z => a2 (hv1 j z))]
        exact a1
      cases b with
      | false =>
        simp only [Bool.false_eq_true, if_false] at q9 ⊢
        exact fin J9 len8 know8 q9
      | true =>
        simp only [if_true] at q9 ⊢
        refine thnF (pI1.run _ p9 σ8 G9 _ J9 q9) ?_
        intro xv1 p10 hx1
        refine thnF hx1 ?_
        rintro itv1 p11 ⟨ib, fp1, tn1, K1, G11, rfl, J11, T1, st11, f11, W1, ⟨m1, w1⟩, turn1⟩
        have here1 : ∀ {H' : Hp}, (∀ b ∈ fp1, H' b = none) → ∀ b ∈ fp1, FpOk (X.blk p3 G3 sc ce fp) ([] ++ pinsAt fp p7.heap) H' b := by
          intro H' hn b hb
          exact ⟨hn b hb, (f11 b hb).2⟩
        have loop1 : codeAny (model X.prog X.w) X.A (.compLoop (.DictComp kx vx [⟨tg, it, ifs, 0⟩, ⟨tg1, it1, ifs1, 0⟩] sc pos) 1 (.ref ib) (.ref D) ce)
            (fun r s' => match r with
              | .ok _ => ∃ m, m < n ∧ ∃ i H', L2.Inv (X.blk p3 G3 sc ce fp) [] (wipe σ (own.map (·.2))) H' s' ∧ tn i s'.heap ∧ (∀ b ∈ fp, H' b = none) ∧ W i m H'
              | .error _ => False) p11 := by
          refine loopD2_b (fun k s' => ∃ j H', L2.Inv (X.blk p3 G3 sc ce fp) ([] ++ pinsAt fp p7.heap) (wipe σ8 vs1) H' s' ∧ tn1 j s'.heap ∧ (∀ b ∈ fp1, H' b = none) ∧ W1 j k H') ?_ m1 ⟨0, G11, J11.weak (wipe_length _ _) (fun j v e => (wipe_some e).1), st11, fun b hb => (f11 b hb).1, w1⟩
          rintro k p12 ⟨j, G12, J12, st12, n12, w12⟩
          rcases turn1 j k G12 w12 with ⟨stop1, nx1⟩ | ⟨go1, Nx1, hNx1, step1⟩
          · refine thnF (T1.done (X.blk p3 G3 sc ce fp) rfl rfl rfl hc j _ p12 (wipe σ8 vs1) G12 (fun _ _ => False) J12 (here1 n12) st12 stop1) ?_
            rintro r p13 ⟨rfl, J13⟩
            exact fin J13 (len8.trans (wipe_length σ8 vs1).symm) know9 nx1
          · refine thnF (T1.item (X.blk p3 G3 sc ce fp) rfl rfl rfl hc j _ p12 (wipe σ8 vs1) G12 (fun _ _ => False) J12 (here1 n12) st12 go1) ?_
            rintro r p13 ⟨u1, rfl, h13⟩
            refine thnF h13 ?_
            rintro _ p14 ⟨x1, G14, J14, r14, y14, st14, n14⟩
            have K14 := J14.pinned (here1 n14) (T1.obj _ _ st14)
            refine thnF (pG1.run _ p14 (wipe σ8 vs1) G14 x1 u1 _ K14 r14 (step1 x1 G14 y14)) ?_
            rintro _ p15 ⟨σ15, G15, J15, hw15, q15⟩
            refine thnF (pT1.run _ p15 σ15 G15 _ J15 q15) ?_
            rintro b1 p16 ⟨G16, J16, q16⟩
            have fin1 : ∀ {s' : Shared} {H' : Hp}, L2.Inv (X.blk p3 G3 sc ce fp) (([] ++ pinsAt fp p7.heap) ++ pinsAt fp1 p14.heap) σ15 H' s' → Nx1 H' →
                ∃ m, m < k ∧ ∃ j H', L2.Inv (X.blk p3 G3 sc ce fp) ([] ++ pinsAt fp p7.heap) (wipe σ8 vs1) H' s' ∧ tn1 j s'.heap ∧ (∀ b ∈ fp1, H' b = none) ∧ W1 j m H' := by
              intro s' H' Z nx
              obtain ⟨m', hm, w'⟩ := hNx1 H' nx
              have pin1 : ∀ b ∈ fp1, ∀ o, p14.heap.get? b = some o → s'.heap.get? b = some o ∧ H' b = none := fun b hb o e =>
                let z := Z.pin (b, o) (List.mem_append_right _ (List.mem_append_right _ (mem_pinsAt hb e)))
                ⟨z.1, z.2.1⟩
              have len15 : (wipe σ8 vs1).length = σ15.length := by rw [← hw15]; exact wipe_length _ _
              have know15 : ∀ (j : Nat) v, (wipe σ8 vs1)[j]? = some (some v) → σ15[j]? = some (some v) := by
                intro j v e
                rw [← hw15] at e
                exact (wipe_some e).1
              exact ⟨m', hm, j + 1, H', Z.unpinned.weak len15 know15, T1.keep _ _ _ st14 fun b hb o e => (pin1 b hb o e).1, fun b hb => let ⟨o, e, _⟩ := T1.obj _ _ st14 b hb; (pin1 b hb o e).2, w'⟩
            cases b1 with
            | false =>
              simp only [Bool.false_eq_true, if_false] at q16 ⊢
              exact fin1 J16 q16
            | true =>
              simp only [if_true] at q16 ⊢
              refine thnF (pK.run _ p16 σ15 G16 _ J16 q16) ?_
              rintro z p17 ⟨yk, G17, J17, r17, q17⟩
              refine thnF (pV.run _ p17 σ15 G17 _ J17 q17) ?_
              rintro z2 p18 ⟨yv, G18, J18, r18, kvs, k, kb, rfl, eb, eD18, lz, nx⟩
              cases (show z = Value.ref kb from r17)
              exact dictSetT (X := X.blk p3 G3 sc ce fp) hu J18 eD18 eb lz r18 fun p19 J19 => fin1 J19 nx
        exact startD2 loop1 (T1.self X.A 0 _ _ _ st11 loop1)
  exact codeAny_compStart_dict loop (T.self X.A 0 _ _ _ st4 loop)
theorem ps_setDc2T {i : Nat} {y : Str} {py : Pos} {kx vx tg it tg1 it1 : Expr} {ifs ifs1 : List Expr} {scope : Scope} {own : List (Str × Nat)} {pos sp : Pos} {wi wi1 : TI} {g g1 : TG} {tt tt1 : TT} {vs1 : List Nat} {tk tv : TE} (hu : X.A.units + 1 < cLine) (hc : X.calm = true) (hN : X.N.Nodup)
    (hy : X.N[i]? = some y) (hyl : X.env.scope.names.lookup y = some .local) (hsw : swapsWith (.DictComp kx vx [⟨tg, it, ifs, 0⟩, ⟨tg1, it1, ifs1, 0⟩] scope pos) (some (.Name y py)) sp.line X.env = pure true)
    (hi : PI X tg it wi) (ok : BlkOk X.N X.env.scope scope own)
    (hg : ∀ (s : Shared) (H : Hp) (C : Addr) (cl : List (Str × Addr)) (fp : List Addr), PG (X.blk s H scope (compEnvC scope cl C X.env) fp) tg g)
    (ht : ∀ (s : Shared) (H : Hp) (C : Addr) (cl : List (Str × Addr)) (fp : List Addr), PTs (X.blk s H scope (compEnvC scope cl C X.env) fp) ifs tt)
    (hk : ∀ (s : Shared) (H : Hp) (C : Addr) (cl : List (Str × Addr)) (fp : List Addr), PE (X.blk s H scope (compEnvC scope cl C X.env) fp) kx tk)
    (hv : ∀ (s : Shared) (H : Hp) (C : Addr) (cl : List (Str × Addr)) (fp : List Addr), PE (X.blk s H scope (compEnvC scope cl C X.env) fp) vx tv)
    (hi1 : ∀ (s : Shared) (H : Hp) (C : Addr) (cl : List (Str × Addr)) (fp : List Addr), PI (X.blk s H scope (compEnvC scope cl C X.env) fp) tg1 it1 wi1)
    (hg1 : ∀ (s : Shared) (H : Hp) (C : Addr) (cl : List (Str × Addr)) (fp : List Addr), PG (X.blk s H scope (compEnvC scope cl C X.env) fp) tg1 g1)
    (ht1 : ∀ (s : Shared) (H : Hp) (C : Addr) (cl : List (Str × Addr)) (fp : List Addr), PTs (X.blk s H scope (compEnvC scope cl C X.env) fp) ifs1 tt1)
    (hv1 : ∀ i ∈ vs1, i ∈ own.map (·.2))
    (hs1 : ∀ env x, foldedSetIterable it1 env x = pure x := by intro _ _; rfl)
    (hs : ∀ x, foldedSetIterable it X.env x = pure x := by intro _; rfl) :
    PS X (.Assign [.Name y py] (.DictComp kx vx [⟨tg, it, ifs, 0⟩, ⟨tg1, it1, ifs1, 0⟩] scope pos) sp) (tAsg (tDc2T wi g tt wi1 g1 tt1 tk tv (own.map (·.2)) vs1) (gName i)) := by
  constructor
  intro pins s σ H D I h
  rw [exec_Assign_Name_used _ _ _ _ hsw]
  refine wpAny_bind (wpAny_standAt (wpAny_bind ?_))
  show wpAny _ X.A (do let _ ← comprehension (.DictComp kx vx [⟨tg, it, ifs, 0⟩, ⟨tg1, it1, ifs1, 0⟩] scope pos) scope X.env (firstIterPos [⟨tg, it, ifs, 0⟩, ⟨tg1, it1, ifs1, 0⟩] pos) newDict false (eval it X.env) (some (assign (.Name y py) X.env))) _ _ s
  have h' : tDc2T wi g tt wi1 g1 tt1 tk tv (own.map (·.2)) vs1 σ H (fun x H1 => gName i x σ H1 D.nx) := h
  refine wpAny_bind (thn (dc2T_core (Qf := fun _ s' => SP X pins D .next s') hu hc hN I hi ok hg ht hk hv hi1 hg1 ht1 hv1 hs1 hs h' ?_) fun _ s' hq => wpAny_pure (wpAny_pure hq))
  intro L C s' m H' I' q hn f
  show wpAny _ _ (assign (.Name y py) X.env (.ref L)) _ _ _
  refine wpAny_assign_Name (store_ok2 (v := V.ref L) I' hN hy (.inl hyl) rfl ?_ (.inr hyl))
  rintro s2 I2 ⟨a, sb, ha⟩
  obtain ⟨f0, f1, f2, f3, f4, f5⟩ := f
  have ne : C ≠ a := by
    rcases ha with z | z
    · rw [z]; exact f1
    · exact fun e => f4 y a z e.symm
  exact ⟨m, hn.sameBut sb ne, fun h3 sb3 => ⟨_, H', I2.turned (t' := s2.toks) (fun b o hb e => (sb3.2 b hb).trans e) f0 f1 f3 f4 f5, q⟩⟩
end
theorem k_rng2 {ta : TA} {σ : L2.St} {H : Hp} {R : It → Hp → Prop} (h : ta σ H fun vs H1 => ∃ i j : Int, vs = [.int i, .int j] ∧ (-(2 ^ 62) ≤ i ∧ i < 2 ^ 62 ∧ -(2 ^ 62) ≤ j ∧ j < 2 ^ 62) ∧ R (Itr i (j - i).toNat) H1) : iRng2 ta σ H R := h
theorem k_dc2T {wi : TI} {g : TG} {tt : TT} {wi1 : TI} {g1 : TG} {tt1 : TT} {tk tv : TE} {vs vs1 : List Nat} {σ : L2.St} {H : Hp} {Q : VK} (h : wi σ H fun J H1 => ∀ D, H1 D = none → ∃ W : Nat → Nat → Hp → Prop, (∃ m, W 0 m (upd H1 D (.dT []))) ∧ ∀ i m H, W i m H →
  (J.stop i H ∧ Q (.ref D) H) ∨ (J.go i H ∧ ∃ Nx : Hp → Prop, (∀ H', Nx H' → ∃ m', m' < m ∧ W (i + 1) m' H') ∧ ∀ x H', J.yld i H x H' → g x (wipe σ vs) H' fun σ2 H2 => wipe σ2 vs = wipe σ vs ∧ tt σ2 H2 fun b H3 =>
    if b = true then wi1 σ2 H3 fun J1 H4 => ∃ W1 : Nat → Nat → Hp → Prop, (∃ m, W1 0 m H4) ∧ ∀ j k H, W1 j k H →
      (J1.stop j H ∧ Nx H) ∨ (J1.go j H ∧ ∃ Nx1 : Hp → Prop, (∀ H', Nx1 H' → ∃ k', k' < k ∧ W1 (j + 1) k' H') ∧ ∀ x H', J1.yld j H x H' → g1 x (wipe σ2 vs1) H' fun σ3 H5 => wipe σ3 vs1 = wipe σ2 vs1 ∧ tt1 σ3 H5 fun b H6 =>
        if b = true then tk σ3 H6 fun y H7 => tv σ3 H7 fun z H8 => ∃ kvs k b, y = .ref b ∧ H8 b = some (.tup (k.map kV)) ∧ H8 D = some (.dT kvs) ∧ kvs.length < sizeLine ∧ Nx1 (upd H8 D (.dT (putK kvs k z))) else Nx1 H6)
    else Nx H3)) : tDc2T wi g tt wi1 g1 tt1 tk tv vs vs1 σ H Q := h
/-! ### a search, layer by layer: the shortest word that leads out -/
abbrev Pl := Int × Int
abbrev Mv := Pl → List (Nat × Option Pl)
def evs (mv : Mv) (layer : List (Pl × Wd)) : List (Wd × Option Pl) := layer.flatMap fun pw => (mv pw.1).map fun ce => (pw.2 ++ [ce.1], ce.2)
def proc : List (Wd × Option Pl) → List Pl → List (Pl × Wd) → Sum Wd (List Pl × List (Pl × Wd))
  | [], s, l => .inr (s, l)
  | (w, none) :: _, _, _ => .inl w
  | (w, some e) :: r, s, l => if e ∈ s then proc r s l else proc r (s ++ [e]) (l ++ [(e, w)])
inductive Bfs (mv : Mv) : List Pl → List (Pl × Wd) → Option Wd → Prop
  | done {s : List Pl} : Bfs mv s [] none
  | found {s : List Pl} {l : List (Pl × Wd)} {w : Wd} (ne : l ≠ []) (h : proc (evs mv l) s [] = .inl w) : Bfs mv s l (some w)
  | next {s s' : List Pl} {l l' : List (Pl × Wd)} {r : Option Wd} (ne : l ≠ []) (h : proc (evs mv l) s [] = .inr (s', l')) (n : Bfs mv s' l' r) : Bfs mv s l r
theorem Bfs.uniq {mv : Mv} {s : List Pl} {l : List (Pl × Wd)} {r r' : Option Wd} (a : Bfs mv s l r) (b : Bfs mv s l r') : r = r' := by
  induction a generalizing r' with
  | done =>
    cases b with
    | done => rfl
    | found ne _ => exact absurd rfl ne
    | next ne _ _ => exact absurd rfl ne
  | found ne h =>
    cases b with
    | done => exact absurd rfl ne
    | found _ h' => rw [h] at h'; cases h'; rfl
    | next _ h' _ => rw [h] at h'; cases h'
  | next ne h _ ih =>
    cases b with
    | done => exact absurd rfl ne
    | found _ h' => rw [h] at h'; cases h'
    | next _ h' n => rw [h] at h'; cases h'; exact ih n
theorem proc_app : ∀ (a b : List (Wd × Option Pl)) (s : List Pl) (l : List (Pl × Wd)), proc (a ++ b) s l = match proc a s l with
    | .inl w => .inl w
    | .inr (s', l') => proc b s' l'
  | [], b, s, l => rfl
  | (w, none) :: r, b, s, l => rfl
  | (w, some e) :: r, b, s, l => by
    show (if e ∈ s then proc (r ++ b) s l else proc (r ++ b) (s ++ [e]) (l ++ [(e, w)])) = _
    by_cases c : e ∈ s
    · rw [if_pos c, proc_app r b s l]
      show _ = match (if e ∈ s then proc r s l else proc r (s ++ [e]) (l ++ [(e, w)])) with | .inl w => _ | .inr (s', l') => _
      rw [if_pos c]
    · rw [if_neg c, proc_app r b]
      show _ = match (if e ∈ s then proc r s l else proc r (s ++ [e]) (l ++ [(e, w)])) with | .inl w => _ | .inr (s', l') => _
      rw [if_neg c]
/-- what a search keeps: the places seen are unlike ones of P, the layer's places are seen, words are short -/
structure Lay (P : List Pl) (s : List Pl) (l : List (Pl × Wd)) (n : Nat) : Prop where
  nd : s.Nodup
  sub : ∀ p ∈ s, p ∈ P
  lay : ∀ pw ∈ l, pw.1 ∈ P ∧ pw.2.length = n
def ClosedM (mv : Mv) (P : List Pl) : Prop := ∀ p ∈ P, ∀ c q, (c, some q) ∈ mv p → q ∈ P
theorem proc_lay {P : List Pl} {n : Nat} : ∀ {ev : List (Wd × Option Pl)} {s s' : List Pl} {l l' : List (Pl × Wd)}, (∀ w q, (w, some q) ∈ ev → q ∈ P ∧ w.length = n) → Lay P s l n → proc ev s l = .inr (s', l') →
    Lay P s' l' n ∧ s'.length + l.length = s.length + l'.length
  | [], s, s', l, l', _, L, e => by cases e; exact ⟨L, rfl⟩
  | (w, none) :: r, s, s', l, l', _, _, e => by cases e
  | (w, some q) :: r, s, s', l, l', hv, L, e => by
    have e' : (if q ∈ s then proc r s l else proc r (s ++ [q]) (l ++ [(q, w)])) = .inr (s', l') := e
    by_cases c : q ∈ s
    · rw [if_pos c] at e'
      exact proc_lay (fun w q h => hv w q (List.mem_cons_of_mem _ h)) L e'
    · rw [if_neg c] at e'
      have hq := hv w q List.mem_cons_self
      have L2 : Lay P (s ++ [q]) (l ++ [(q, w)]) n := ⟨List.nodup_append.mpr ⟨L.nd, by simp, fun a ha b hb z => c (by rw [← List.mem_singleton.mp hb, ← z]; exact ha)⟩, fun p hp => by
        rcases List.mem_append.mp hp with hp | hp
        · exact L.sub p hp
        · rw [List.mem_singleton.mp hp]; exact hq.1, fun pw hp => by
        rcases List.mem_append.mp hp with hp | hp
        · exact L.lay pw hp
        · rw [List.mem_singleton.mp hp]; exact hq⟩
      obtain ⟨a, b⟩ := proc_lay (fun w q h => hv w q (List.mem_cons_of_mem _ h)) L2 e'
      refine ⟨a, ?_⟩
      rw [List.length_append, List.length_append, List.length_singleton, List.length_singleton] at b
      omega
theorem evs_in {mv : Mv} {P : List Pl} (c : ClosedM mv P) {s : List Pl} {l : List (Pl × Wd)} {n : Nat} (L : Lay P s l n) : ∀ w q, (w, some q) ∈ evs mv l → q ∈ P ∧ w.length = n + 1 := fun w q h => by
  obtain ⟨pw, hp, h2⟩ := List.mem_flatMap.mp h
  obtain ⟨ce, hc, e⟩ := List.mem_map.mp h2
  obtain ⟨c1, c2⟩ := ce
  cases e
  have := L.lay pw hp
  exact ⟨c _ this.1 _ _ hc, by rw [List.length_append, this.2]; rfl⟩
/-- dicts of places: those of a list, each True -/
def pk (p : Pl) : List Key := [.inl p.1, .inl p.2]
theorem pk_inj {p q : Pl} (h : pk p = pk q) : p = q := by
  unfold pk at h
  injection h with h1 h2
  injection h2 with h2 h3
  injection h1 with h1
  injection h2 with h2
  exact Prod.ext h1 h2
def skv (s : List Pl) : List (List Key × V) := s.map fun p => (pk p, .bl true)
theorem valV_skv (p : Pl) : ∀ s : List Pl, valV (skv s) (pk p) = if p ∈ s then some (.bl true) else none
  | [] => rfl
  | q :: s => by
    show valV ((pk q, V.bl true) :: skv s) (pk p) = _
    by_cases c : q = p
    · rw [valV_pos (by rw [c])]
      rw [if_pos (by rw [c]; exact List.mem_cons_self)]
    · rw [valV_neg (fun z => c (pk_inj z)), valV_skv p s]
      by_cases d : p ∈ s
      · rw [if_pos d, if_pos (List.mem_cons_of_mem _ d)]
      · rw [if_neg d, if_neg (fun z => by rcases List.mem_cons.mp z with z | z; exact c z.symm; exact d z)]
theorem putK_skv {s : List Pl} {p : Pl} (h : p ∉ s) : putK (skv s) (pk p) (.bl true) = skv (s ++ [p]) := by
  rw [putK_new _ (by rw [valV_skv, if_neg h])]
  unfold skv
  rw [List.map_append]
  rfl
/-! ### d.pop(k): a key that is a tuple, and is there -/
section
open PySem.W PySem.Calls PyProof.Rows PyProof.V PySem.Spec
theorem meetsPop1 {Kk : Type} [DecidableEq Kk] {prog : Program} {w : World} {knd : HeapKind prog w Kk} {d b : Addr} {k : Kk} (hd : (d == sysModules) = false) :
    MeetsIn prog w (Builtin.«dict.pop» ⟨[.ref d, .ref b], []⟩) (fun A R s => ∃ xs p, knd.room A.in1 ∧ knd.is s.heap k b ∧ s.heap.DictOfH knd d xs ∧ xs.length ≤ sizeLine ∧ atKey xs k = some p ∧
      ∀ h' tk, h'.DictOfH knd d (DT.dropH xs k) → Heap.SameBut d s.heap h' → R (.ok (.ret p.2)) { s with heap := h', toks := tk }) :=
  .of_wp fun A R s ⟨xs, p, hu, hkey, hm, hsz, hat, hsome⟩ => by
    obtain ⟨o, es, ep, ho, hc, hdat, he, his, hn⟩ := id hm
    have hes : es.size = xs.length := by
      have := congrArg List.length he
      simpa using this
    have hpart : (keyPart (Value.ref b)).isSome = false := rfl
    unfold Builtin.«dict.pop»
    refine wpAny_bind ?_
    unfold Builtin.Dict.keyAndDefault
    refine wpAny_bind (wpAny_notOrdered_dict hm.typeIs ?_)
    show wpAny _ _ (pure (d, Value.ref b, none)) _ _ s
    refine wpAny_pure ?_
    simp only [hpart, Bool.false_eq_true, if_false]
    refine wpAny_bind (wpAny_dictEntries ho hdat (wpAny_bind (wpAny_pure ?_)))
    cases hem : es.isEmpty with
    | true =>
      exfalso
      have h0 : xs = [] := by
        have z : es.size = 0 := by simpa using hem
        exact List.length_eq_zero_iff.mp (by omega)
      rw [h0] at hat
      cases hat
    | false =>
      simp only [Bool.false_eq_true, if_false]
      refine wpAny_bind (DT.takeH hu hkey hm hsz (fun hno => ?_) fun p2 e hp hev h' hm' hs' => ?_)
      · rw [hat] at hno
        cases hno
      · rw [hat] at hp
        cases hp
        simp only [Option.isNone_some, Bool.false_eq_true, if_false]
        exact wpAny_bind (wpAny_letGo (wpAny_pure ⟨e.val, rfl, by rw [hev]; exact hsome h' _ hm' hs'⟩))
end
def rPopT1 : V → List V → Hp → VK → Prop := fun x xs H Q => ∃ (a : Addr) (kvs : List (List Key × V)) (k : List Key) (b : Addr) (v : V), x = .ref a ∧ xs = [.ref b] ∧ H a = some (.dT kvs) ∧ H b = some (.tup (k.map kV)) ∧ valV kvs k = some v ∧ Q v (upd H a (.dT (dropK kvs k)))
open PySem.Spec PyProof.Rows in
theorem mt_popT1 {X : Cx} (hu : X.A.units + 1 < cLine) : MtR X "dict.pop" rPopT1 := by
  intro pins s σ H x xs v us Q I rx rxs h
  obtain ⟨a, kvs, k, b, v0, rfl, rfl, ha, hb, ev, q1⟩ := h
  cases rx
  obtain ⟨u1, rfl, r1⟩ := vals1 rxs
  cases r1
  obtain ⟨z, hd, xs', rel, dd⟩ := dt_of I.hok ha
  have hz : xs'.length ≤ sizeLine := by rw [← Paired.length rel]; exact z
  have r := rel.val k
  rw [ev] at r
  obtain ⟨p, ep, rv⟩ : ∃ p, atKey xs' k = some p ∧ RelV v0 p.2 := by
    cases e : atKey xs' k with
    | none =>
      rw [e] at r
      exact (show False from r).elim
    | some p =>
      rw [e] at r
      exact ⟨p, rfl, r⟩
  refine call_meetsIn PySem.F.slot_dict_pop dd.typeIs PySem.F.entry_dict_pop (PySem.F.args_dict_pop_2 _ _) (meetsPop1 (knd := tupleKind (mixKind X.prog X.w)) (k := k) hd)
    ⟨xs', p, tupleKind_room_in1 hu, key_of I.hok hb, dd, hz, ep, fun h' tk dd' hs => ?_⟩
  obtain ⟨o, es, epp, hq, h2, h3, h4, _, h5⟩ := dd'
  have I2 : Inv X pins σ (upd H a (.dT (dropK kvs k))) { s with heap := h', toks := tk } :=
    d_write I (by rw [ha]; exact True.intro) hs ⟨o, hq⟩ ⟨Nat.le_trans (dropK_le kvs k) z, hd, _, (DX.KT_drop k rel).keeps (fun c ys ec => (by rw [upd_ne (ne_of ec ha (fun z => nomatch z))]; exact ec)), o, es, epp, hq, h2, h3, h4, h5⟩
  exact ⟨v0, _, I2, rv, q1⟩
/-! ### the law's own game: from which stands and tallies some row without end never leads below nought -/
theorem ways_bound {m : MD} (o : m.Ok) {G : Int} (G0 : 0 ≤ G) (hg : ∀ s ∈ m.ss, -G ≤ s.g) : ∀ i b y, ways m i b = some y → y.1 ≤ i * G
  | 0, b, y, h => by
    have h : (if b < m.n then (loopA m b).map fun v => ((0, [], v) : WV) else none) = some y := h
    split at h
    · obtain ⟨v, _, rfl⟩ := Option.map_eq_some_iff.mp h
      show (0 : Int) ≤ ((0 : Nat) : Int) * G
      omega
    · cases h
  | i + 1, b, y, h => back_ind (P := fun _ y => y.1 ≤ ((i + 1 : Nat) : Int) * G) m.ss (ways m i) (fun n y e => by
      have := ways_bound o G0 hg i n y e
      rw [show ((i + 1 : Nat) : Int) = (i : Int) + 1 from rfl, Int.add_mul]
      omega) (fun s hs y ey => by
      have := ways_bound o G0 hg i _ y ey
      have g0 := hg s hs
      have i0 : 0 ≤ (i : Int) * G := Int.mul_nonneg (by omega) G0
      show mx0 (y.1 - s.g) ≤ ((i + 1 : Nat) : Int) * G
      rw [show ((i + 1 : Nat) : Int) = (i : Int) + 1 from rfl, Int.add_mul]
      exact mx0_le (by omega) (by omega)) b y h
theorem Lasts.mono {m : MD} {b : Nat} {c c' : Int} (h : Lasts m b c) (q : c ≤ c') : Lasts m b c' := let ⟨u, v, w⟩ := h; ⟨u, v, w.mono q⟩
/-- from a stand that lasts some step leads to one that lasts -/
theorem lasts_step {m : MD} {b : Nat} {c : Int} (h : Lasts m b c) : 0 ≤ c ∧ ∃ s ∈ m.ss, s.b = b ∧ 0 ≤ c + s.g ∧ Lasts m s.e (c + s.g) := by
  obtain ⟨u, v, w⟩ := h
  obtain ⟨n, t, t', e1, e2, le⟩ := w.lp
  cases u with
  | cons a u =>
    obtain ⟨h0, s, es, h⟩ := w.abv
    obtain ⟨hs, hb, _⟩ := stepOf_mem es
    have h : Abv m s.e (c + s.g) (u ++ v) := h
    refine ⟨h0, s, hs, hb, h.nn, u, v, w.ne, h, n, t, t', ?_, e2, le⟩
    have e1 : (match stepOf m b a with | none => none | some x => runW m (x.e, c + x.g) u) = some (n, t) := e1
    rw [es] at e1
    exact e1
  | nil =>
    cases e1
    cases v with
    | nil => exact absurd rfl w.ne
    | cons a v =>
      obtain ⟨h0, s, es, h⟩ := w.abv
      obtain ⟨hs, hb, _⟩ := stepOf_mem es
      have h : Abv m s.e (c + s.g) v := h
      have e2 : (match stepOf m b a with | none => none | some x => runW m (x.e, c + x.g) v) = some (b, t') := e2
      rw [es] at e2
      have e2 : runW m (s.e, c + s.g) v = some (b, t') := e2
      have r1 : runW m (s.e, c + s.g) (v ++ [a]) = some (s.e, t' + s.g) := by
        rw [runW_append, e2]
        show (match stepOf m b a with | none => none | some x => runW m (x.e, t' + x.g) []) = _
        rw [es]
        rfl
      refine ⟨h0, s, hs, hb, h.nn, [], v ++ [a], by simp, ?_, s.e, c + s.g, t' + s.g, rfl, r1, by omega⟩
      show Abv m s.e (c + s.g) (v ++ [a])
      refine (abv_app _ _ _ _).mpr ⟨b, t', e2, h, ⟨by omega, s, es, ?_⟩⟩
      have := h.nn
      show 0 ≤ t' + s.g
      omega
theorem lasts_back {m : MD} (o : m.Ok) {s : Stp} (hs : s ∈ m.ss) {c : Int} (c0 : 0 ≤ c) (h : Lasts m s.e (c + s.g)) : Lasts m s.b c := by
  obtain ⟨u, v, w⟩ := h
  obtain ⟨n, t, t', e1, e2, le⟩ := w.lp
  refine ⟨s.c :: u, v, w.ne, ⟨c0, s, stepOf_self o hs, w.abv⟩, n, t, t', ?_, e2, le⟩
  show (match stepOf m s.b s.c with | none => none | some x => runW m (x.e, c + x.g) u) = _
  rw [stepOf_self o hs]
  exact e1
/-- where a step leads in the game whose tallies are capped -/
def capN (M : Int) (t g : Int) : Int := if M < t + g then M else t + g
theorem capN_le (M t g : Int) : capN M t g ≤ t + g ∧ capN M t g ≤ M := by
  unfold capN
  split <;> omega
def sucP (M : Int) (m : MD) (p : Pl) : List Pl := (m.ss.filter fun s => decide ((s.b : Int) = p.1)).map fun s => ((s.e : Int), capN M p.2 s.g)
def Uni (n : Nat) (M : Int) (p : Pl) : Prop := ∃ b : Nat, b < n ∧ p.1 = (b : Int) ∧ 0 ≤ p.2 ∧ p.2 ≤ M
theorem sucP_mem {M : Int} {m : MD} {p q : Pl} : q ∈ sucP M m p ↔ ∃ s ∈ m.ss, (s.b : Int) = p.1 ∧ q = ((s.e : Int), capN M p.2 s.g) := by
  unfold sucP
  rw [List.mem_map]
  constructor
  · rintro ⟨s, hs, e⟩
    obtain ⟨h1, h2⟩ := List.mem_filter.mp hs
    exact ⟨s, h1, of_decide_eq_true h2, e.symm⟩
  · rintro ⟨s, h1, h2, e⟩
    exact ⟨s, List.mem_filter.mpr ⟨h1, decide_eq_true h2⟩, e.symm⟩
/-- a set of the game's places from which one stays in the set: all last -/
theorem game_lasts {m : MD} (o : m.Ok) {M : Int} {ks : List Pl} (uni : ∀ p ∈ ks, Uni m.n M p) (go : ∀ p ∈ ks, ∃ q ∈ sucP M m p, q ∈ ks) : ∀ p ∈ ks, Lasts m p.1.toNat p.2 := fun p0 h0 => by
  have nx : ∀ p : {p // p ∈ ks}, ∃ q : {p // p ∈ ks}, ∃ s ∈ m.ss, (s.b : Int) = p.1.1 ∧ q.1 = ((s.e : Int), capN M p.1.2 s.g) := fun p => by
    obtain ⟨q, hq, hk⟩ := go p.1 p.2
    obtain ⟨s, hs, e1, e2⟩ := sucP_mem.mp hq
    exact ⟨⟨q, hk⟩, s, hs, e1, e2⟩
  let F : Nat → {p // p ∈ ks} := fun i => Nat.rec ⟨p0, h0⟩ (fun _ p => (nx p).choose) i
  have hF : ∀ i, ∃ s ∈ m.ss, (s.b : Int) = (F i).1.1 ∧ (F (i + 1)).1 = ((s.e : Int), capN M (F i).1.2 s.g) := fun i => (nx (F i)).choose_spec
  have f0 : (F 0).1 = p0 := rfl
  have walk : ∀ d i (c : Int), (F i).1.2 ≤ c → ∃ w : Wd, w.length = d ∧ Abv m (F i).1.1.toNat c w ∧ ∃ c', runW m ((F i).1.1.toNat, c) w = some ((F (i + d)).1.1.toNat, c') ∧ (F (i + d)).1.2 - (F i).1.2 ≤ c' - c := by
    intro d
    induction d with
    | zero =>
      intro i c hc
      obtain ⟨_, _, _, q0, _⟩ := uni _ (F i).2
      exact ⟨[], rfl, Int.le_trans q0 hc, c, rfl, by show (F i).1.2 - (F i).1.2 ≤ c - c; omega⟩
    | succ d ih =>
      intro i c hc
      obtain ⟨s, hs, e1, e2⟩ := hF i
      have l := (capN_le M (F i).1.2 s.g).1
      have t2 : (F (i + 1)).1.2 = capN M (F i).1.2 s.g := by rw [e2]
      have s2 : (F (i + 1)).1.1.toNat = s.e := by rw [e2]; rfl
      have sb : (F i).1.1.toNat = s.b := by rw [← e1]; rfl
      obtain ⟨w, lw, ab, c', r, q⟩ := ih (i + 1) (c + s.g) (by omega)
      obtain ⟨_, _, _, q0, _⟩ := uni _ (F i).2
      rw [s2] at ab r
      rw [sb]
      refine ⟨s.c :: w, by rw [List.length_cons, lw], ⟨by omega, s, stepOf_self o hs, ab⟩, c', ?_, ?_⟩
      · show (match stepOf m s.b s.c with | none => none | some x => runW m (x.e, c + x.g) w) = _
        rw [stepOf_self o hs, show i + (d + 1) = i + 1 + d by omega]
        exact r
      · rw [show i + (d + 1) = i + 1 + d by omega]
        omega
  have twice : ∃ i j, i < j ∧ (F i).1 = (F j).1 := by
    apply Classical.byContradiction
    intro no
    have nd : ((List.range (ks.length + 1)).map fun i => (F i).1).Nodup := by
      unfold List.Nodup
      rw [List.pairwise_map]
      refine List.pairwise_iff_getElem.mpr fun i j hi hj hij => ?_
      rw [List.getElem_range, List.getElem_range]
      exact fun e => no ⟨i, j, hij, e⟩
    have := nodup_sub nd (fun p hp => by
      obtain ⟨i, _, rfl⟩ := List.mem_map.mp hp
      exact (F i).2)
    rw [List.length_map, List.length_range] at this
    omega
  obtain ⟨i, j, hij, e⟩ := twice
  obtain ⟨u, lu, au, c1, r1, q1⟩ := walk i 0 p0.2 (by rw [f0]; exact Int.le_refl _)
  rw [Nat.zero_add, f0] at r1 q1
  rw [f0] at au
  obtain ⟨v, lv, av, c2, r2, q2⟩ := walk (j - i) i c1 (by omega)
  rw [show i + (j - i) = j by omega, ← e] at r2 q2
  exact ⟨u, v, fun z => by rw [z] at lv; simp at lv; omega, (abv_app _ _ _ _).mpr ⟨_, _, r1, au, av⟩, _, c1, c2, r1, r2, by omega⟩
/-- what the game has by and by: no place that lasts is gone -/
def Alive (m : MD) (M : Int) (ks : List Pl) : Prop := ks.Nodup ∧ (∀ p ∈ ks, Uni m.n M p) ∧ ∀ p, Uni m.n M p → Lasts m p.1.toNat p.2 → p ∈ ks
theorem Alive.drop {m : MD} (o : m.Ok) {M : Int} (hM : ∀ b y, ways m m.n b = some y → y.1 ≤ M) {ks : List Pl} (h : Alive m M ks) {p : Pl} (no : ∀ q ∈ sucP M m p, q ∉ ks) : Alive m M (ks.filter fun q => decide (q ≠ p)) := by
  refine ⟨h.1.filter _, fun q hq => h.2.1 q (List.mem_filter.mp hq).1, fun q uq lq => List.mem_filter.mpr ⟨h.2.2 q uq lq, decide_eq_true fun e => ?_⟩⟩
  subst e
  obtain ⟨b, hb, eb, t0, tM⟩ := uq
  rw [eb] at lq
  obtain ⟨_, s, hs, sb, g0, ls⟩ := lasts_step lq
  have se := (o.ok s hs).e
  obtain ⟨y, ey, ly⟩ := ways_least o se ls
  have yM := hM _ _ ey
  have lc : Lasts m s.e (capN M q.2 s.g) := (ways_iff o se).mpr ⟨y, ey, by unfold capN; split <;> omega⟩
  have c0 : 0 ≤ capN M q.2 s.g := by unfold capN; split <;> omega
  refine no ((s.e : Int), capN M q.2 s.g) (sucP_mem.mpr ⟨s, hs, by rw [sb, eb]; rfl, rfl⟩) (h.2.2 _ ⟨s.e, se, rfl, c0, (capN_le _ _ _).2⟩ lc)
def LivesOf (m : MD) (M : Int) (ks : List Pl) : Prop := ks.Nodup ∧ ∀ p, p ∈ ks ↔ Uni m.n M p ∧ Lasts m p.1.toNat p.2
theorem Alive.done {m : MD} (o : m.Ok) {M : Int} {ks : List Pl} (h : Alive m M ks) (go : ∀ p ∈ ks, ∃ q ∈ sucP M m p, q ∈ ks) : LivesOf m M ks :=
  ⟨h.1, fun p => ⟨fun hp => ⟨h.2.1 p hp, game_lasts o h.2.1 go p hp⟩, fun ⟨u, l⟩ => h.2.2 p u l⟩⟩
theorem dropK_skv (p : Pl) (s : List Pl) : dropK (skv s) (pk p) = skv (s.filter fun q => decide (q ≠ p)) := by
  unfold dropK skv
  rw [List.filter_map]
  congr 1
  refine List.filter_congr fun q _ => ?_
  show decide (pk q ≠ pk p) = decide (q ≠ p)
  rw [Bool.eq_iff_iff, decide_eq_true_iff, decide_eq_true_iff]
  exact ⟨fun h e => h (by rw [e]), fun h e => h (pk_inj e)⟩
theorem min_cap (M t g : Int) : (if t + g < M then t + g else M) = capN M t g := by
  unfold capN
  split <;> split <;> omega
theorem sucP_from {M : Int} {m : MD} (b : Nat) (t : Int) : sucP M m ((b : Int), t) = (fromS m b).map fun s => ((s.e : Int), capN M t s.g) := by
  unfold sucP fromS
  congr 1
  refine List.filter_congr fun s _ => ?_
  show decide ((s.b : Int) = (b : Int)) = (s.b == b)
  rw [Bool.eq_iff_iff, decide_eq_true_iff, beq_iff_eq]
  omega
/-- places at addresses -/
def PlsAt (H : Hp) (us : List V) (l : List Pl) : Prop := us.length = l.length ∧ ∀ (i : Nat) (p : Pl), l[i]? = some p → ∃ x, us[i]? = some (V.ref x) ∧ H x = some (.tup ((pk p).map kV))
theorem PlsAt.tups {H H' : Hp} {us : List V} {l : List Pl} (h : PlsAt H us l) (t : Tups H H') : PlsAt H' us l := ⟨h.1, fun i p e => let ⟨x, a, b⟩ := h.2 i p e; ⟨x, a, t.1 _ _ b⟩⟩
theorem PlsAt.nil {H : Hp} : PlsAt H [] [] := ⟨rfl, fun i p e => by simp at e⟩
theorem PlsAt.snoc {H : Hp} {us : List V} {l : List Pl} {x : Addr} {p : Pl} (h : PlsAt H us l) (hx : H x = some (.tup ((pk p).map kV))) : PlsAt H (us ++ [V.ref x]) (l ++ [p]) := by
  refine ⟨by rw [List.length_append, List.length_append, h.1]; rfl, fun i q e => ?_⟩
  by_cases c : i < l.length
  · rw [List.getElem?_append_left c] at e
    obtain ⟨a, e1, q1⟩ := h.2 i q e
    exact ⟨a, by rw [List.getElem?_append_left (by rw [h.1]; exact c)]; exact e1, q1⟩
  · rw [List.getElem?_append_right (by omega)] at e
    have z : i - l.length = 0 := by
      have := (List.getElem?_eq_some_iff.mp e).1
      simp at this
      omega
    rw [z] at e
    cases e
    exact ⟨x, by rw [List.getElem?_append_right (by rw [h.1]; omega), h.1, z]; rfl, hx⟩
theorem pls_keys {H : Hp} : ∀ {ks : List Pl} {bs : List Addr}, IsKeys H (skv ks) bs → PlsAt H (bs.map V.ref) ks
  | [], [], _ => PlsAt.nil
  | p :: ks, b :: bs, h => by
    cases h with
    | cons h1 h2 =>
      have q := pls_keys (ks := ks) h2
      refine ⟨by rw [List.length_map, List.length_cons, List.length_cons]; have := q.1; rw [List.length_map] at this; omega, fun i x e => ?_⟩
      cases i with
      | zero => cases e; exact ⟨b, rfl, h1⟩
      | succ i => exact q.2 i x e
def sp_lives (K : PySem.W.Frag) : Sp := fun vs H Q _ => ∃ (d : Addr) (m : MD) (M : Int), vs = [.ref d, .int M] ∧ DAt K H d m ∧ m.Ok ∧ 0 ≤ M ∧ M ≤ 200 ∧ (∀ b y, ways m m.n b = some y → y.1 ≤ M) ∧
  ∀ D ks H', Same H H' → H D = none → H' D = some (.dT (skv ks)) → LivesOf m M ks → Q (.ref D) H'
section
variable {P : Program} {w : World} {K : PySem.W.Frag} {mg : Str → Option Value} {base : Heap}
theorem ok_law_lives (T : Txt K mg) : FnOk P w K mg base (L2.CX P w) 2 T.a_law_lives T.fd_law_lives ["_law_d", "_law_most"] (sp_lives K) := by
  refine T.F_law_lives.okX sc_law_lives (fun vs H Q E h => ?_) (fun cdv A outer s H vs Q E hr h => ?_)
  · obtain ⟨d, m, M, rfl, _⟩ := h
    rfl
  · obtain ⟨d, m, M, rfl, hd, o, M0, M200, hM, k⟩ := h
    obtain ⟨td, ud, ed, _⟩ := id hd
    have n1 := o.n1
    have n8 := o.n8
    refine ⟨_, (PSs.nox (pss_cons (ps_set (i := 2) sc_law_lives.nd rfl (Or.inr rfl) pe_dnewT)
  (pss_cons (ps_for PassesOwn.never rfl (pi_range1 (by rfl) T.z_range (pa_cons (pe_dget (hu_of hr) (pv 0) pe_str (fun _ _ => rfl)) pa_nil)) (pg_name (i := 3) sc_law_lives.nd rfl (Or.inl rfl))
  (pss_one (ps_for PassesOwn.never rfl (pi_range1 (by rfl) T.z_range (pa_cons (pe_op op_add (pv 1) pe_int) pa_nil)) (pg_name (i := 4) sc_law_lives.nd rfl (Or.inr rfl))
  (pss_one (ps_dput (hu_of hr) (pv 2) (pe_tup (pa_cons (pv 3) (pa_cons (pv 4) pa_nil))) pe_bl rfl)))))
  (pss_cons (ps_set (i := 5) sc_law_lives.nd rfl (Or.inl rfl) pe_bl)
  (pss_cons (ps_while PassesOwn.never (pt_val (pv 5))
  (pss_cons (ps_set (i := 5) sc_law_lives.nd rfl (Or.inl rfl) pe_bl)
  (pss_one (ps_for PassesOwn.never rfl (pi_list (pe_callTy (call_list_dT rfl) (by rfl) T.z_list PySem.Pv.boot_list (pa_cons (pv 2) pa_nil))) (pg_tup rfl (pgs_cons (pg_name (i := 3) sc_law_lives.nd rfl (Or.inl rfl)) (pgs_cons (pg_name (i := 4) sc_law_lives.nd rfl (Or.inr rfl)) pgs_nil)))
  (pss_cons (ps_setLc (i := 6) (own := [("_law_letter", 7), ("_law_end", 8), ("_law_gain", 9)]) (g := (gTup K 3 (gCons (gName 7) (gCons (gName 8) (gCons (gName 9) gNil))))) (tt := tYes) rfl sc_law_lives.nd rfl rfl (sw_true rfl rfl rfl (by decide +kernel)) (pi_list (pe_call (ok_law_next T) (hr.mono (by decide)) (by rfl) T.m_law_next T.k_law_next T.b_law_next .nil passL (pa_cons (pv 0) (pa_cons (pv 3) pa_nil)))) (blkOk_by (own := [("_law_letter", 7), ("_law_end", 8), ("_law_gain", 9)]) (N := ["_law_d", "_law_most", "_law_alive", "_law_stand", "_law_tally", "_law_changed", "_law_some", "_law_letter", "_law_end", "_law_gain", "_law_place"]) (sc := defScope s_law_lives) (by decide +kernel)) (fun _ _ _ _ _ => (pg_tup rfl (pgs_cons (pg_name (i := 7) sc_law_lives.nd rfl (Or.inl rfl)) (pgs_cons (pg_name (i := 8) sc_law_lives.nd rfl (Or.inl rfl)) (pgs_cons (pg_name (i := 9) sc_law_lives.nd rfl (Or.inl rfl)) pgs_nil))))) (fun _ _ _ _ _ => pts_nil) (fun _ _ _ _ _ => (pe_tup (pa_cons (pv 8) (pa_cons (pe_callB (call_min2 rfl) (by rfl) T.z_min (by decide +kernel) (pa_cons (pv 1) (pa_cons (pe_op op_add (pv 4) (pv 9)) pa_nil))) pa_nil)))))
  (pss_one (ps_if (pt_not (pt_val (pe_callB (cr_any rfl) (by rfl) T.z_any (by decide +kernel) (pa_cons (pe_lc (own := [("_law_place", 10)]) (g := (gName 10)) (tt := tYes) rfl sc_law_lives.nd (pi_list (pv 6)) (blkOk_by (own := [("_law_place", 10)]) (N := ["_law_d", "_law_most", "_law_alive", "_law_stand", "_law_tally", "_law_changed", "_law_some", "_law_letter", "_law_end", "_law_gain", "_law_place"]) (sc := defScope s_law_lives) (by decide +kernel)) (fun _ _ _ _ _ => (pg_name (i := 10) sc_law_lives.nd rfl (Or.inl rfl))) (fun _ _ _ _ _ => pts_nil) (fun _ _ _ _ _ => (pe_cmp (pc_din (hu_of hr) (pv 10) (pv 2)) (by rfl)))) pa_nil))))
  (pss_cons (ps_expr (pe_bm PySem.F.plainAttrs_dict PySem.F.slot_dict_pop PySem.F.type_dict_pop (mt_popT1 (hu_of hr)) (pv 2) (pa_cons (pe_tup (pa_cons (pv 3) (pa_cons (pv 4) pa_nil))) pa_nil)))
  (pss_one (ps_set (i := 5) sc_law_lives.nd rfl (Or.inl rfl) pe_bl)))
  pss_nil)))))))
  (pss_one (ps_ret (pv 2)))))))), ?_⟩
    walk_at "begin"
    walk_at "go"
    intro D hD
    have zD := Same.new (o := .dT []) hD
    walk_at "go"
    refine ⟨d, .int (m.n : Nat), rfl, DGet.k (k := .inr "stands") (zD _ _ ed), ?_⟩
    walk_at "go"
    refine k_rg (by omega) (by omega) ?_
    refine for_range (lo := 0) (n := m.n) (fun i σ H' => ∃ ks a3 a4, Same H H' ∧ H' D = some (.dT (skv ks)) ∧ ks.Nodup ∧ ks.length ≤ i * 201 ∧ (∀ p, p ∈ ks ↔ Uni i M p) ∧ σ = [some (.ref d), some (.int M), some (.ref D), a3, a4, none, none, none, none, none, none])
      ⟨[], _, _, zD, upd_same, .nil, Nat.zero_le _, fun p => ⟨(fun h => by cases h), fun ⟨b, hb, _⟩ => absurd hb (Nat.not_lt_zero _)⟩, rfl⟩ ?_ ?_
    · rintro i σ H1 hi ⟨ks, a3, a4, z1, eD, nd, lk, mem, rfl⟩
      have hi : i < m.n := by omega
      rw [show (0 : Int) + ((i : Nat) : Int) = ((i : Nat) : Int) by omega]
      walk_at "go"
      refine k_rg (by omega) (by omega) ?_
      refine for_range (lo := 0) (n := (M + 1).toNat) (fun j σ H' => ∃ ks a4, Same H H' ∧ H' D = some (.dT (skv ks)) ∧ ks.Nodup ∧ ks.length ≤ i * 201 + j ∧ (∀ p, p ∈ ks ↔ Uni i M p ∨ (p.1 = (i : Int) ∧ 0 ≤ p.2 ∧ p.2 < (j : Int))) ∧ σ = [some (.ref d), some (.int M), some (.ref D), some (.int (i : Nat)), a4, none, none, none, none, none, none])
        ⟨ks, _, z1, eD, nd, by omega, fun p => (mem p).trans ⟨.inl, fun h => h.elim id fun w => by omega⟩, rfl⟩ ?_ ?_
      · clear nd lk mem eD z1
        rintro j σ H2 hj ⟨ks, a4, z2, eD, nd, lk, mem, rfl⟩
        rw [show (0 : Int) + ((j : Nat) : Int) = ((j : Nat) : Int) by omega]
        walk_at "go"
        refine ⟨(by decide : 2 ≤ sizeLine), fun b hb => ?_⟩
        have zb := Same.new (o := .tup [V.int (i : Nat), .int (j : Nat)]) hb
        have i8 : i * 201 ≤ 8 * 201 := Nat.mul_le_mul_right _ (by omega)
        have small : (skv ks).length < sizeLine := by
          unfold skv
          rw [List.length_map]
          exact Nat.lt_of_le_of_lt (show _ ≤ 2000 by omega) (by decide)
        have np : (((i : Nat) : Int), ((j : Nat) : Int)) ∉ ks := fun h => by
          rcases (mem _).mp h with ⟨b, hb, e, _⟩ | ⟨_, _, h⟩
          · have e : ((i : Nat) : Int) = (b : Int) := e
            omega
          · have h : ((j : Nat) : Int) < (j : Int) := h
            omega
        walk_at "go"
        refine ⟨D, _, rfl, DPut.t (k := pk (((i : Nat) : Int), ((j : Nat) : Int))) (zb _ _ eD) upd_same small, ?_⟩
        rw [putK_skv np]
        refine ⟨ks ++ [(((i : Nat) : Int), ((j : Nat) : Int))], _, Same.mut (z2.trans zb) hD, upd_same, List.nodup_append.mpr ⟨nd, by simp, fun a ha b hb z => np (by rw [← List.mem_singleton.mp hb, ← z]; exact ha)⟩, by rw [List.length_append, List.length_singleton]; omega, fun p => ?_, rfl⟩
        rw [List.mem_append, List.mem_singleton, mem]
        constructor
        · rintro ((h | ⟨h1, h2, h3⟩) | rfl)
          · exact .inl h
          · exact .inr ⟨h1, h2, by omega⟩
          · exact .inr ⟨rfl, Int.natCast_nonneg _, by show ((j : Nat) : Int) < ((j + 1 : Nat) : Int); omega⟩
        · rintro (h | ⟨h1, h2, h3⟩)
          · exact .inl (.inl h)
          · by_cases c : p.2 = (j : Int)
            · exact .inr (Prod.ext h1 c)
            · exact .inl (.inr ⟨h1, h2, by omega⟩)
      · rintro σ H2 ⟨ks, a4, z2, eD, nd, lk, mem, rfl⟩
        refine ⟨ks, _, _, z2, eD, nd, by omega, fun p => ?_, rfl⟩
        rw [mem]
        constructor
        · rintro (⟨b, hb, r⟩ | ⟨h1, h2, h3⟩)
          · exact ⟨b, by omega, r⟩
          · exact ⟨i, by omega, h1, h2, by omega⟩
        · rintro ⟨b, hb, e, h2, h3⟩
          by_cases c : b = i
          · exact .inr ⟨by rw [e, c], h2, by omega⟩
          · exact .inl ⟨b, by omega, e, h2, h3⟩
    · rintro σ H1 ⟨ks, a3, a4, z1, eD, nd, lk, mem, rfl⟩
      walk_at "go"
      have al : Alive m M ks := ⟨nd, fun p hp => (mem p).mp hp, fun p u _ => (mem p).mpr u⟩
      have lk2 : ks.length ≤ 2000 := by omega
      refine k_whl (fun q σ H' => ∃ ks ch a3 a4 a6, q = 2 * ks.length + (if ch = true then 1 else 0) ∧ Same H H' ∧ H' D = some (.dT (skv ks)) ∧ ks.length ≤ 2000 ∧ Alive m M ks ∧ (ch = false → ∀ p ∈ ks, ∃ q ∈ sucP M m p, q ∈ ks) ∧
        σ = [some (.ref d), some (.int M), some (.ref D), a3, a4, some (.bl ch), a6, none, none, none, none]) ⟨_, ks, true, _, _, _, rfl, z1, eD, lk2, al, (fun h => by cases h), rfl⟩ ?_ ?_
      · clear al lk lk2 nd mem eD z1 ks H1
        rintro q σ H1 ⟨ks, ch, a3, a4, a6, rfl, z1, eD, lk, al, go, rfl⟩
        walk_at "go"
        cases ch with
        | false =>
          refine iteF ?_
          walk_at "go"
          exact k D ks H1 z1 hD eD (al.done o (go rfl))
        | true =>
          refine iteT ?_
          clear go
          walk_at "go"
          refine ⟨D, skv ks, rfl, (.inl eD), fun L bs hL hbs => ?_⟩
          have pl := pls_keys hbs
          have zL := Same.new (o := .lst (bs.map V.ref)) hL
          have nLD : L ≠ D := (ne_of_none eD hL).symm
          have eL := upd_same (H := H1) (a := L) (o := .lst (bs.map V.ref))
          have eD2 := zL _ _ eD
          have z2 := z1.trans zL
          replace pl := pl.tups (same_tups zL)
          have hL0 := free_of z1 hL
          generalize upd H1 L (.lst (bs.map V.ref)) = H2 at eL eD2 z2 pl ⊢
          generalize bs.map V.ref = us at eL pl ⊢
          clear zL hL hbs eD z1 H1
          walk_at "go"
          obtain ⟨k0, ek0⟩ : ∃ z, z = ks := ⟨_, rfl⟩
          rw [← ek0] at pl
          refine ⟨L, rfl, ⟨_, SqL.of eL⟩, for_list (xs := us) (fun i σ H' => ∃ ks ch a3 a4 a6, Same H H' ∧ H' D = some (.dT (skv ks)) ∧ H' L = some (.lst us) ∧ PlsAt H' us k0 ∧ ks.length ≤ 2000 ∧ Alive m M ks ∧ (∀ j p, i ≤ j → k0[j]? = some p → p ∈ ks) ∧ (ch = true → ks.length < k0.length) ∧ (ch = false → ks = k0 ∧ ∀ j p, j < i → k0[j]? = some p → ∃ q ∈ sucP M m p, q ∈ k0) ∧
            σ = [some (.ref d), some (.int M), some (.ref D), a3, a4, some (.bl ch), a6, none, none, none, none])
            ⟨ks, false, _, _, _, z2, eD2, eL, pl, lk, al, (fun j p _ e => by rw [← ek0]; exact List.mem_of_getElem? e), (fun h => by cases h), (fun _ => ⟨ek0.symm, fun j p h => absurd h (Nat.not_lt_zero _)⟩), rfl⟩ (fun i σ H' _ ⟨_, _, _, _, _, _, _, e, _⟩ => SqL.of e) ?_ ?_⟩
          · have nd0 : k0.Nodup := by rw [ek0]; exact al.1
            have uni0 : ∀ p ∈ k0, Uni m.n M p := by rw [ek0]; exact al.2.1
            clear ek0 al lk pl z2 eD2 eL
            rintro i y σ H3 hy ⟨ks, ch, a3, a4, a6, z3, eD, eL, pl, lk, al, rest, c1, c0, rfl⟩
            have il : i < k0.length := by rw [← pl.1]; exact (List.getElem?_eq_some_iff.mp hy).1
            have ei : k0[i]? = some (k0[i]'il) := List.getElem?_eq_getElem il
            obtain ⟨x, ex, hx⟩ := pl.2 i _ ei
            rw [hy] at ex
            cases ex
            have hpk := rest i _ (Nat.le_refl _) ei
            have hp0 := List.mem_of_getElem? ei
            generalize k0[i]'il = p at hx ei hpk hp0
            obtain ⟨b, hb, epb, t0, tM⟩ := uni0 _ hp0
            have ep : p = ((b : Int), p.2) := Prod.ext epb rfl
            have hx : H3 x = some (.tup [.int (b : Nat), .int p.2]) := by rw [hx, ep]; rfl
            refine k_gt (SqT.of hx) rfl ?_
            walk_at "go"
            refine ⟨d, b, m, rfl, hd.same z3, o, fun pn ns H4 z4 hpn epn nx => ?_⟩
            walk_at "go"
            refine ⟨pn, rfl, ⟨_, SqL.of epn⟩, fun N hN => ?_⟩
            have ln : ns.length ≤ 32 := by rw [nx.1]; exact Nat.le_trans (List.length_filter_le _ _) o.len
            refine lc_list (xs := ns) (fun j H' => Same H4 H' ∧ ∃ ws, H' N = some (.lst ws) ∧ PlsAt H' ws (((fromS m b).take j).map fun s => ((s.e : Int), capN M p.2 s.g)) ∧ ws.length ≤ j) ⟨Same.new hN, [], upd_same, PlsAt.nil, Nat.le_refl _⟩ (fun j H' _ ⟨z, _⟩ => SqL.of (z _ _ epn)) ?_ ?_
            · rintro j y H5 hy5 ⟨z5, ws, eN, pw, lw⟩
              have jl : j < (fromS m b).length := by rw [← nx.1]; exact (List.getElem?_eq_some_iff.mp hy5).1
              have jn : j < ns.length := (List.getElem?_eq_some_iff.mp hy5).1
              have es : (fromS m b)[j]? = some ((fromS m b)[j]'jl) := List.getElem?_eq_getElem jl
              obtain ⟨q, eq, hq⟩ := (nx.tups (same_tups z5)).2 _ _ es
              rw [hy5] at eq
              cases eq
              rw [List.take_add_one, es, List.map_append]
              generalize (fromS m b)[j]'jl = s0 at hq
              refine k_gt hq rfl ?_
              unfold nxV
              walk_at "go"
              refine ⟨rfl, ?_⟩
              walk_at "go"
              refine iteT ?_
              walk_at "go"
              refine ⟨_, _, rfl, ?_⟩
              rw [min_cap]
              walk_at "go"
              refine ⟨(by decide : 2 ≤ sizeLine), fun r hr => ?_⟩
              have zr := Same.new (o := .tup [V.int (s0.e : Nat), .int (capN M p.2 s0.g)]) hr
              have eN2 := zr _ _ eN
              have nN : ∀ xs, (upd H5 r (.tup [V.int (s0.e : Nat), .int (capN M p.2 s0.g)])) N ≠ some (.tup xs) := fun xs e => by rw [eN2] at e; cases e
              refine ⟨ws, eN2, Nat.lt_of_le_of_lt (show ws.length ≤ 32 by omega) (by decide), Same.mut (z5.trans zr) hN, _, upd_same, ?_, by rw [List.length_append, List.length_singleton]; omega⟩
              exact ((pw.tups (same_tups zr)).snoc (p := ((s0.e : Int), capN M p.2 s0.g)) upd_same).tups (Tups.lst eN2)
            · rintro H5 ⟨z5, ws, eN, pw, lw⟩
              rw [nx.1, List.take_length] at pw
              rw [← sucP_from, ← ep] at pw
              have z45 := z4.trans z5
              have eD5 := z45 _ _ eD
              have eL5 := z45 _ _ eL
              have pl5 := pl.tups (same_tups z45)
              have zz5 := z3.trans z45
              clear nx epn hpn z4 z5 z45 hN z3 eD eL pl
              walk_at "go"
              refine ⟨N, rfl, ⟨_, SqL.of eN⟩, fun B hB => ?_⟩
              refine lc_list (xs := ws) (fun j H' => Same H5 H' ∧ H' B = some (.lst ((((sucP M m p).take j).map fun q => decide (q ∈ ks)).map V.bl))) ⟨Same.new hB, upd_same⟩ (fun j H' _ ⟨z, _⟩ => SqL.of (z _ _ eN)) ?_ ?_
              · rintro j y H6 hy6 ⟨z6, eB⟩
                have jl : j < (sucP M m p).length := by rw [← pw.1]; exact (List.getElem?_eq_some_iff.mp hy6).1
                have es : (sucP M m p)[j]? = some ((sucP M m p)[j]'jl) := List.getElem?_eq_getElem jl
                obtain ⟨q, eq, hq⟩ := (pw.tups (same_tups z6)).2 _ _ es
                rw [hy6] at eq
                cases eq
                rw [List.take_add_one, es, List.map_append, List.map_append]
                have l32 : j < 33 := by have := pw.1; omega
                generalize (sucP M m p)[j]'jl = q0 at hq
                walk_at "go"
                refine ⟨rfl, ?_⟩
                walk_at "go"
                refine iteT ?_
                walk_at "go"
                have dg := DGet.t (z6 _ _ eD5) hq
                rw [valV_skv] at dg
                refine ⟨D, _, rfl, dg, ?_⟩
                refine ⟨_, eB, ?_, Same.mut z6 hB, ?_⟩
                · rw [List.length_map, List.length_map, List.length_take]
                  exact Nat.lt_of_le_of_lt (show min j _ ≤ 100 by omega) (by decide)
                · rw [upd_same]
                  by_cases c : q0 ∈ ks
                  · rw [if_pos c]
                    show _ = some (HO.lst (_ ++ [V.bl (decide (q0 ∈ ks))]))
                    rw [decide_eq_true c]
                    rfl
                  · rw [if_neg c]
                    show _ = some (HO.lst (_ ++ [V.bl (decide (q0 ∈ ks))]))
                    rw [decide_eq_false c]
                    rfl
              · rintro H6 ⟨z6, eB⟩
                rw [pw.1, List.take_length] at eB
                have eD6 := z6 _ _ eD5
                have eL6 := z6 _ _ eL5
                have pl6 := pl5.tups (same_tups z6)
                have zz6 := zz5.trans z6
                clear z6 eD5 eL5 pl5 zz5 eN pw hB
                walk_at "go"
                refine ⟨B, _, rfl, SqL.of eB, ?_⟩
                walk_at "go"
                cases hany : ((sucP M m p).map fun q => decide (q ∈ ks)).any id with
                | true =>
                  refine iteF ?_
                  walk_at "go"
                  refine ⟨ks, ch, _, _, _, zz6, eD6, eL6, pl6, lk, al, (fun j q hj => rest j q (by omega)), c1, (fun hc => ?_), rfl⟩
                  obtain ⟨e0, h0⟩ := c0 hc
                  refine ⟨e0, fun j q hj ej => ?_⟩
                  by_cases cj : j = i
                  · rw [cj, ei] at ej
                    cases ej
                    obtain ⟨bq, hbq, hid⟩ := List.any_eq_true.mp hany
                    obtain ⟨q', hq', e'⟩ := List.mem_map.mp hbq
                    have hid : bq = true := hid
                    rw [hid] at e'
                    have e' := of_decide_eq_true e'
                    rw [e0] at e'
                    exact ⟨q', hq', e'⟩
                  · exact h0 j q (by omega) ej
                | false =>
                  refine iteT ?_
                  walk_at "go"
                  refine ⟨.inr (.inr (.inl ⟨rfl, .inr ⟨_, eD6⟩⟩)), ?_⟩
                  walk_at "go"
                  refine ⟨(by decide : 2 ≤ sizeLine), fun r hr => ?_⟩
                  have zr := Same.new (o := .tup [V.int (b : Nat), .int p.2]) hr
                  have er : (upd H6 r (.tup [V.int (b : Nat), .int p.2])) r = some (.tup ((pk p).map kV)) := by rw [upd_same, ep]; rfl
                  have eD7 := zr _ _ eD6
                  have eL7 := zr _ _ eL6
                  have pl7 := pl6.tups (same_tups zr)
                  have zz7 := zz6.trans zr
                  generalize upd H6 r (.tup [V.int (b : Nat), .int p.2]) = H7 at er eD7 eL7 pl7 zz7 ⊢
                  clear zr hr eD6 eL6 pl6 zz6
                  walk_at "go"
                  refine ⟨D, skv ks, pk p, r, .bl true, rfl, rfl, eD7, er, by rw [valV_skv, if_pos hpk], ?_⟩
                  rw [dropK_skv]
                  walk_at "go"
                  have al2 : Alive m M (ks.filter fun q => decide (q ≠ p)) := al.drop o hM fun q hq hk => by
                    have := List.any_eq_false.mp hany (decide (q ∈ ks)) (List.mem_map.mpr ⟨q, hq, rfl⟩)
                    exact this (decide_eq_true hk)
                  have less : (ks.filter fun q => decide (q ≠ p)).length < ks.length := by
                    refine List.length_filter_lt_length_iff_exists.mpr ⟨p, hpk, ?_⟩
                    simp
                  have le0 : ks.length ≤ k0.length := by
                    cases ch with
                    | true => exact Nat.le_of_lt (c1 rfl)
                    | false => rw [(c0 rfl).1]; exact Nat.le_refl _
                  refine ⟨_, true, _, _, _, Same.mut zz7 hD, upd_same, by rw [upd_ne nLD]; exact eL7, pl7.tups (Tups.dT eD7), by omega, al2, (fun j q hj ej => ?_), (fun _ => by omega), (fun h => by cases h), rfl⟩
                  refine List.mem_filter.mpr ⟨rest j q (by omega) ej, decide_eq_true fun e => ?_⟩
                  have e2 : k0[j]? = k0[i]? := by rw [ej, ei, e]
                  have jl2 : j < k0.length := (List.getElem?_eq_some_iff.mp ej).1
                  have := (List.getElem?_inj jl2 nd0).mp e2
                  omega
          · rintro σ H3 ⟨ks2, ch, a3, a4, a6, z3, eD, eL, pl2, lk2, al2, rest, c1, c0, rfl⟩
            rw [pl2.1] at c0
            have lk0 : k0.length = ks.length := by rw [ek0]
            cases ch with
            | true =>
              have := c1 rfl
              exact ⟨2 * ks2.length + 1, by show 2 * ks2.length + 1 < 2 * ks.length + 1; omega, ks2, true, _, _, _, rfl, z3, eD, lk2, al2, (fun h => by cases h), rfl⟩
            | false =>
              obtain ⟨e0, h0⟩ := c0 rfl
              refine ⟨2 * ks2.length, ?_, ks2, false, _, _, _, rfl, z3, eD, lk2, al2, (fun _ p hp => ?_), rfl⟩
              · show 2 * ks2.length < 2 * ks.length + 1
                rw [e0]
                omega
              · obtain ⟨j, hj⟩ := List.getElem?_of_mem (show p ∈ k0 by rw [← e0]; exact hp)
                obtain ⟨q, h1, h2⟩ := h0 j p (List.getElem?_eq_some_iff.mp hj).1 hj
                exact ⟨q, h1, by rw [e0]; exact h2⟩
      · rintro σ H R R' hR ⟨v, e, kk, ek, q⟩
        exact ⟨v, e, kk, ek, hR _ _ q⟩
end
/-! ### all gains so many times as great -/
def sclS (k : Int) (s : Stp) : Stp := ⟨s.b, s.c, s.e, s.g * k⟩
def sclM (k : Int) (m : MD) : MD := ⟨m.n, m.ss.map (sclS k), m.es⟩
theorem scl_step (k : Int) (m : MD) (b c : Nat) : stepOf (sclM k m) b c = (stepOf m b c).map (sclS k) := by
  unfold stepOf sclM
  rw [List.find?_map]
  rfl
theorem scl_run (k : Int) (m : MD) : ∀ (w : Wd) (b : Nat) (c : Int), runW (sclM k m) (b, c * k) w = (runW m (b, c) w).map fun q => (q.1, q.2 * k)
  | [], b, c => rfl
  | a :: w, b, c => by
    show (match stepOf (sclM k m) b a with | none => none | some x => runW (sclM k m) (x.e, c * k + x.g) w) = Option.map _ (match stepOf m b a with | none => none | some x => runW m (x.e, c + x.g) w)
    rw [scl_step]
    cases stepOf m b a with
    | none => rfl
    | some s =>
      show runW (sclM k m) (s.e, c * k + s.g * k) w = _
      rw [← Int.add_mul]
      exact scl_run k m w s.e (c + s.g)
theorem scl_last {k : Int} (k0 : 0 < k) {m : MD} {b : Nat} {c : Int} {u v : Wd} (h : LastW m b c u v) : LastW (sclM k m) b (c * k) u v := by
  obtain ⟨n, t, t', e1, e2, le⟩ := h.lp
  refine ⟨h.ne, abv_takes.mpr fun j hj => ?_, n, t * k, t' * k, by rw [scl_run, e1]; rfl, by rw [scl_run, e2]; rfl, Int.mul_le_mul_of_nonneg_right le (Int.le_of_lt k0)⟩
  obtain ⟨s, x, e, q⟩ := abv_takes.mp h.abv j hj
  exact ⟨s, x * k, by rw [scl_run, e]; rfl, Int.mul_nonneg q (Int.le_of_lt k0)⟩
theorem last_scl {k : Int} (k0 : 0 < k) {m : MD} {b : Nat} {c : Int} {u v : Wd} (h : LastW (sclM k m) b c u v) : LastW m b (c / k) u v := by
  have un : ∀ (w : Wd) (b : Nat) (c : Int) (n : Nat) (t : Int), runW (sclM k m) (b, c) w = some (n, t) → ∃ x, runW m (b, 0) w = some (n, x) ∧ t = c + x * k := fun w b c n t e => by
    have e0 := runW_at e (0 * k)
    rw [scl_run] at e0
    cases q : runW m (b, 0) w with
    | none => rw [q] at e0; cases e0
    | some p =>
      rw [q] at e0
      have e1 := Option.some.inj e0
      have e2 : p.1 = n := (Prod.mk.inj e1).1
      have e3 : p.2 * k = t + (0 * k - c) := (Prod.mk.inj e1).2
      rw [Int.zero_mul] at e3
      exact ⟨p.2, by rw [← e2], by omega⟩
  obtain ⟨n, t, t', e1, e2, le⟩ := h.lp
  obtain ⟨x, a1, a2⟩ := un _ _ _ _ _ e1
  obtain ⟨y, b1, b2⟩ := un _ _ _ _ _ e2
  have y0 : 0 ≤ y := by
    apply Classical.byContradiction
    intro no
    have : y * k < 0 := Int.mul_neg_of_neg_of_pos (by omega) k0
    omega
  refine ⟨h.ne, abv_takes.mpr fun j hj => ?_, n, x + (c / k - 0), y + (x + (c / k - 0) - 0), runW_at a1 _, runW_at b1 _, by omega⟩
  obtain ⟨s, z, e, q⟩ := abv_takes.mp h.abv j hj
  obtain ⟨p, c1, c2⟩ := un _ _ _ _ _ e
  refine ⟨s, _, runW_at c1 _, ?_⟩
  have : 0 ≤ (c + p * k) / k := Int.ediv_nonneg (by omega) (Int.le_of_lt k0)
  rw [Int.add_mul_ediv_right _ _ (by omega)] at this
  omega
def dueW (k : Int) : Option WV → V
  | none => .non
  | some y => .int (y.1 * k)
theorem scl_cred {k : Int} (k0 : 0 < k) {m : MD} (o : m.Ok) (o' : (sclM k m).Ok) : credV (ways (sclM k m) m.n 0) = dueW k (ways m m.n 0) := by
  have n1 : 0 < m.n := by have := o.n1; omega
  cases e : ways m m.n 0 with
  | none =>
    cases e' : ways (sclM k m) m.n 0 with
    | none => rfl
    | some y' =>
      obtain ⟨y, ey, _⟩ := ways_least o n1 ⟨_, _, last_scl k0 (ways_true o' _ _ _ e').last⟩
      rw [e] at ey
      cases ey
  | some y =>
    obtain ⟨y', e', l⟩ := ways_least o' (show 0 < (sclM k m).n from n1) ⟨_, _, scl_last k0 (ways_true o _ _ _ e).last⟩
    have e' : ways (sclM k m) m.n 0 = some y' := e'
    obtain ⟨y2, ey2, l2⟩ := ways_least o n1 ⟨_, _, last_scl k0 (ways_true o' _ _ _ e').last⟩
    rw [e] at ey2
    cases ey2
    rw [e']
    show V.int y'.1 = V.int (y.1 * k)
    have := Int.ediv_mul_le y'.1 (show k ≠ 0 by omega)
    have : y.1 * k ≤ y'.1 / k * k := Int.mul_le_mul_of_nonneg_right l2 (Int.le_of_lt k0)
    congr 1
    omega
/-- what is due behind some of the tallies, from the greatest on -/
def dueI (M k : Int) (i : Nat) : Option WV → V
  | none => .non
  | some y => if i = 0 then .non else .int ((if y.1 < M + 1 - (i : Int) then M + 1 - (i : Int) else y.1) * k)
theorem k_rng3 {ta : TA} {σ : L2.St} {H : Hp} {R : It → Hp → Prop} (h : ta σ H fun vs H1 => ∃ (i j c : Int) (n : Nat), vs = [.int i, .int j, .int c] ∧ RgC i j c n ∧ R (Itc i c n) H1) : iRng3 ta σ H R := h
def sp_law (K : PySem.W.Frag) : Sp := fun vs H Q _ => ∃ (sc : Addr) (ns : List Int), vs = [.ref sc] ∧ ScAt K H sc (ns.map V.int) ∧ ns.length ≤ 63 ∧ ∀ H', Q (.bl true) H'
section
variable {P : Program} {w : World} {K : PySem.W.Frag} {mg : Str → Option Value} {base : Heap}
theorem ok_law (T : Txt K mg) : FnOk P w K mg base (L2.CX P w) 30 T.a_law T.fd_law ["_law_script"] (sp_law K) := by
  refine T.F_law.okX sc_law (fun vs H Q E h => ?_) (fun cdv A outer s H vs Q E hr h => ?_)
  · obtain ⟨sc, ns, rfl, _⟩ := h
    rfl
  · obtain ⟨sc, ns, rfl, hsc, hns, k⟩ := h
    refine ⟨_, (PSs.nox (pss_cons (ps_set (i := 1) sc_law.nd rfl (Or.inl rfl) (pe_lst (pa_cons (pv 0) (pa_cons pe_int (pa_cons pe_int (pa_cons pe_int pa_nil))))))
  (pss_cons (ps_set (i := 2) sc_law.nd rfl (Or.inl rfl) (pe_ix ix_list (pe_lst (pa_cons pe_int (pa_cons pe_int pa_nil))) (pe_callTy call_int1 (by rfl) T.z_int PySem.Pv.boot_int (pa_cons (pe_cmpR op_eq (pe_call (ok_law_taken T) (hr.mono (by decide)) (by rfl) T.m_law_taken T.k_law_taken T.b_law_taken .nil passL (pa_cons (pv 1) (pa_cons pe_int pa_nil))) pe_int (nomark _)) pa_nil)) (fun _ _ => rfl)))
  (C8.pss_cut (ps_asg (pe_tup (pa_cons (pe_call (ok_law_parts T) (hr.mono (by decide)) (by rfl) T.m_law_parts T.k_law_parts T.b_law_parts .nil passL (pa_cons (pv 1) (pa_cons (pe_ifExp (pt_cmpR op_eq (pv 2) pe_int (nomark _)) pe_int pe_int) (pa_cons pe_int pa_nil)))) (pa_cons (pe_ix ix_list (pe_lst (pa_cons pe_int (pa_cons (pe_op op_mulW pe_int (pe_op op_pow pe_int pe_int)) pa_nil))) (pe_call (ok_law_taken T) (hr.mono (by decide)) (by rfl) T.m_law_taken T.k_law_taken T.b_law_taken .nil passL (pa_cons (pv 1) (pa_cons pe_int pa_nil))) (fun _ _ => rfl)) pa_nil))) (pg_tup rfl (pgs_cons (pg_name (i := 3) sc_law.nd rfl (Or.inl rfl)) (pgs_cons (pg_name (i := 4) sc_law.nd rfl (Or.inr rfl)) pgs_nil))))
  (pss_cons (ps_par (i := 5) (j := 6) (by rfl) sc_law.nd rfl rfl (by decide) rfl rfl (pa_cons (pe_call (ok_law_lives T) (hr.mono (by decide)) (by rfl) T.m_law_lives T.k_law_lives T.b_law_lives .nil passL (pa_cons (pv 3) (pa_cons (pv 2) pa_nil))) (pa_cons pe_non pa_nil)) (by rfl))
  (pss_cons (ps_for PassesOwn.never rfl (pi_range3 (by rfl) T.z_range (pa_cons (pv 2) (pa_cons (pe_un un_neg pe_int) (pa_cons (pe_un un_neg pe_int) pa_nil)))) (pg_name (i := 7) sc_law.nd rfl (Or.inl rfl))
  (pss_one (ps_if (pt_cmp (pc_din (hu_of hr) (pe_tup (pa_cons pe_int (pa_cons (pv 7) pa_nil))) (pv 5)) (by rfl))
  (pss_one (ps_set (i := 6) sc_law.nd rfl (Or.inl rfl) (pe_op op_mulW (pv 7) (pv 4))))
  pss_nil)))
  (pss_cons (ps_set (i := 8) sc_law.nd rfl (Or.inl rfl) (pe_callTy call_tuple_of (by rfl) T.z_tuple PySem.Pv.boot_tuple (pa_cons (pe_lc (own := [("_law_begun", 11), ("_law_letter", 12), ("_law_end", 13), ("_law_gain", 14)]) (g := (gTup K 4 (gCons (gName 11) (gCons (gName 12) (gCons (gName 13) (gCons (gName 14) gNil)))))) (tt := tYes) rfl sc_law.nd (pi_tup (pe_dget (hu_of hr) (pv 3) pe_str (fun _ _ => rfl))) (blkOk_by (own := [("_law_begun", 11), ("_law_letter", 12), ("_law_end", 13), ("_law_gain", 14)]) (N := ["_law_script", "_law_row", "_law_most", "_law_d", "_law_by", "_law_alive", "_law_due", "_law_tally", "_law_steps", "_law_machine", "_law_told", "_law_begun", "_law_letter", "_law_end", "_law_gain"]) (sc := defScope s_law) (by decide +kernel)) (fun _ _ _ _ _ => (pg_tup rfl (pgs_cons (pg_name (i := 11) sc_law.nd rfl (Or.inl rfl)) (pgs_cons (pg_name (i := 12) sc_law.nd rfl (Or.inl rfl)) (pgs_cons (pg_name (i := 13) sc_law.nd rfl (Or.inl rfl)) (pgs_cons (pg_name (i := 14) sc_law.nd rfl (Or.inl rfl)) pgs_nil)))))) (fun _ _ _ _ _ => pts_nil) (fun _ _ _ _ _ => (pe_tup (pa_cons (pv 11) (pa_cons (pv 12) (pa_cons (pv 13) (pa_cons (pe_op op_mulW (pv 14) (pv 4)) pa_nil))))))) pa_nil)))
  (pss_cons (ps_set (i := 9) sc_law.nd rfl (Or.inl rfl) (pe_make T.mk_Machine (ok_Machine_init T) (hr.mono (by decide)) (by rfl) T.m_Machine T.b_Machine_init .nil passL (pa_cons (pe_dget (hu_of hr) (pv 3) pe_str (fun _ _ => rfl)) (pa_cons (pv 8) (pa_cons (pe_dget (hu_of hr) (pv 3) pe_str (fun _ _ => rfl)) pa_nil)))))
  (pss_cons (ps_set (i := 10) sc_law.nd rfl (Or.inl rfl) (pe_call (ok_lasting T) (hr.mono (by decide)) (by rfl) T.m_lasting T.k_lasting T.b_lasting .nil passL (pa_cons (pv 9) pa_nil)))
  (pss_one (ps_ret (pe_and (pe_cmpR op_eq (pe_call (ok_credit T) (hr.mono (by decide)) (by rfl) T.m_credit T.k_credit T.b_credit .nil passL (pa_cons (pv 9) pa_nil)) (pv 6) (nomark _)) (pe_and (pe_cmpR op_eq (pe_cmp (pc_isN (pv 10))) (pe_cmp (pc_isN (pv 6))) (nomark _)) (pe_one (pe_or (pe_cmp (pc_isN (pv 10))) (pe_one (pe_cmpR op_eq (pe_ix ix_tup (pv 10) pe_int (fun _ _ => rfl)) (pv 6) (nomark _)))))))))))))))))), ?_⟩
    walk_at "begin"
    walk_at "go"
    refine ⟨(by decide : 4 ≤ sizeLine), fun a ha => ?_⟩
    have R1 : RowOk K (upd H a (.lst [.ref sc, .int 0, .int 213, .int 0])) a := ⟨sc, ns, 0, 213, 0, upd_same, hsc.same (Same.new ha), hns, by decide, by decide, by decide⟩
    generalize upd H a (.lst [.ref sc, .int 0, .int 213, .int 0]) = H1 at R1 ⊢
    walk_at "go"
    refine ⟨(by decide : 2 ≤ sizeLine), fun p1 hp1 => ?_⟩
    have n1 := R1.ne hp1
    have R2 := R1.same (Same.new (o := .lst [V.int 40, .int 100]) hp1)
    walk_at "go"
    refine ⟨a, 3, rfl, by decide, by decide, R2, fun y1 H2 y10 y12 R3 K2 => ?_⟩
    have e1 : H2 p1 = some (.lst [V.int 40, .int 100]) := K2 _ _ n1.symm upd_same
    walk_at "go"
    obtain ⟨M, eM, hM, st, sM, s18, sb⟩ : ∃ M : Int, atI [V.int 40, .int 100] (if decide (y1 = 0) = true then 1 else 0) = some (.int M) ∧ 0 ≤ M ∧ ∃ st : Nat, (M ≤ 200) ∧ (1 ≤ st ∧ st ≤ 8) ∧ (if decide (V.int M = V.int 40) = true then st = 4 else st = 8) ∧ (st : Int) * 5 ≤ M := by
      by_cases c : y1 = 0
      · rw [decide_eq_true c]
        exact ⟨100, rfl, by decide, 8, by decide, by decide, by decide, by decide⟩
      · rw [decide_eq_false c]
        exact ⟨40, rfl, by decide, 4, by decide, by decide, by decide, by decide⟩
    have ey : decide (V.int y1 = V.int 0) = decide (y1 = 0) := by rw [dec_int, Bool.eq_iff_iff, decide_eq_true_iff]
    rw [ey]
    refine .inr ⟨_, rfl, ?_⟩
    show rIxL K (.ref p1) (.int (if decide (y1 = 0) = true then 1 else 0)) _ _
    refine k_ixL (SqL.of e1) eM ?_
    clear e1 K2 R2 R1 n1 ey eM
    walk_at "go"
    refine k_cut (fun σ' H' => ∃ d m by', DAt K H' d m ∧ m.Ok ∧ (∀ s ∈ m.ss, -5 ≤ s.g ∧ s.g ≤ 5) ∧ (m.n : Int) * 5 ≤ M ∧ (by' = 1 ∨ by' = 3 * 10 ^ 28) ∧
      σ' = [some (.ref sc), some (.ref a), some (.int M), some (.ref d), some (.int by'), none, none, none, none, none, none, none, none, none, none]) ?_ ?_
    · walk_at "go"
      refine k_bool (fun c => ?_) (fun c => ?_)
      all_goals
        rw [c] at sb
        walk_at "go"
        obtain ⟨est, s5⟩ := sb
        have est : st = _ := est
        rw [est] at s5
        first
          | refine ⟨a, 4, 2, rfl, by decide, by decide, by decide, by decide, R3, fun d m H4 o hst hg hd R6 K4 hd0 => ?_⟩
          | refine ⟨a, 8, 2, rfl, by decide, by decide, by decide, by decide, R3, fun d m H4 o hst hg hd R6 K4 hd0 => ?_⟩
        walk_at "go"
        refine k_I ⟨by decide, by decide, by decide⟩ ?_
        walk_at "go"
        refine k_I (wide_mul (a := 2) (b := 94) (by decide) (by decide) (by decide) (by decide) (by decide)) ?_
        walk_at "go"
        refine ⟨(by decide : 2 ≤ sizeLine), fun p2 hp2 => ?_⟩
        have n2 := R6.ne hp2
        have z2 := Same.new (o := .lst [V.int 1, .int (3 * 10 ^ Int.toNat 28)]) hp2
        have e2 := upd_same (H := H4) (a := p2) (o := .lst [V.int 1, .int (3 * 10 ^ Int.toNat 28)])
        have R7 := R6.same z2
        have hd := hd.same z2
        generalize upd H4 p2 (.lst [V.int 1, .int (3 * 10 ^ Int.toNat 28)]) = H5 at e2 R7 hd ⊢
        walk_at "go"
        refine ⟨a, 2, rfl, by decide, by decide, R7, fun y2 H6 y20 y22 R8 K6 => ?_⟩
        obtain ⟨l7, e7⟩ := R7.lst
        have hd := hd.keep K6 e7
        have e2 := K6 _ _ n2.symm e2
        obtain ⟨by', eb, hb⟩ : ∃ by' : Int, atI [V.int 1, .int (3 * 10 ^ Int.toNat 28)] y2 = some (.int by') ∧ (by' = 1 ∨ by' = 3 * 10 ^ 28) := by
          have : y2 = 0 ∨ y2 = 1 := by omega
          rcases this with rfl | rfl
          · exact ⟨1, rfl, .inl rfl⟩
          · exact ⟨_, rfl, .inr rfl⟩
        refine k_ixL (SqL.of e2) eb ?_
        walk_at "go"
        refine ⟨(by decide : 2 ≤ sizeLine), fun p3 hp3 => ?_⟩
        refine k_gt (SqT.of upd_same) rfl ?_
        walk_at "go"
        exact ⟨d, m, by', hd.same (Same.new hp3), o, fun s hs => by have := hg s hs; omega, by omega, hb, rfl⟩
    clear sb s18 st R3
    rintro σ' H4 ⟨d, m, kb, hd, o, hg, n5, hb, rfl⟩
    have k0 : 0 < kb := by rcases hb with rfl | rfl <;> decide
    have kb94 : kb.natAbs < 2 ^ 95 := by rcases hb with rfl | rfl <;> decide
    have n8 := o.n8
    have hMw : ∀ b y, ways m m.n b = some y → y.1 ≤ M := fun b y e => by
      have := ways_bound o (G := 5) (by decide) (fun s hs => (hg s hs).1) _ _ _ e
      omega
    walk_at "go"
    refine ⟨d, m, M, rfl, hd, o, hM, sM, hMw, fun D ks H5 z5 hD eD lv => ?_⟩
    walk_at "go"
    have inK : ∀ t : Int, 0 ≤ t → t ≤ M → (((0 : Int), t) ∈ ks ↔ ∃ y, ways m m.n 0 = some y ∧ y.1 ≤ t) := fun t t0 tM => by
      rw [lv.2]
      have n0 : 0 < m.n := by have := o.n1; omega
      exact ⟨fun h => (ways_iff o n0).mp h.2, fun h => ⟨⟨0, n0, rfl, t0, tM⟩, (ways_iff o n0).mpr h⟩⟩
    refine k_rng3 ?_
    walk_at "go"
    refine ⟨_, _, _, _, rfl, RgC.neg (by omega) (by omega) (by decide) (by decide), ?_⟩
    refine for_rangeC (lo := M) (c := -1) (n := (M - -1).toNat) (fun i σ H' => ∃ a7, Same H5 H' ∧ σ = [some (.ref sc), some (.ref a), some (.int M), some (.ref d), some (.int kb), some (.ref D), some (dueI M kb i (ways m m.n 0)), a7, none, none, none, none, none, none, none])
      ⟨_, Same.refl _, by cases ways m m.n 0 <;> rfl⟩ ?_ ?_
    · rintro i σ H6 hi ⟨a7, z6, rfl⟩
      have et : M + ((i : Nat) : Int) * -1 = M - i := by omega
      rw [et]
      walk_at "go"
      refine ⟨(by decide : 2 ≤ sizeLine), fun b hb => ?_⟩
      have zb := Same.new (o := .tup [V.int 0, .int (M - i)]) hb
      walk_at "go"
      have dg := DGet.t (k := pk ((0 : Int), M - i)) (zb _ _ (z6 _ _ eD)) upd_same
      rw [valV_skv] at dg
      refine ⟨D, _, rfl, dg, ?_⟩
      walk_at "go"
      by_cases c : ((0 : Int), M - (i : Int)) ∈ ks
      · rw [if_pos c]
        refine iteT ?_
        walk_at "go"
        refine k_I (wide_mul (a := 64) (b := 95) (by omega) kb94 (by decide) (by decide) (by decide)) ?_
        walk_at "go"
        obtain ⟨y, ey, ly⟩ := (inK (M - i) (by omega) (by omega)).mp c
        have e : dueI M kb (i + 1) (some y) = V.int ((M - i) * kb) := by
          show (if i + 1 = 0 then V.non else .int ((if y.1 < M + 1 - ((i + 1 : Nat) : Int) then M + 1 - ((i + 1 : Nat) : Int) else y.1) * kb)) = _
          rw [if_neg (by omega)]
          have : (if y.1 < M + 1 - ((i + 1 : Nat) : Int) then M + 1 - ((i + 1 : Nat) : Int) else y.1) = M - i := by split <;> omega
          rw [this]
        refine ⟨some (.int (M - i)), z6.trans zb, ?_⟩
        rw [ey, e]
        rfl
      · rw [if_neg c]
        refine iteF ?_
        walk_at "go"
        refine ⟨some (.int (M - i)), z6.trans zb, ?_⟩
        cases ey : ways m m.n 0 with
        | none => rfl
        | some y =>
          have ny : ¬ y.1 ≤ M - i := fun h => c ((inK (M - i) (by omega) (by omega)).mpr ⟨y, ey, h⟩)
          have yM := hMw _ _ ey
          have i0 : i ≠ 0 := fun e => ny (by rw [e]; simpa using yM)
          have e : dueI M kb i (some y) = dueI M kb (i + 1) (some y) := by
            show (if i = 0 then V.non else .int ((if y.1 < M + 1 - ((i : Nat) : Int) then M + 1 - ((i : Nat) : Int) else y.1) * kb)) = if i + 1 = 0 then V.non else .int ((if y.1 < M + 1 - ((i + 1 : Nat) : Int) then M + 1 - ((i + 1 : Nat) : Int) else y.1) * kb)
            rw [if_neg i0, if_neg (by omega), if_neg (by omega), if_neg (by omega)]
          rw [e]
          rfl
    rintro σ H6 ⟨a7, z6, rfl⟩
    have ed : dueI M kb (M - -1).toNat (ways m m.n 0) = dueW kb (ways m m.n 0) := by
      cases ey : ways m m.n 0 with
      | none => rfl
      | some y =>
        have y0 := (ways_true o _ _ _ ey).last.abv.nn
        show (if (M - -1).toNat = 0 then V.non else .int ((if y.1 < M + 1 - (((M - -1).toNat : Nat) : Int) then M + 1 - (((M - -1).toNat : Nat) : Int) else y.1) * kb)) = .int (y.1 * kb)
        rw [if_neg (by omega), if_neg (by omega)]
    rw [ed]
    have hd := hd.same (z5.trans z6)
    clear ed inK eD lv z5 z6
    obtain ⟨t, u, edd, ⟨us, ht, hs⟩, hu⟩ := id hd
    walk_at "go"
    refine ⟨d, .ref t, rfl, DGet.k (k := .inr "steps") edd, t, rfl, ⟨us, ht⟩, fun N hN => ?_⟩
    have len32 := o.len
    refine lc_tup (xs := us) (fun i H' => Same H6 H' ∧ ∃ ws, H' N = some (.lst ws) ∧ StpsAt K H' ws ((m.ss.take i).map (sclS kb)) ∧ ws.length ≤ i) ⟨Same.new hN, [], upd_same, ⟨rfl, fun i s e => by simp at e⟩, Nat.le_refl _⟩ (fun i H' _ ⟨z, _⟩ => (same_tups z).sq ht) ?_ ?_
    · rintro i y H7 hy ⟨z7, ws, eN, sw, lw⟩
      have il : i < m.ss.length := by rw [← hs.1]; exact (List.getElem?_eq_some_iff.mp hy).1
      have ei : m.ss[i]? = some (m.ss[i]'il) := List.getElem?_eq_getElem il
      obtain ⟨q, eq, hq⟩ := hs.2 i _ ei
      rw [hy] at eq
      cases eq
      have gs := hg _ (List.getElem_mem il)
      rw [List.take_add_one, ei, List.map_append]
      generalize m.ss[i]'il = s0 at hq gs
      refine k_gt ((same_tups z7).sq hq) rfl ?_
      unfold stpV
      walk_at "go"
      refine ⟨rfl, ?_⟩
      walk_at "go"
      refine iteT ?_
      walk_at "go"
      refine k_I (wide_mul (a := 64) (b := 95) (by omega) kb94 (by decide) (by decide) (by decide)) ?_
      walk_at "go"
      refine ⟨(by decide : 4 ≤ sizeLine), fun r hr => ?_⟩
      have zr := Same.new (o := .tup [V.int (s0.b : Nat), .str ⟨#[s0.c]⟩, .int (s0.e : Nat), .int (s0.g * kb)]) hr
      have eN2 := zr _ _ eN
      refine ⟨ws, eN2, Nat.lt_of_le_of_lt (show ws.length ≤ 32 by omega) (by decide), Same.mut (z7.trans zr) hN, _, upd_same, ?_, by rw [List.length_append, List.length_singleton]; omega⟩
      exact ((Tups.new hr).steps sw |>.snoc (s := sclS kb s0) (SqT.of upd_same)) |> (Tups.lst eN2).steps
    rintro H7 ⟨z7, ws, eN, sw, lw⟩
    rw [hs.1, List.take_length] at sw
    walk_at "go"
    refine ⟨N, _, rfl, .inl ⟨SqL.of eN, fun ts hts => ?_⟩⟩
    have zt := Same.new (o := .tup ws) hts
    have hp : PartsAt K (upd H7 ts (.tup ws)) ts u (sclM kb m) := ⟨⟨ws, SqT.of upd_same, (same_tups zt).steps sw⟩, (same_tups (z7.trans zt)).sq hu⟩
    have edd := (z7.trans zt) _ _ edd
    generalize upd H7 ts (.tup ws) = H8 at hp edd ⊢
    have o' : (sclM kb m).Ok := by
      refine ⟨o.n1, o.n8, fun s hs => ?_, ?_, by show (m.ss.map (sclS kb)).length ≤ 32; rw [List.length_map]; exact o.len, o.eb, o.eu, o.el⟩
      · obtain ⟨s0, h0, rfl⟩ := List.mem_map.mp hs
        have q := o.ok s0 h0
        have g0 := hg s0 h0
        have : -(10 ^ 30) ≤ s0.g * kb ∧ s0.g * kb ≤ 10 ^ 30 := by
          rcases hb with rfl | rfl <;> omega
        exact ⟨q.b, q.c, q.c', q.e, this.1, this.2⟩
      · show (m.ss.map (sclS kb)).Pairwise Stp.lt
        rw [List.pairwise_map]
        exact o.up
    clear sw eN z7 zt hts hN lw
    walk_at "go"
    refine ⟨d, .int (m.n : Nat), rfl, DGet.k (k := .inr "stands") edd, ?_⟩
    walk_at "go"
    refine ⟨d, .ref u, rfl, DGet.k (k := .inr "ends") edd, ?_⟩
    walk_at "go"
    intro x dx hx hdx ne
    refine ⟨x, dx, ts, u, sclM kb m, rfl, upd_same, (same_tups ((Same.new hdx).trans (Same.new ?_))).parts hp, o', fun H' z e => ⟨rfl, ?_⟩⟩
    · rw [upd_ne ne.symm]; exact hx
    have zz : Same H8 H' := fun b ob eb => z b ob (ne_of_none eb hx) (by rw [upd_ne (ne_of_none eb hx), upd_ne (ne_of_none eb hdx)]; exact eb)
    have hm1 : MAt K T.c_Machine H' x (sclM kb m) := ⟨dx, ts, u, e, (same_tups zz).parts hp⟩
    have sc := scl_cred k0 o o'
    walk_at "go"
    refine ⟨x, sclM kb m, rfl, hm1, o', fun e9 H9 z9 => ?_, fun y e9 q H9 z9 sq => ?_⟩
    · have e9 : ways (sclM kb m) m.n 0 = none := e9
      rw [e9] at sc
      walk_at "go"
      refine ⟨x, sclM kb m, rfl, hm1.same z9, o', fun H10 z10 => ?_⟩
      rw [show (sclM kb m).n = m.n from rfl, e9, ← sc]
      walk_at "go"
      refine iteT ?_
      walk_at "go"
      refine iteT ?_
      walk_at "go"
      exact iteT (k _)
    · have e9 : ways (sclM kb m) m.n 0 = some y := e9
      rw [e9] at sc
      walk_at "go"
      refine ⟨x, sclM kb m, rfl, hm1.same z9, o', fun H10 z10 => ?_⟩
      have sq' := (same_tups z10).sq sq
      rw [show (sclM kb m).n = m.n from rfl, e9, ← sc]
      walk_at "go"
      refine k_yes (decide_eq_true rfl) ?_
      walk_at "go"
      refine k_yes (by rfl) ?_
      walk_at "go"
      refine k_no (by rfl) ?_
      walk_at "go"
      refine k_ixT sq' (v := .int y.1) rfl ?_
      walk_at "go"
      show Q (V.bl (decide (V.int y.1 = V.int y.1))) H10
      rw [decide_eq_true rfl]
      exact k _
end
/-! ### what the written part says -/
theorem exc_self {K : PySem.W.Frag} {S : Addr} (hb : PySem.W.subIn K (.ref S) (.type "BaseException") = some true) (hc : PySem.W.isClsIn K S = true) (ht : PySem.W.typeIn K (.ref S) = some (.type "type")) (hs : PySem.W.subIn K (.ref S) (.ref S) = some true) : PySem.W.exmOne K (.ref S) (.ref S) = some true := by
  have hc' : (PySem.W.clsIn K S).isSome = true := hc
  unfold PySem.W.exmOne PySem.W.kitCls
  simp only [hb, ht, hc', hs, beq_self_eq_true, Bool.and_self, if_true]
theorem bb_longer_rows (kV doc pm : Value) (an : Option Addr) (cdv ct : Value) (us : List Value) (hl : us.length = 3) : bindArgs (PySem.W.fnOf "longer_rows" "longer_rows" (defArgs s_longer_rows) (defBody s_longer_rows) (defScope s_longer_rows) .none kV doc pm an cdv ct) ⟨us, []⟩ = pure ((["steps", "sign", "rows"] : List Str).zip us) := match us, hl with | [_, _, _], _ => rfl
theorem bb_Machine_init (kV doc pm : Value) (an : Option Addr) (cdv ct : Value) (us : List Value) (hl : us.length = 4) : bindArgs (PySem.W.fnOf "__init__" "Machine.__init__" (defArgs s_Machine_init) (defBody s_Machine_init) (defScope s_Machine_init) .none kV doc pm an cdv ct) ⟨us, []⟩ = pure ((["self", "stands", "steps", "ends"] : List Str).zip us) := match us, hl with | [_, _, _, _], _ => rfl
theorem bb_Machine_stands (kV doc pm : Value) (an : Option Addr) (cdv ct : Value) (us : List Value) (hl : us.length = 1) : bindArgs (PySem.W.fnOf "stands" "Machine.stands" (defArgs s_Machine_stands) (defBody s_Machine_stands) (defScope s_Machine_stands) .none kV doc pm an cdv ct) ⟨us, []⟩ = pure ((["self"] : List Str).zip us) := match us, hl with | [_], _ => rfl
theorem bb_Machine_steps (kV doc pm : Value) (an : Option Addr) (cdv ct : Value) (us : List Value) (hl : us.length = 1) : bindArgs (PySem.W.fnOf "steps" "Machine.steps" (defArgs s_Machine_steps) (defBody s_Machine_steps) (defScope s_Machine_steps) .none kV doc pm an cdv ct) ⟨us, []⟩ = pure ((["self"] : List Str).zip us) := match us, hl with | [_], _ => rfl
theorem bb_Machine_ends (kV doc pm : Value) (an : Option Addr) (cdv ct : Value) (us : List Value) (hl : us.length = 1) : bindArgs (PySem.W.fnOf "ends" "Machine.ends" (defArgs s_Machine_ends) (defBody s_Machine_ends) (defScope s_Machine_ends) .none kV doc pm an cdv ct) ⟨us, []⟩ = pure ((["self"] : List Str).zip us) := match us, hl with | [_], _ => rfl
theorem bb_is_whole_number (kV doc pm : Value) (an : Option Addr) (cdv ct : Value) (us : List Value) (hl : us.length = 1) : bindArgs (PySem.W.fnOf "is_whole_number" "is_whole_number" (defArgs s_is_whole_number) (defBody s_is_whole_number) (defScope s_is_whole_number) .none kV doc pm an cdv ct) ⟨us, []⟩ = pure ((["value"] : List Str).zip us) := match us, hl with | [_], _ => rfl
theorem bb_is_integer_between (kV doc pm : Value) (an : Option Addr) (cdv ct : Value) (us : List Value) (hl : us.length = 3) : bindArgs (PySem.W.fnOf "is_integer_between" "is_integer_between" (defArgs s_is_integer_between) (defBody s_is_integer_between) (defScope s_is_integer_between) .none kV doc pm an cdv ct) ⟨us, []⟩ = pure ((["value", "least", "most"] : List Str).zip us) := match us, hl with | [_, _, _], _ => rfl
theorem bb_is_stand (kV doc pm : Value) (an : Option Addr) (cdv ct : Value) (us : List Value) (hl : us.length = 2) : bindArgs (PySem.W.fnOf "_is_stand" "_is_stand" (defArgs s_is_stand) (defBody s_is_stand) (defScope s_is_stand) .none kV doc pm an cdv ct) ⟨us, []⟩ = pure ((["stands", "value"] : List Str).zip us) := match us, hl with | [_, _], _ => rfl
theorem bb_check_stands (kV doc pm : Value) (an : Option Addr) (cdv ct : Value) (us : List Value) (hl : us.length = 1) : bindArgs (PySem.W.fnOf "_check_stands" "_check_stands" (defArgs s_check_stands) (defBody s_check_stands) (defScope s_check_stands) .none kV doc pm an cdv ct) ⟨us, []⟩ = pure ((["stands"] : List Str).zip us) := match us, hl with | [_], _ => rfl
theorem bb_is_step (kV doc pm : Value) (an : Option Addr) (cdv ct : Value) (us : List Value) (hl : us.length = 2) : bindArgs (PySem.W.fnOf "_is_step" "_is_step" (defArgs s_is_step) (defBody s_is_step) (defScope s_is_step) .none kV doc pm an cdv ct) ⟨us, []⟩ = pure ((["stands", "value"] : List Str).zip us) := match us, hl with | [_, _], _ => rfl
theorem bb_check_steps (kV doc pm : Value) (an : Option Addr) (cdv ct : Value) (us : List Value) (hl : us.length = 2) : bindArgs (PySem.W.fnOf "_check_steps" "_check_steps" (defArgs s_check_steps) (defBody s_check_steps) (defScope s_check_steps) .none kV doc pm an cdv ct) ⟨us, []⟩ = pure ((["stands", "steps"] : List Str).zip us) := match us, hl with | [_, _], _ => rfl
theorem bb_is_ascending (kV doc pm : Value) (an : Option Addr) (cdv ct : Value) (us : List Value) (hl : us.length = 2) : bindArgs (PySem.W.fnOf "is_ascending" "is_ascending" (defArgs s_is_ascending) (defBody s_is_ascending) (defScope s_is_ascending) .none kV doc pm an cdv ct) ⟨us, []⟩ = pure ((["value", "many"] : List Str).zip us) := match us, hl with | [_, _], _ => rfl
theorem bb_check_ends (kV doc pm : Value) (an : Option Addr) (cdv ct : Value) (us : List Value) (hl : us.length = 2) : bindArgs (PySem.W.fnOf "_check_ends" "_check_ends" (defArgs s_check_ends) (defBody s_check_ends) (defScope s_check_ends) .none kV doc pm an cdv ct) ⟨us, []⟩ = pure ((["stands", "ends"] : List Str).zip us) := match us, hl with | [_, _], _ => rfl
theorem bb_check_machine (kV doc pm : Value) (an : Option Addr) (cdv ct : Value) (us : List Value) (hl : us.length = 1) : bindArgs (PySem.W.fnOf "check_machine" "check_machine" (defArgs s_check_machine) (defBody s_check_machine) (defScope s_check_machine) .none kV doc pm an cdv ct) ⟨us, []⟩ = pure ((["value"] : List Str).zip us) := match us, hl with | [_], _ => rfl
theorem bb_loop_above (kV doc pm : Value) (an : Option Addr) (cdv ct : Value) (us : List Value) (hl : us.length = 2) : bindArgs (PySem.W.fnOf "_loop_above" "_loop_above" (defArgs s_loop_above) (defBody s_loop_above) (defScope s_loop_above) .none kV doc pm an cdv ct) ⟨us, []⟩ = pure ((["machine", "stand"] : List Str).zip us) := match us, hl with | [_, _], _ => rfl
theorem bb_led_back (kV doc pm : Value) (an : Option Addr) (cdv ct : Value) (us : List Value) (hl : us.length = 2) : bindArgs (PySem.W.fnOf "_led_back" "_led_back" (defArgs s_led_back) (defBody s_led_back) (defScope s_led_back) .none kV doc pm an cdv ct) ⟨us, []⟩ = pure ((["machine", "ways"] : List Str).zip us) := match us, hl with | [_, _], _ => rfl
theorem bb_lasting_ways (kV doc pm : Value) (an : Option Addr) (cdv ct : Value) (us : List Value) (hl : us.length = 1) : bindArgs (PySem.W.fnOf "_lasting_ways" "_lasting_ways" (defArgs s_lasting_ways) (defBody s_lasting_ways) (defScope s_lasting_ways) .none kV doc pm an cdv ct) ⟨us, []⟩ = pure ((["machine"] : List Str).zip us) := match us, hl with | [_], _ => rfl
theorem bb_lasting (kV doc pm : Value) (an : Option Addr) (cdv ct : Value) (us : List Value) (hl : us.length = 1) : bindArgs (PySem.W.fnOf "lasting" "lasting" (defArgs s_lasting) (defBody s_lasting) (defScope s_lasting) .none kV doc pm an cdv ct) ⟨us, []⟩ = pure ((["machine"] : List Str).zip us) := match us, hl with | [_], _ => rfl
theorem bb_credit (kV doc pm : Value) (an : Option Addr) (cdv ct : Value) (us : List Value) (hl : us.length = 1) : bindArgs (PySem.W.fnOf "credit" "credit" (defArgs s_credit) (defBody s_credit) (defScope s_credit) .none kV doc pm an cdv ct) ⟨us, []⟩ = pure ((["machine"] : List Str).zip us) := match us, hl with | [_], _ => rfl
theorem bb_law_taken (kV doc pm : Value) (an : Option Addr) (cdv ct : Value) (us : List Value) (hl : us.length = 2) : bindArgs (PySem.W.fnOf "_law_taken" "_law_taken" (defArgs s_law_taken) (defBody s_law_taken) (defScope s_law_taken) .none kV doc pm an cdv ct) ⟨us, []⟩ = pure ((["_law_row", "_law_many"] : List Str).zip us) := match us, hl with | [_, _], _ => rfl
theorem bb_law_parts (kV doc pm : Value) (an : Option Addr) (cdv ct : Value) (us : List Value) (hl : us.length = 3) : bindArgs (PySem.W.fnOf "_law_parts" "_law_parts" (defArgs s_law_parts) (defBody s_law_parts) (defScope s_law_parts) .none kV doc pm an cdv ct) ⟨us, []⟩ = pure ((["_law_row", "_law_stands", "_law_size"] : List Str).zip us) := match us, hl with | [_, _, _], _ => rfl
theorem bb_law_next (kV doc pm : Value) (an : Option Addr) (cdv ct : Value) (us : List Value) (hl : us.length = 2) : bindArgs (PySem.W.fnOf "_law_next" "_law_next" (defArgs s_law_next) (defBody s_law_next) (defScope s_law_next) .none kV doc pm an cdv ct) ⟨us, []⟩ = pure ((["_law_d", "_law_stand"] : List Str).zip us) := match us, hl with | [_, _], _ => rfl
theorem bb_law_lives (kV doc pm : Value) (an : Option Addr) (cdv ct : Value) (us : List Value) (hl : us.length = 2) : bindArgs (PySem.W.fnOf "_law_lives" "_law_lives" (defArgs s_law_lives) (defBody s_law_lives) (defScope s_law_lives) .none kV doc pm an cdv ct) ⟨us, []⟩ = pure ((["_law_d", "_law_most"] : List Str).zip us) := match us, hl with | [_, _], _ => rfl
theorem bb_law (kV doc pm : Value) (an : Option Addr) (cdv ct : Value) (us : List Value) (hl : us.length = 1) : bindArgs (PySem.W.fnOf "law" "law" (defArgs s_law) (defBody s_law) (defScope s_law) .none kV doc pm an cdv ct) ⟨us, []⟩ = pure ((["_law_script"] : List Str).zip us) := match us, hl with | [_], _ => rfl
set_option maxHeartbeats 0 in
def txt_mk {K : PySem.W.Frag} {h : Heap} {mg : Str → Option Value} (X : K.In h) (G : h.Ns mainGlobals mg)
    {a_longer_rows : Addr} {od_longer_rows an_longer_rows : Option Addr} {sl_longer_rows : Array (Option Value)} {oc_longer_rows kV_longer_rows dc_longer_rows pm_longer_rows cd_longer_rows ct_longer_rows : Value}
    {a_Machine_init : Addr} {od_Machine_init an_Machine_init : Option Addr} {sl_Machine_init : Array (Option Value)} {oc_Machine_init kV_Machine_init dc_Machine_init pm_Machine_init cd_Machine_init ct_Machine_init : Value}
    {a_Machine_stands : Addr} {od_Machine_stands an_Machine_stands : Option Addr} {sl_Machine_stands : Array (Option Value)} {oc_Machine_stands kV_Machine_stands dc_Machine_stands pm_Machine_stands cd_Machine_stands ct_Machine_stands : Value}
    {a_Machine_steps : Addr} {od_Machine_steps an_Machine_steps : Option Addr} {sl_Machine_steps : Array (Option Value)} {oc_Machine_steps kV_Machine_steps dc_Machine_steps pm_Machine_steps cd_Machine_steps ct_Machine_steps : Value}
    {a_Machine_ends : Addr} {od_Machine_ends an_Machine_ends : Option Addr} {sl_Machine_ends : Array (Option Value)} {oc_Machine_ends kV_Machine_ends dc_Machine_ends pm_Machine_ends cd_Machine_ends ct_Machine_ends : Value}
    {a_is_whole_number : Addr} {od_is_whole_number an_is_whole_number : Option Addr} {sl_is_whole_number : Array (Option Value)} {oc_is_whole_number kV_is_whole_number dc_is_whole_number pm_is_whole_number cd_is_whole_number ct_is_whole_number : Value}
    {a_is_integer_between : Addr} {od_is_integer_between an_is_integer_between : Option Addr} {sl_is_integer_between : Array (Option Value)} {oc_is_integer_between kV_is_integer_between dc_is_integer_between pm_is_integer_between cd_is_integer_between ct_is_integer_between : Value}
    {a_is_stand : Addr} {od_is_stand an_is_stand : Option Addr} {sl_is_stand : Array (Option Value)} {oc_is_stand kV_is_stand dc_is_stand pm_is_stand cd_is_stand ct_is_stand : Value}
    {a_check_stands : Addr} {od_check_stands an_check_stands : Option Addr} {sl_check_stands : Array (Option Value)} {oc_check_stands kV_check_stands dc_check_stands pm_check_stands cd_check_stands ct_check_stands : Value}
    {a_is_step : Addr} {od_is_step an_is_step : Option Addr} {sl_is_step : Array (Option Value)} {oc_is_step kV_is_step dc_is_step pm_is_step cd_is_step ct_is_step : Value}
    {a_check_steps : Addr} {od_check_steps an_check_steps : Option Addr} {sl_check_steps : Array (Option Value)} {oc_check_steps kV_check_steps dc_check_steps pm_check_steps cd_check_steps ct_check_steps : Value}
    {a_is_ascending : Addr} {od_is_ascending an_is_ascending : Option Addr} {sl_is_ascending : Array (Option Value)} {oc_is_ascending kV_is_ascending dc_is_ascending pm_is_ascending cd_is_ascending ct_is_ascending : Value}
    {a_check_ends : Addr} {od_check_ends an_check_ends : Option Addr} {sl_check_ends : Array (Option Value)} {oc_check_ends kV_check_ends dc_check_ends pm_check_ends cd_check_ends ct_check_ends : Value}
    {a_check_machine : Addr} {od_check_machine an_check_machine : Option Addr} {sl_check_machine : Array (Option Value)} {oc_check_machine kV_check_machine dc_check_machine pm_check_machine cd_check_machine ct_check_machine : Value}
    {a_loop_above : Addr} {od_loop_above an_loop_above : Option Addr} {sl_loop_above : Array (Option Value)} {oc_loop_above kV_loop_above dc_loop_above pm_loop_above cd_loop_above ct_loop_above : Value}
    {a_led_back : Addr} {od_led_back an_led_back : Option Addr} {sl_led_back : Array (Option Value)} {oc_led_back kV_led_back dc_led_back pm_led_back cd_led_back ct_led_back : Value}
    {a_lasting_ways : Addr} {od_lasting_ways an_lasting_ways : Option Addr} {sl_lasting_ways : Array (Option Value)} {oc_lasting_ways kV_lasting_ways dc_lasting_ways pm_lasting_ways cd_lasting_ways ct_lasting_ways : Value}
    {a_lasting : Addr} {od_lasting an_lasting : Option Addr} {sl_lasting : Array (Option Value)} {oc_lasting kV_lasting dc_lasting pm_lasting cd_lasting ct_lasting : Value}
    {a_credit : Addr} {od_credit an_credit : Option Addr} {sl_credit : Array (Option Value)} {oc_credit kV_credit dc_credit pm_credit cd_credit ct_credit : Value}
    {a_law_taken : Addr} {od_law_taken an_law_taken : Option Addr} {sl_law_taken : Array (Option Value)} {oc_law_taken kV_law_taken dc_law_taken pm_law_taken cd_law_taken ct_law_taken : Value}
    {a_law_parts : Addr} {od_law_parts an_law_parts : Option Addr} {sl_law_parts : Array (Option Value)} {oc_law_parts kV_law_parts dc_law_parts pm_law_parts cd_law_parts ct_law_parts : Value}
    {a_law_next : Addr} {od_law_next an_law_next : Option Addr} {sl_law_next : Array (Option Value)} {oc_law_next kV_law_next dc_law_next pm_law_next cd_law_next ct_law_next : Value}
    {a_law_lives : Addr} {od_law_lives an_law_lives : Option Addr} {sl_law_lives : Array (Option Value)} {oc_law_lives kV_law_lives dc_law_lives pm_law_lives cd_law_lives ct_law_lives : Value}
    {a_law : Addr} {od_law an_law : Option Addr} {sl_law : Array (Option Value)} {oc_law kV_law dc_law pm_law cd_law ct_law : Value}
    {c_Machine : Addr}
    {q_stands : Addr} {rest_stands : List Value}
    {q_steps : Addr} {rest_steps : List Value}
    {q_ends : Addr} {rest_ends : List Value}
    {t_MOST_STANDS : Tok}
    {t_MOST_GAIN : Tok}
    {a_LETTERS : Addr}
    (g_longer_rows : PySem.W.nsIn K mainGlobals "longer_rows" = some (some (.ref a_longer_rows)))
    (g_is_whole_number : PySem.W.nsIn K mainGlobals "is_whole_number" = some (some (.ref a_is_whole_number)))
    (g_is_integer_between : PySem.W.nsIn K mainGlobals "is_integer_between" = some (some (.ref a_is_integer_between)))
    (g_is_stand : PySem.W.nsIn K mainGlobals "_is_stand" = some (some (.ref a_is_stand)))
    (g_check_stands : PySem.W.nsIn K mainGlobals "_check_stands" = some (some (.ref a_check_stands)))
    (g_is_step : PySem.W.nsIn K mainGlobals "_is_step" = some (some (.ref a_is_step)))
    (g_check_steps : PySem.W.nsIn K mainGlobals "_check_steps" = some (some (.ref a_check_steps)))
    (g_is_ascending : PySem.W.nsIn K mainGlobals "is_ascending" = some (some (.ref a_is_ascending)))
    (g_check_ends : PySem.W.nsIn K mainGlobals "_check_ends" = some (some (.ref a_check_ends)))
    (g_check_machine : PySem.W.nsIn K mainGlobals "check_machine" = some (some (.ref a_check_machine)))
    (g_loop_above : PySem.W.nsIn K mainGlobals "_loop_above" = some (some (.ref a_loop_above)))
    (g_led_back : PySem.W.nsIn K mainGlobals "_led_back" = some (some (.ref a_led_back)))
    (g_lasting_ways : PySem.W.nsIn K mainGlobals "_lasting_ways" = some (some (.ref a_lasting_ways)))
    (g_lasting : PySem.W.nsIn K mainGlobals "lasting" = some (some (.ref a_lasting)))
    (g_credit : PySem.W.nsIn K mainGlobals "credit" = some (some (.ref a_credit)))
    (g_law_taken : PySem.W.nsIn K mainGlobals "_law_taken" = some (some (.ref a_law_taken)))
    (g_law_parts : PySem.W.nsIn K mainGlobals "_law_parts" = some (some (.ref a_law_parts)))
    (g_law_next : PySem.W.nsIn K mainGlobals "_law_next" = some (some (.ref a_law_next)))
    (g_law_lives : PySem.W.nsIn K mainGlobals "_law_lives" = some (some (.ref a_law_lives)))
    (g_law : PySem.W.nsIn K mainGlobals "law" = some (some (.ref a_law)))
    (g_Machine : PySem.W.nsIn K mainGlobals "Machine" = some (some (.ref c_Machine)))
    (g_MOST_STANDS : PySem.W.nsIn K mainGlobals "MOST_STANDS" = some (some (.int 8 t_MOST_STANDS)))
    (g_MOST_GAIN : PySem.W.nsIn K mainGlobals "MOST_GAIN" = some (some (.int 1000000000000000000000000000000 t_MOST_GAIN)))
    (g_LETTERS : PySem.W.nsIn K mainGlobals "LETTERS" = some (some (.ref a_LETTERS)))
    (zz_any : PySem.W.nsIn K mainGlobals "any" = some none)
    (zz_bool : PySem.W.nsIn K mainGlobals "bool" = some none)
    (zz_enumerate : PySem.W.nsIn K mainGlobals "enumerate" = some none)
    (zz_int : PySem.W.nsIn K mainGlobals "int" = some none)
    (zz_isinstance : PySem.W.nsIn K mainGlobals "isinstance" = some none)
    (zz_len : PySem.W.nsIn K mainGlobals "len" = some none)
    (zz_list : PySem.W.nsIn K mainGlobals "list" = some none)
    (zz_max : PySem.W.nsIn K mainGlobals "max" = some none)
    (zz_min : PySem.W.nsIn K mainGlobals "min" = some none)
    (zz_range : PySem.W.nsIn K mainGlobals "range" = some none)
    (zz_sorted : PySem.W.nsIn K mainGlobals "sorted" = some none)
    (zz_str : PySem.W.nsIn K mainGlobals "str" = some none)
    (zz_tuple : PySem.W.nsIn K mainGlobals "tuple" = some none)
    (l_longer_rows : K.lookup a_longer_rows = some ⟨oc_longer_rows, od_longer_rows, .func (PySem.W.fnOf "longer_rows" "longer_rows" (defArgs s_longer_rows) (defBody s_longer_rows) (defScope s_longer_rows) .none kV_longer_rows dc_longer_rows pm_longer_rows an_longer_rows cd_longer_rows ct_longer_rows), sl_longer_rows⟩)
    (c_longer_rows : PySem.W.codeIn K cd_longer_rows "longer_rows" = true)
    (kk_longer_rows : PySem.W.keepIn K (.ref a_longer_rows) = true)
    (l_Machine_init : K.lookup a_Machine_init = some ⟨oc_Machine_init, od_Machine_init, .func (PySem.W.fnOf "__init__" "Machine.__init__" (defArgs s_Machine_init) (defBody s_Machine_init) (defScope s_Machine_init) .none kV_Machine_init dc_Machine_init pm_Machine_init an_Machine_init cd_Machine_init ct_Machine_init), sl_Machine_init⟩)
    (c_Machine_init : PySem.W.codeIn K cd_Machine_init "Machine.__init__" = true)
    (kk_Machine_init : PySem.W.keepIn K (.ref a_Machine_init) = true)
    (l_Machine_stands : K.lookup a_Machine_stands = some ⟨oc_Machine_stands, od_Machine_stands, .func (PySem.W.fnOf "stands" "Machine.stands" (defArgs s_Machine_stands) (defBody s_Machine_stands) (defScope s_Machine_stands) .none kV_Machine_stands dc_Machine_stands pm_Machine_stands an_Machine_stands cd_Machine_stands ct_Machine_stands), sl_Machine_stands⟩)
    (c_Machine_stands : PySem.W.codeIn K cd_Machine_stands "Machine.stands" = true)
    (kk_Machine_stands : PySem.W.keepIn K (.ref a_Machine_stands) = true)
    (l_Machine_steps : K.lookup a_Machine_steps = some ⟨oc_Machine_steps, od_Machine_steps, .func (PySem.W.fnOf "steps" "Machine.steps" (defArgs s_Machine_steps) (defBody s_Machine_steps) (defScope s_Machine_steps) .none kV_Machine_steps dc_Machine_steps pm_Machine_steps an_Machine_steps cd_Machine_steps ct_Machine_steps), sl_Machine_steps⟩)
    (c_Machine_steps : PySem.W.codeIn K cd_Machine_steps "Machine.steps" = true)
    (kk_Machine_steps : PySem.W.keepIn K (.ref a_Machine_steps) = true)
    (l_Machine_ends : K.lookup a_Machine_ends = some ⟨oc_Machine_ends, od_Machine_ends, .func (PySem.W.fnOf "ends" "Machine.ends" (defArgs s_Machine_ends) (defBody s_Machine_ends) (defScope s_Machine_ends) .none kV_Machine_ends dc_Machine_ends pm_Machine_ends an_Machine_ends cd_Machine_ends ct_Machine_ends), sl_Machine_ends⟩)
    (c_Machine_ends : PySem.W.codeIn K cd_Machine_ends "Machine.ends" = true)
    (kk_Machine_ends : PySem.W.keepIn K (.ref a_Machine_ends) = true)
    (l_is_whole_number : K.lookup a_is_whole_number = some ⟨oc_is_whole_number, od_is_whole_number, .func (PySem.W.fnOf "is_whole_number" "is_whole_number" (defArgs s_is_whole_number) (defBody s_is_whole_number) (defScope s_is_whole_number) .none kV_is_whole_number dc_is_whole_number pm_is_whole_number an_is_whole_number cd_is_whole_number ct_is_whole_number), sl_is_whole_number⟩)
    (c_is_whole_number : PySem.W.codeIn K cd_is_whole_number "is_whole_number" = true)
    (kk_is_whole_number : PySem.W.keepIn K (.ref a_is_whole_number) = true)
    (l_is_integer_between : K.lookup a_is_integer_between = some ⟨oc_is_integer_between, od_is_integer_between, .func (PySem.W.fnOf "is_integer_between" "is_integer_between" (defArgs s_is_integer_between) (defBody s_is_integer_between) (defScope s_is_integer_between) .none kV_is_integer_between dc_is_integer_between pm_is_integer_between an_is_integer_between cd_is_integer_between ct_is_integer_between), sl_is_integer_between⟩)
    (c_is_integer_between : PySem.W.codeIn K cd_is_integer_between "is_integer_between" = true)
    (kk_is_integer_between : PySem.W.keepIn K (.ref a_is_integer_between) = true)
    (l_is_stand : K.lookup a_is_stand = some ⟨oc_is_stand, od_is_stand, .func (PySem.W.fnOf "_is_stand" "_is_stand" (defArgs s_is_stand) (defBody s_is_stand) (defScope s_is_stand) .none kV_is_stand dc_is_stand pm_is_stand an_is_stand cd_is_stand ct_is_stand), sl_is_stand⟩)
    (c_is_stand : PySem.W.codeIn K cd_is_stand "_is_stand" = true)
    (kk_is_stand : PySem.W.keepIn K (.ref a_is_stand) = true)
    (l_check_stands : K.lookup a_check_stands = some ⟨oc_check_stands, od_check_stands, .func (PySem.W.fnOf "_check_stands" "_check_stands" (defArgs s_check_stands) (defBody s_check_stands) (defScope s_check_stands) .none kV_check_stands dc_check_stands pm_check_stands an_check_stands cd_check_stands ct_check_stands), sl_check_stands⟩)
    (c_check_stands : PySem.W.codeIn K cd_check_stands "_check_stands" = true)
    (kk_check_stands : PySem.W.keepIn K (.ref a_check_stands) = true)
    (l_is_step : K.lookup a_is_step = some ⟨oc_is_step, od_is_step, .func (PySem.W.fnOf "_is_step" "_is_step" (defArgs s_is_step) (defBody s_is_step) (defScope s_is_step) .none kV_is_step dc_is_step pm_is_step an_is_step cd_is_step ct_is_step), sl_is_step⟩)
    (c_is_step : PySem.W.codeIn K cd_is_step "_is_step" = true)
    (kk_is_step : PySem.W.keepIn K (.ref a_is_step) = true)
    (l_check_steps : K.lookup a_check_steps = some ⟨oc_check_steps, od_check_steps, .func (PySem.W.fnOf "_check_steps" "_check_steps" (defArgs s_check_steps) (defBody s_check_steps) (defScope s_check_steps) .none kV_check_steps dc_check_steps pm_check_steps an_check_steps cd_check_steps ct_check_steps), sl_check_steps⟩)
    (c_check_steps : PySem.W.codeIn K cd_check_steps "_check_steps" = true)
    (kk_check_steps : PySem.W.keepIn K (.ref a_check_steps) = true)
    (l_is_ascending : K.lookup a_is_ascending = some ⟨oc_is_ascending, od_is_ascending, .func (PySem.W.fnOf "is_ascending" "is_ascending" (defArgs s_is_ascending) (defBody s_is_ascending) (defScope s_is_ascending) .none kV_is_ascending dc_is_ascending pm_is_ascending an_is_ascending cd_is_ascending ct_is_ascending), sl_is_ascending⟩)
    (c_is_ascending : PySem.W.codeIn K cd_is_ascending "is_ascending" = true)
    (kk_is_ascending : PySem.W.keepIn K (.ref a_is_ascending) = true)
    (l_check_ends : K.lookup a_check_ends = some ⟨oc_check_ends, od_check_ends, .func (PySem.W.fnOf "_check_ends" "_check_ends" (defArgs s_check_ends) (defBody s_check_ends) (defScope s_check_ends) .none kV_check_ends dc_check_ends pm_check_ends an_check_ends cd_check_ends ct_check_ends), sl_check_ends⟩)
    (c_check_ends : PySem.W.codeIn K cd_check_ends "_check_ends" = true)
    (kk_check_ends : PySem.W.keepIn K (.ref a_check_ends) = true)
    (l_check_machine : K.lookup a_check_machine = some ⟨oc_check_machine, od_check_machine, .func (PySem.W.fnOf "check_machine" "check_machine" (defArgs s_check_machine) (defBody s_check_machine) (defScope s_check_machine) .none kV_check_machine dc_check_machine pm_check_machine an_check_machine cd_check_machine ct_check_machine), sl_check_machine⟩)
    (c_check_machine : PySem.W.codeIn K cd_check_machine "check_machine" = true)
    (kk_check_machine : PySem.W.keepIn K (.ref a_check_machine) = true)
    (l_loop_above : K.lookup a_loop_above = some ⟨oc_loop_above, od_loop_above, .func (PySem.W.fnOf "_loop_above" "_loop_above" (defArgs s_loop_above) (defBody s_loop_above) (defScope s_loop_above) .none kV_loop_above dc_loop_above pm_loop_above an_loop_above cd_loop_above ct_loop_above), sl_loop_above⟩)
    (c_loop_above : PySem.W.codeIn K cd_loop_above "_loop_above" = true)
    (kk_loop_above : PySem.W.keepIn K (.ref a_loop_above) = true)
    (l_led_back : K.lookup a_led_back = some ⟨oc_led_back, od_led_back, .func (PySem.W.fnOf "_led_back" "_led_back" (defArgs s_led_back) (defBody s_led_back) (defScope s_led_back) .none kV_led_back dc_led_back pm_led_back an_led_back cd_led_back ct_led_back), sl_led_back⟩)
    (c_led_back : PySem.W.codeIn K cd_led_back "_led_back" = true)
    (kk_led_back : PySem.W.keepIn K (.ref a_led_back) = true)
    (l_lasting_ways : K.lookup a_lasting_ways = some ⟨oc_lasting_ways, od_lasting_ways, .func (PySem.W.fnOf "_lasting_ways" "_lasting_ways" (defArgs s_lasting_ways) (defBody s_lasting_ways) (defScope s_lasting_ways) .none kV_lasting_ways dc_lasting_ways pm_lasting_ways an_lasting_ways cd_lasting_ways ct_lasting_ways), sl_lasting_ways⟩)
    (c_lasting_ways : PySem.W.codeIn K cd_lasting_ways "_lasting_ways" = true)
    (kk_lasting_ways : PySem.W.keepIn K (.ref a_lasting_ways) = true)
    (l_lasting : K.lookup a_lasting = some ⟨oc_lasting, od_lasting, .func (PySem.W.fnOf "lasting" "lasting" (defArgs s_lasting) (defBody s_lasting) (defScope s_lasting) .none kV_lasting dc_lasting pm_lasting an_lasting cd_lasting ct_lasting), sl_lasting⟩)
    (c_lasting : PySem.W.codeIn K cd_lasting "lasting" = true)
    (kk_lasting : PySem.W.keepIn K (.ref a_lasting) = true)
    (l_credit : K.lookup a_credit = some ⟨oc_credit, od_credit, .func (PySem.W.fnOf "credit" "credit" (defArgs s_credit) (defBody s_credit) (defScope s_credit) .none kV_credit dc_credit pm_credit an_credit cd_credit ct_credit), sl_credit⟩)
    (c_credit : PySem.W.codeIn K cd_credit "credit" = true)
    (kk_credit : PySem.W.keepIn K (.ref a_credit) = true)
    (l_law_taken : K.lookup a_law_taken = some ⟨oc_law_taken, od_law_taken, .func (PySem.W.fnOf "_law_taken" "_law_taken" (defArgs s_law_taken) (defBody s_law_taken) (defScope s_law_taken) .none kV_law_taken dc_law_taken pm_law_taken an_law_taken cd_law_taken ct_law_taken), sl_law_taken⟩)
    (c_law_taken : PySem.W.codeIn K cd_law_taken "_law_taken" = true)
    (kk_law_taken : PySem.W.keepIn K (.ref a_law_taken) = true)
    (l_law_parts : K.lookup a_law_parts = some ⟨oc_law_parts, od_law_parts, .func (PySem.W.fnOf "_law_parts" "_law_parts" (defArgs s_law_parts) (defBody s_law_parts) (defScope s_law_parts) .none kV_law_parts dc_law_parts pm_law_parts an_law_parts cd_law_parts ct_law_parts), sl_law_parts⟩)
    (c_law_parts : PySem.W.codeIn K cd_law_parts "_law_parts" = true)
    (kk_law_parts : PySem.W.keepIn K (.ref a_law_parts) = true)
    (l_law_next : K.lookup a_law_next = some ⟨oc_law_next, od_law_next, .func (PySem.W.fnOf "_law_next" "_law_next" (defArgs s_law_next) (defBody s_law_next) (defScope s_law_next) .none kV_law_next dc_law_next pm_law_next an_law_next cd_law_next ct_law_next), sl_law_next⟩)
    (c_law_next : PySem.W.codeIn K cd_law_next "_law_next" = true)
    (kk_law_next : PySem.W.keepIn K (.ref a_law_next) = true)
    (l_law_lives : K.lookup a_law_lives = some ⟨oc_law_lives, od_law_lives, .func (PySem.W.fnOf "_law_lives" "_law_lives" (defArgs s_law_lives) (defBody s_law_lives) (defScope s_law_lives) .none kV_law_lives dc_law_lives pm_law_lives an_law_lives cd_law_lives ct_law_lives), sl_law_lives⟩)
    (c_law_lives : PySem.W.codeIn K cd_law_lives "_law_lives" = true)
    (kk_law_lives : PySem.W.keepIn K (.ref a_law_lives) = true)
    (l_law : K.lookup a_law = some ⟨oc_law, od_law, .func (PySem.W.fnOf "law" "law" (defArgs s_law) (defBody s_law) (defScope s_law) .none kV_law dc_law pm_law an_law cd_law ct_law), sl_law⟩)
    (c_law : PySem.W.codeIn K cd_law "law" = true)
    (kk_law : PySem.W.keepIn K (.ref a_law) = true)
    (pg_Machine : PySem.W.plainGet K c_Machine Str.empty = true)
    (hd_Machine : PySem.W.hasDictIn K c_Machine = true)
    (po_Machine : PySem.W.plainOver K c_Machine = true)
    (sa_Machine : PySem.W.findIn K (.ref c_Machine) "__setattr__" = some (some (.builtin "object.__setattr__")))
    (mi_Machine : PySem.W.makesIn K c_Machine = true)
    (kc_Machine : PySem.W.keepIn K (.ref c_Machine) = true)
    (fi_Machine : PySem.W.findIn K (.ref c_Machine) "__init__" = some (some (.ref a_Machine_init)))
    (if_Machine : PySem.W.isFn K (.ref a_Machine_init) = true)
    (nf_stands : PySem.W.findIn K (.ref c_Machine) "_stands" = some none)
    (nf_steps : PySem.W.findIn K (.ref c_Machine) "_steps" = some none)
    (nf_ends : PySem.W.findIn K (.ref c_Machine) "_ends" = some none)
    (pf_stands : PySem.W.findIn K (.ref c_Machine) "stands" = some (some (.ref q_stands)))
    (pt_stands : PySem.W.specialIn K (.ref q_stands) "__get__" = some (some (.builtin "property.__get__")))
    (pk_stands : PySem.W.takesIn K (.ref q_stands) = some true)
    (pr_stands : PySem.W.recIn K q_stands "property" = some (.ref a_Machine_stands :: rest_stands))
    (pf_steps : PySem.W.findIn K (.ref c_Machine) "steps" = some (some (.ref q_steps)))
    (pt_steps : PySem.W.specialIn K (.ref q_steps) "__get__" = some (some (.builtin "property.__get__")))
    (pk_steps : PySem.W.takesIn K (.ref q_steps) = some true)
    (pr_steps : PySem.W.recIn K q_steps "property" = some (.ref a_Machine_steps :: rest_steps))
    (pf_ends : PySem.W.findIn K (.ref c_Machine) "ends" = some (some (.ref q_ends)))
    (pt_ends : PySem.W.specialIn K (.ref q_ends) "__get__" = some (some (.builtin "property.__get__")))
    (pk_ends : PySem.W.takesIn K (.ref q_ends) = some true)
    (pr_ends : PySem.W.recIn K q_ends "property" = some (.ref a_Machine_ends :: rest_ends))
    (x_i1_Machine : PySem.W.findIn K (.ref c_Machine) "__class__" = some (some (.builtin "object.__class__")))
    (x_i2_Machine : PySem.W.specialIn K (.builtin "object.__class__") "__get__" = some (some (.builtin "getset_descriptor.__get__")))
    (x_i3_Machine : PySem.W.takesIn K (.builtin "object.__class__") = some true)
    (x_i4_Machine : PySem.W.mroIn K c_Machine (.type "object") = some true)
    (l_LETTERS : ∀ H : Hp, SqT K H a_LETTERS [V.str "a", V.str "b", V.str "c", V.str "d"]) : Txt K mg :=
  Txt.mk (K := K) (mg := mg)
    (a_longer_rows)
    (_)
    (fun_mk (st := s_longer_rows) l_longer_rows c_longer_rows kk_longer_rows)
    ((fun_mk (st := s_longer_rows) l_longer_rows c_longer_rows kk_longer_rows).binds (ps := ["steps", "sign", "rows"]) bb_longer_rows)
    (kk_longer_rows)
    (PySem.W.mg_of X G g_longer_rows)
    (a_Machine_init)
    (_)
    (fun_mk (st := s_Machine_init) l_Machine_init c_Machine_init kk_Machine_init)
    ((fun_mk (st := s_Machine_init) l_Machine_init c_Machine_init kk_Machine_init).binds (ps := ["self", "stands", "steps", "ends"]) bb_Machine_init)
    (kk_Machine_init)
    (a_Machine_stands)
    (_)
    (fun_mk (st := s_Machine_stands) l_Machine_stands c_Machine_stands kk_Machine_stands)
    ((fun_mk (st := s_Machine_stands) l_Machine_stands c_Machine_stands kk_Machine_stands).binds (ps := ["self"]) bb_Machine_stands)
    (kk_Machine_stands)
    (a_Machine_steps)
    (_)
    (fun_mk (st := s_Machine_steps) l_Machine_steps c_Machine_steps kk_Machine_steps)
    ((fun_mk (st := s_Machine_steps) l_Machine_steps c_Machine_steps kk_Machine_steps).binds (ps := ["self"]) bb_Machine_steps)
    (kk_Machine_steps)
    (a_Machine_ends)
    (_)
    (fun_mk (st := s_Machine_ends) l_Machine_ends c_Machine_ends kk_Machine_ends)
    ((fun_mk (st := s_Machine_ends) l_Machine_ends c_Machine_ends kk_Machine_ends).binds (ps := ["self"]) bb_Machine_ends)
    (kk_Machine_ends)
    (a_is_whole_number)
    (_)
    (fun_mk (st := s_is_whole_number) l_is_whole_number c_is_whole_number kk_is_whole_number)
    ((fun_mk (st := s_is_whole_number) l_is_whole_number c_is_whole_number kk_is_whole_number).binds (ps := ["value"]) bb_is_whole_number)
    (kk_is_whole_number)
    (PySem.W.mg_of X G g_is_whole_number)
    (a_is_integer_between)
    (_)
    (fun_mk (st := s_is_integer_between) l_is_integer_between c_is_integer_between kk_is_integer_between)
    ((fun_mk (st := s_is_integer_between) l_is_integer_between c_is_integer_between kk_is_integer_between).binds (ps := ["value", "least", "most"]) bb_is_integer_between)
    (kk_is_integer_between)
    (PySem.W.mg_of X G g_is_integer_between)
    (a_is_stand)
    (_)
    (fun_mk (st := s_is_stand) l_is_stand c_is_stand kk_is_stand)
    ((fun_mk (st := s_is_stand) l_is_stand c_is_stand kk_is_stand).binds (ps := ["stands", "value"]) bb_is_stand)
    (kk_is_stand)
    (PySem.W.mg_of X G g_is_stand)
    (a_check_stands)
    (_)
    (fun_mk (st := s_check_stands) l_check_stands c_check_stands kk_check_stands)
    ((fun_mk (st := s_check_stands) l_check_stands c_check_stands kk_check_stands).binds (ps := ["stands"]) bb_check_stands)
    (kk_check_stands)
    (PySem.W.mg_of X G g_check_stands)
    (a_is_step)
    (_)
    (fun_mk (st := s_is_step) l_is_step c_is_step kk_is_step)
    ((fun_mk (st := s_is_step) l_is_step c_is_step kk_is_step).binds (ps := ["stands", "value"]) bb_is_step)
    (kk_is_step)
    (PySem.W.mg_of X G g_is_step)
    (a_check_steps)
    (_)
    (fun_mk (st := s_check_steps) l_check_steps c_check_steps kk_check_steps)
    ((fun_mk (st := s_check_steps) l_check_steps c_check_steps kk_check_steps).binds (ps := ["stands", "steps"]) bb_check_steps)
    (kk_check_steps)
    (PySem.W.mg_of X G g_check_steps)
    (a_is_ascending)
    (_)
    (fun_mk (st := s_is_ascending) l_is_ascending c_is_ascending kk_is_ascending)
    ((fun_mk (st := s_is_ascending) l_is_ascending c_is_ascending kk_is_ascending).binds (ps := ["value", "many"]) bb_is_ascending)
    (kk_is_ascending)
    (PySem.W.mg_of X G g_is_ascending)
    (a_check_ends)
    (_)
    (fun_mk (st := s_check_ends) l_check_ends c_check_ends kk_check_ends)
    ((fun_mk (st := s_check_ends) l_check_ends c_check_ends kk_check_ends).binds (ps := ["stands", "ends"]) bb_check_ends)
    (kk_check_ends)
    (PySem.W.mg_of X G g_check_ends)
    (a_check_machine)
    (_)
    (fun_mk (st := s_check_machine) l_check_machine c_check_machine kk_check_machine)
    ((fun_mk (st := s_check_machine) l_check_machine c_check_machine kk_check_machine).binds (ps := ["value"]) bb_check_machine)
    (kk_check_machine)
    (PySem.W.mg_of X G g_check_machine)
    (a_loop_above)
    (_)
    (fun_mk (st := s_loop_above) l_loop_above c_loop_above kk_loop_above)
    ((fun_mk (st := s_loop_above) l_loop_above c_loop_above kk_loop_above).binds (ps := ["machine", "stand"]) bb_loop_above)
    (kk_loop_above)
    (PySem.W.mg_of X G g_loop_above)
    (a_led_back)
    (_)
    (fun_mk (st := s_led_back) l_led_back c_led_back kk_led_back)
    ((fun_mk (st := s_led_back) l_led_back c_led_back kk_led_back).binds (ps := ["machine", "ways"]) bb_led_back)
    (kk_led_back)
    (PySem.W.mg_of X G g_led_back)
    (a_lasting_ways)
    (_)
    (fun_mk (st := s_lasting_ways) l_lasting_ways c_lasting_ways kk_lasting_ways)
    ((fun_mk (st := s_lasting_ways) l_lasting_ways c_lasting_ways kk_lasting_ways).binds (ps := ["machine"]) bb_lasting_ways)
    (kk_lasting_ways)
    (PySem.W.mg_of X G g_lasting_ways)
    (a_lasting)
    (_)
    (fun_mk (st := s_lasting) l_lasting c_lasting kk_lasting)
    ((fun_mk (st := s_lasting) l_lasting c_lasting kk_lasting).binds (ps := ["machine"]) bb_lasting)
    (kk_lasting)
    (PySem.W.mg_of X G g_lasting)
    (a_credit)
    (_)
    (fun_mk (st := s_credit) l_credit c_credit kk_credit)
    ((fun_mk (st := s_credit) l_credit c_credit kk_credit).binds (ps := ["machine"]) bb_credit)
    (kk_credit)
    (PySem.W.mg_of X G g_credit)
    (a_law_taken)
    (_)
    (fun_mk (st := s_law_taken) l_law_taken c_law_taken kk_law_taken)
    ((fun_mk (st := s_law_taken) l_law_taken c_law_taken kk_law_taken).binds (ps := ["_law_row", "_law_many"]) bb_law_taken)
    (kk_law_taken)
    (PySem.W.mg_of X G g_law_taken)
    (a_law_parts)
    (_)
    (fun_mk (st := s_law_parts) l_law_parts c_law_parts kk_law_parts)
    ((fun_mk (st := s_law_parts) l_law_parts c_law_parts kk_law_parts).binds (ps := ["_law_row", "_law_stands", "_law_size"]) bb_law_parts)
    (kk_law_parts)
    (PySem.W.mg_of X G g_law_parts)
    (a_law_next)
    (_)
    (fun_mk (st := s_law_next) l_law_next c_law_next kk_law_next)
    ((fun_mk (st := s_law_next) l_law_next c_law_next kk_law_next).binds (ps := ["_law_d", "_law_stand"]) bb_law_next)
    (kk_law_next)
    (PySem.W.mg_of X G g_law_next)
    (a_law_lives)
    (_)
    (fun_mk (st := s_law_lives) l_law_lives c_law_lives kk_law_lives)
    ((fun_mk (st := s_law_lives) l_law_lives c_law_lives kk_law_lives).binds (ps := ["_law_d", "_law_most"]) bb_law_lives)
    (kk_law_lives)
    (PySem.W.mg_of X G g_law_lives)
    (a_law)
    (_)
    (fun_mk (st := s_law) l_law c_law kk_law)
    ((fun_mk (st := s_law) l_law c_law kk_law).binds (ps := ["_law_script"]) bb_law)
    (kk_law)
    (PySem.W.mg_of X G g_law)
    (c_Machine)
    (⟨pg_Machine, hd_Machine, po_Machine, sa_Machine⟩)
    (PySem.W.mg_of X G g_Machine)
    (⟨mi_Machine, fi_Machine, if_Machine, kc_Machine⟩)
    (nf_stands)
    (nf_steps)
    (nf_ends)
    (q_stands)
    (⟨pf_stands, pt_stands, pk_stands, ⟨_, pr_stands⟩⟩)
    (q_steps)
    (⟨pf_steps, pt_steps, pk_steps, ⟨_, pr_steps⟩⟩)
    (q_ends)
    (⟨pf_ends, pt_ends, pk_ends, ⟨_, pr_ends⟩⟩)
    (x_i1_Machine)
    (x_i2_Machine)
    (x_i3_Machine)
    (x_i4_Machine)
    (.int 8 t_MOST_STANDS)
    (PySem.W.mg_of X G g_MOST_STANDS)
    (⟨_, rfl⟩)
    (.int 1000000000000000000000000000000 t_MOST_GAIN)
    (PySem.W.mg_of X G g_MOST_GAIN)
    (⟨_, rfl⟩)
    (a_LETTERS)
    (PySem.W.mg_of X G g_LETTERS)
    (rfl)
    (l_LETTERS)
    (PySem.W.mg_none_of X G zz_any)
    (PySem.W.mg_none_of X G zz_bool)
    (PySem.W.mg_none_of X G zz_enumerate)
    (PySem.W.mg_none_of X G zz_int)
    (PySem.W.mg_none_of X G zz_isinstance)
    (PySem.W.mg_none_of X G zz_len)
    (PySem.W.mg_none_of X G zz_list)
    (PySem.W.mg_none_of X G zz_max)
    (PySem.W.mg_none_of X G zz_min)
    (PySem.W.mg_none_of X G zz_range)
    (PySem.W.mg_none_of X G zz_sorted)
    (PySem.W.mg_none_of X G zz_str)
    (PySem.W.mg_none_of X G zz_tuple)
    (fun s v => .of_eq rfl)
theorem all_mk {l : PySem.W.OpenLaw} {w : World} {K : PySem.W.Frag} {mg : Str → Option Value} {fa : Addr} (T : Txt K mg) (hfa : mg "law" = some (.ref fa)) :
    ∃ fd : FuncData, (∀ (s : Shared) (v : Value), BindsTo s fd ⟨[v], []⟩ [("_law_script", v)]) ∧ ∀ base : Heap, K.In base → base.Ns mainGlobals mg → FnOk l.prog w K mg base (L2.CX l.prog w) 30 fa fd ["_law_script"] (sp_law K) := by
  have e := hfa.symm.trans T.m_law
  cases e
  exact ⟨T.fd_law, T.bs_law, fun _ _ _ => ok_law T⟩
/-! ### the head by facts: the names that the law comes to, read off the run's end -/
section
open He
theorem map_join {α β γ δ : Type} {o : Option α} {a : α → β} {b : α → γ} {c : α → δ} {A : β} {B : γ} {C : δ} (h1 : o.map (fun x => a x) = some A) (h2 : o.map (fun x => b x) = some B) (h3 : o.map (fun x => c x) = some C) : o.map (fun x => (a x, b x, c x)) = some (A, B, C) := by
  cases o with
  | none => cases h1
  | some x =>
    have e1 : a x = A := Option.some.inj h1
    have e2 : b x = B := Option.some.inj h2
    have e3 : c x = C := Option.some.inj h3
    show some (a x, b x, c x) = _
    rw [e1, e2, e3]
def asN (g : Addr → Option Obj) (names : List Str) : List Addr := names.filterMap fun x => match PySem.W.nsIn (frG g [mainGlobals]) mainGlobals x with
  | some (some (.ref a)) => some a
  | _ => none
/-- what a function, a class, a table, a property names: a code object's own things are not looked at -/
def refsS (o : Obj) : List Addr := match o.data with
  | .seq its _ => its.toList.flatMap refV
  | .dict es _ => es.toList.flatMap fun e => refV e.val
  | .func fd => refV fd.code
  | .cls cd => cd.ns :: cd.mro.flatMap refV
  | .fields vs => (match o.cls with
    | .type c => (match decide (c = "property") with
      | true => vs.toList.flatMap refV
      | false => [])
    | _ => [])
  | _ => []
def newS (g : Addr → Option Obj) (as : List Addr) : List Addr := as.flatMap fun a => match g a with
  | some o => refsS o
  | none => []
/-- what is new at each step alone goes on -/
def grN (g : Addr → Option Obj) : Nat → List Addr → List Addr
  | 0, as => as
  | n + 1, as => as ++ grN g n (newS g as)
def frK (names : List Str) (n : Nat) (g : Addr → Option Obj) : PySem.W.Frag := frG g (mainGlobals :: cStatics :: grN g n (asN g names))
/-- a def of the text: its function's address as the written part tells it, what it must hold -/
structure FnA where
  ad : PySem.W.Frag → Addr
  name : Str
  qual : Str
  params : Arguments
  body : List Stmt
  scope : Scope
def FnSaid (K : PySem.W.Frag) (d : FnA) : Prop := ∃ oc od osl kV doc pm an cdv ct, K.lookup (d.ad K) = some ⟨oc, od, .func (PySem.W.fnOf d.name d.qual d.params d.body d.scope .none kV doc pm an cdv ct), osl⟩ ∧ PySem.W.codeIn K cdv d.qual = true
abbrev FnT : Type := Str × Str × Arguments × FuncBody × Scope × Addr × List (Str × Addr) × Value × Addr × Bool
def seenA (K : PySem.W.Frag) (d : FnA) : Option FnT := (K.lookup (d.ad K)).bind fun o => match o.data with
  | .func u => some (u.name, u.qualname, u.params, u.body, u.scope, u.globals, u.closure, u.defaults, u.builtins, PySem.W.codeIn K u.code d.qual)
  | _ => none
def wishA (d : FnA) : Option FnT := some (d.name, d.qual, d.params, .stmts d.body, d.scope, mainGlobals, [], .none, builtinsNs, true)
theorem seenA_ok {K : PySem.W.Frag} {d : FnA} (e : seenA K d = wishA d) : FnSaid K d := by
  obtain ⟨o, ho, e2⟩ := Option.bind_eq_some_iff.mp e
  obtain ⟨oc, od, dt, osl⟩ := o
  cases dt with
  | func u =>
    obtain ⟨u1, u2, u3, u4, u5, u6, u7, u8, u9, u10, u11, u12, u13, u14, u15⟩ := u
    have e3 := Option.some.inj e2
    simp only [Prod.mk.injEq] at e3
    obtain ⟨h1, h2, h3, h4, h5, h6, h7, h8, h9, h10⟩ := e3
    subst h1 h2 h3 h4 h5 h6 h7 h8 h9
    exact ⟨oc, od, osl, u9, u10, u11, u12, u13, u14, ho, h10⟩
  | _ => cases e2
abbrev AlF : Type := Bool × List (Option FnT)
def obsF (names : List Str) (n : Nat) (fn : List FnA) (ex : PySem.W.Frag → List Bool) (g : Addr → Option Obj) : AlF := ((ex (frK names n g)).all (fun b => b), fn.map (seenA (frK names n g)))
def valF (fn : List FnA) : AlF := (true, fn.map wishA)
theorem said_of {names : List Str} {n : Nat} {fn : List FnA} {ex : PySem.W.Frag → List Bool} {g : Addr → Option Obj} (e : obsF names n fn ex g = valF fn) : (ex (frK names n g)).all (fun b => b) = true ∧ ∀ (i : Nat) (d : FnA), fn[i]? = some d → FnSaid (frK names n g) d := by
  refine ⟨congrArg (fun z : AlF => z.1) e, fun i d h => ?_⟩
  have e3 : fn.map (seenA (frK names n g)) = fn.map wishA := congrArg (fun z : AlF => z.2) e
  have e2 : (fn.map (seenA (frK names n g)))[i]? = (fn.map wishA)[i]? := by rw [e3]
  rw [List.getElem?_map, List.getElem?_map, h] at e2
  exact seenA_ok (Option.some.inj e2)
def hookF (names : List Str) (n : Nat) (fn : List FnA) (ex : PySem.W.Frag → List Bool) : PySem.W.Hook where
  α := AlF
  obs := fun s => obsF names n fn ex s.heap.get?
  val := fun _ => valF fn
  says := fun _ h => ∃ K : PySem.W.Frag, K.In h ∧ (ex K).all (fun b => b) = true ∧ ∀ (i : Nat) (d : FnA), fn[i]? = some d → FnSaid K d
  of := fun _ _ e => ⟨_, frG_in, said_of e⟩
  keeps := fun _ _ _ ⟨K, hK, c⟩ k => ⟨K, PySem.W.Frag.In.keeps hK k, c⟩
theorem row_ok {l : List Bool} (h : l.all (fun b => b) = true) (i : Nat) {b : Bool} (e : l[i]? = some b) : b = true := List.all_eq_true.mp h b (List.mem_of_getElem? e)
theorem int_k {K : PySem.W.Frag} {x : Str} {i : Int} (c : (Fa.int x i).ok K = true) : ∃ t, PySem.W.nsIn K mainGlobals x = some (some (.int i t)) := by
  have c2 : (match PySem.W.nsIn K mainGlobals x with
    | some (some (.int j _)) => decide (j = i)
    | _ => false) = true := c
  cases e : PySem.W.nsIn K mainGlobals x with
  | none => rw [e] at c2; cases c2
  | some o =>
    rw [e] at c2
    cases o with
    | none => cases c2
    | some v =>
      cases v with
      | int j t =>
        have ej : j = i := of_decide_eq_true c2
        rw [ej]
        exact ⟨t, rfl⟩
      | _ => cases c2
theorem str_k {K : PySem.W.Frag} {x z : Str} (c : (Fa.str x z).ok K = true) : ∃ t, PySem.W.nsIn K mainGlobals x = some (some (.str z t)) := by
  have c2 : (match PySem.W.nsIn K mainGlobals x with
    | some (some (.str y _)) => decide (y = z)
    | _ => false) = true := c
  cases e : PySem.W.nsIn K mainGlobals x with
  | none => rw [e] at c2; cases c2
  | some o =>
    rw [e] at c2
    cases o with
    | none => cases c2
    | some v =>
      cases v with
      | str y t =>
        have ej : y = z := of_decide_eq_true c2
        rw [ej]
        exact ⟨t, rfl⟩
      | _ => cases c2
/-- the getter's function of a property, the base behind an exception's class -/
def pgA (K : PySem.W.Frag) (C p : Str) : Addr := match PySem.W.recIn K (ma K (ga K C) p) "property" with
  | some (.ref a :: _) => a
  | _ => 0
def pgB (K : PySem.W.Frag) (C p : Str) : Bool := match PySem.W.recIn K (ma K (ga K C) p) "property" with
  | some (.ref _ :: _) => true
  | _ => false
theorem pgB_ok {K : PySem.W.Frag} {C p : Str} (h : pgB K C p = true) : ∃ rest, PySem.W.recIn K (ma K (ga K C) p) "property" = some (.ref (pgA K C p) :: rest) := by
  unfold pgB at h
  unfold pgA
  cases e : PySem.W.recIn K (ma K (ga K C) p) "property" with
  | none => rw [e] at h; cases h
  | some l =>
    cases l with
    | nil => rw [e] at h; cases h
    | cons v r =>
      cases v with
      | ref a => exact ⟨r, rfl⟩
      | _ => rw [e] at h; cases h
def fvB (K : PySem.W.Frag) (C : Addr) : Bool := match PySem.W.findCls K (.ref C) (.type "type") "__init__" with
  | some (.val (.builtin b)) => decide (b = "ValueError.__init__")
  | _ => false
theorem fvB_ok {K : PySem.W.Frag} {C : Addr} (h : fvB K C = true) : PySem.W.findCls K (.ref C) (.type "type") "__init__" = some (.val (.builtin "ValueError.__init__")) := by
  unfold fvB at h
  split at h
  · rename_i b e
    rw [e, of_decide_eq_true h]
  · cases h
def exclB (K : PySem.W.Frag) (C : Addr) : Bool := match K.lookup C with
  | some ⟨.type t, _, .cls cd, sl⟩ => (match cd.mro, sl.toList with
    | .ref D :: bm, [_, _, _, _, some (.builtin b), _] => decide (t = "type") && (decide (D = C) && (decide (b = "ValueError.__new__") && (decide (cd.hasDel = false) && (decide (cd.hasDict = true) && PySem.HandSPX.refsVE bm))))
    | _, _ => false)
  | _ => false
theorem exclB_ok {K : PySem.W.Frag} {C : Addr} (h : exclB K C = true) : ∃ nm q N bs bm sn sub ab col dd k0 k1 k2 k3 k5, K.lookup C = some (excClassObj nm q C N bs bm true sn sub ab col dd k0 k1 k2 k3 k5 "ValueError.__new__") ∧ PySem.HandSPX.refsVE bm = true := by
  unfold exclB at h
  split at h
  · rename_i t dd cd sl ho
    split at h
    · rename_i D bm k0 k1 k2 k3 b k5 hm hs
      obtain ⟨h1, h⟩ := ba h
      obtain ⟨h2, h⟩ := ba h
      obtain ⟨h3, h⟩ := ba h
      obtain ⟨h4, h⟩ := ba h
      obtain ⟨h5, h6⟩ := ba h
      obtain ⟨nm, bs, mro, ns, qn, hd, sn, sub, ab, col, del⟩ := cd
      have q1 := of_decide_eq_true h1
      have q2 := of_decide_eq_true h2
      have q3 := of_decide_eq_true h3
      have q4 : del = false := of_decide_eq_true h4
      have q5 : hd = true := of_decide_eq_true h5
      have q6 : mro = .ref D :: bm := hm
      clear h1 h2 h3 h4 h5 hm
      have hsl : sl = #[k0, k1, k2, k3, some (.builtin b), k5] := by
        obtain ⟨l⟩ := sl
        have hs : l = [k0, k1, k2, k3, some (.builtin b), k5] := hs
        rw [hs]
      clear hs
      subst q1 q2 q3 q4 q5 q6 hsl
      exact ⟨nm, qn, ns, bs, bm, sn, sub, ab, col, dd, k0, k1, k2, k3, k5, ho, h6⟩
    · cases h
  · cases h
def nm_0 : List Str := ["longer_rows", "is_whole_number", "is_integer_between", "_is_stand", "_check_stands", "_is_step", "_check_steps", "is_ascending", "_check_ends", "check_machine", "_loop_above", "_led_back", "_lasting_ways", "lasting", "credit", "_law_taken", "_law_parts", "_law_next", "_law_lives", "law", "Machine", "LETTERS"]
def nms : List Str := nm_0
def fd_longer_rows : FnA := ⟨fun K => fAd K ("longer_rows", none), "longer_rows", "longer_rows", defArgs s_longer_rows, defBody s_longer_rows, defScope s_longer_rows⟩
def fd_Machine_init : FnA := ⟨fun K => fAd K ("Machine", some "__init__"), "__init__", "Machine.__init__", defArgs s_Machine_init, defBody s_Machine_init, defScope s_Machine_init⟩
def fd_Machine_stands : FnA := ⟨fun K => pgA K "Machine" "stands", "stands", "Machine.stands", defArgs s_Machine_stands, defBody s_Machine_stands, defScope s_Machine_stands⟩
def fd_Machine_steps : FnA := ⟨fun K => pgA K "Machine" "steps", "steps", "Machine.steps", defArgs s_Machine_steps, defBody s_Machine_steps, defScope s_Machine_steps⟩
def fd_Machine_ends : FnA := ⟨fun K => pgA K "Machine" "ends", "ends", "Machine.ends", defArgs s_Machine_ends, defBody s_Machine_ends, defScope s_Machine_ends⟩
def fd_is_whole_number : FnA := ⟨fun K => fAd K ("is_whole_number", none), "is_whole_number", "is_whole_number", defArgs s_is_whole_number, defBody s_is_whole_number, defScope s_is_whole_number⟩
def fd_is_integer_between : FnA := ⟨fun K => fAd K ("is_integer_between", none), "is_integer_between", "is_integer_between", defArgs s_is_integer_between, defBody s_is_integer_between, defScope s_is_integer_between⟩
def fd_is_stand : FnA := ⟨fun K => fAd K ("_is_stand", none), "_is_stand", "_is_stand", defArgs s_is_stand, defBody s_is_stand, defScope s_is_stand⟩
def fd_check_stands : FnA := ⟨fun K => fAd K ("_check_stands", none), "_check_stands", "_check_stands", defArgs s_check_stands, defBody s_check_stands, defScope s_check_stands⟩
def fd_is_step : FnA := ⟨fun K => fAd K ("_is_step", none), "_is_step", "_is_step", defArgs s_is_step, defBody s_is_step, defScope s_is_step⟩
def fd_check_steps : FnA := ⟨fun K => fAd K ("_check_steps", none), "_check_steps", "_check_steps", defArgs s_check_steps, defBody s_check_steps, defScope s_check_steps⟩
def fd_is_ascending : FnA := ⟨fun K => fAd K ("is_ascending", none), "is_ascending", "is_ascending", defArgs s_is_ascending, defBody s_is_ascending, defScope s_is_ascending⟩
def fd_check_ends : FnA := ⟨fun K => fAd K ("_check_ends", none), "_check_ends", "_check_ends", defArgs s_check_ends, defBody s_check_ends, defScope s_check_ends⟩
def fd_check_machine : FnA := ⟨fun K => fAd K ("check_machine", none), "check_machine", "check_machine", defArgs s_check_machine, defBody s_check_machine, defScope s_check_machine⟩
def fd_loop_above : FnA := ⟨fun K => fAd K ("_loop_above", none), "_loop_above", "_loop_above", defArgs s_loop_above, defBody s_loop_above, defScope s_loop_above⟩
def fd_led_back : FnA := ⟨fun K => fAd K ("_led_back", none), "_led_back", "_led_back", defArgs s_led_back, defBody s_led_back, defScope s_led_back⟩
def fd_lasting_ways : FnA := ⟨fun K => fAd K ("_lasting_ways", none), "_lasting_ways", "_lasting_ways", defArgs s_lasting_ways, defBody s_lasting_ways, defScope s_lasting_ways⟩
def fd_lasting : FnA := ⟨fun K => fAd K ("lasting", none), "lasting", "lasting", defArgs s_lasting, defBody s_lasting, defScope s_lasting⟩
def fd_credit : FnA := ⟨fun K => fAd K ("credit", none), "credit", "credit", defArgs s_credit, defBody s_credit, defScope s_credit⟩
def fd_law_taken : FnA := ⟨fun K => fAd K ("_law_taken", none), "_law_taken", "_law_taken", defArgs s_law_taken, defBody s_law_taken, defScope s_law_taken⟩
def fd_law_parts : FnA := ⟨fun K => fAd K ("_law_parts", none), "_law_parts", "_law_parts", defArgs s_law_parts, defBody s_law_parts, defScope s_law_parts⟩
def fd_law_next : FnA := ⟨fun K => fAd K ("_law_next", none), "_law_next", "_law_next", defArgs s_law_next, defBody s_law_next, defScope s_law_next⟩
def fd_law_lives : FnA := ⟨fun K => fAd K ("_law_lives", none), "_law_lives", "_law_lives", defArgs s_law_lives, defBody s_law_lives, defScope s_law_lives⟩
def fd_law : FnA := ⟨fun K => fAd K ("law", none), "law", "law", defArgs s_law, defBody s_law, defScope s_law⟩
def fn_0 : List FnA := [fd_longer_rows, fd_Machine_init, fd_Machine_stands, fd_Machine_steps, fd_Machine_ends, fd_is_whole_number, fd_is_integer_between, fd_is_stand, fd_check_stands, fd_is_step, fd_check_steps, fd_is_ascending, fd_check_ends, fd_check_machine, fd_loop_above, fd_led_back, fd_lasting_ways, fd_lasting, fd_credit, fd_law_taken, fd_law_parts, fd_law_next, fd_law_lives, fd_law]
def fns : List FnA := fn_0
def ex_0 (K : PySem.W.Frag) : List Bool := [
    decide (PySem.W.nsIn K mainGlobals "longer_rows" = some (some (.ref (fAd K ("longer_rows", none))))),
    decide (PySem.W.nsIn K mainGlobals "is_whole_number" = some (some (.ref (fAd K ("is_whole_number", none))))),
    decide (PySem.W.nsIn K mainGlobals "is_integer_between" = some (some (.ref (fAd K ("is_integer_between", none))))),
    decide (PySem.W.nsIn K mainGlobals "_is_stand" = some (some (.ref (fAd K ("_is_stand", none))))),
    decide (PySem.W.nsIn K mainGlobals "_check_stands" = some (some (.ref (fAd K ("_check_stands", none))))),
    decide (PySem.W.nsIn K mainGlobals "_is_step" = some (some (.ref (fAd K ("_is_step", none))))),
    decide (PySem.W.nsIn K mainGlobals "_check_steps" = some (some (.ref (fAd K ("_check_steps", none))))),
    decide (PySem.W.nsIn K mainGlobals "is_ascending" = some (some (.ref (fAd K ("is_ascending", none))))),
    decide (PySem.W.nsIn K mainGlobals "_check_ends" = some (some (.ref (fAd K ("_check_ends", none))))),
    decide (PySem.W.nsIn K mainGlobals "check_machine" = some (some (.ref (fAd K ("check_machine", none))))),
    decide (PySem.W.nsIn K mainGlobals "_loop_above" = some (some (.ref (fAd K ("_loop_above", none))))),
    decide (PySem.W.nsIn K mainGlobals "_led_back" = some (some (.ref (fAd K ("_led_back", none))))),
    decide (PySem.W.nsIn K mainGlobals "_lasting_ways" = some (some (.ref (fAd K ("_lasting_ways", none))))),
    decide (PySem.W.nsIn K mainGlobals "lasting" = some (some (.ref (fAd K ("lasting", none))))),
    decide (PySem.W.nsIn K mainGlobals "credit" = some (some (.ref (fAd K ("credit", none))))),
    decide (PySem.W.nsIn K mainGlobals "_law_taken" = some (some (.ref (fAd K ("_law_taken", none))))),
    decide (PySem.W.nsIn K mainGlobals "_law_parts" = some (some (.ref (fAd K ("_law_parts", none))))),
    decide (PySem.W.nsIn K mainGlobals "_law_next" = some (some (.ref (fAd K ("_law_next", none))))),
    decide (PySem.W.nsIn K mainGlobals "_law_lives" = some (some (.ref (fAd K ("_law_lives", none))))),
    decide (PySem.W.nsIn K mainGlobals "law" = some (some (.ref (fAd K ("law", none))))),
    decide (PySem.W.nsIn K mainGlobals "Machine" = some (some (.ref (ga K "Machine")))),
    (Fa.int "MOST_STANDS" (8)).ok K,
    (Fa.int "MOST_GAIN" (1000000000000000000000000000000)).ok K,
    decide (PySem.W.nsIn K mainGlobals "LETTERS" = some (some (.ref (ga K "LETTERS")))),
    decide (PySem.W.nsIn K mainGlobals "any" = some none)]
def ex_1 (K : PySem.W.Frag) : List Bool := [
    decide (PySem.W.nsIn K mainGlobals "bool" = some none),
    decide (PySem.W.nsIn K mainGlobals "enumerate" = some none),
    decide (PySem.W.nsIn K mainGlobals "int" = some none),
    decide (PySem.W.nsIn K mainGlobals "isinstance" = some none),
    decide (PySem.W.nsIn K mainGlobals "len" = some none),
    decide (PySem.W.nsIn K mainGlobals "list" = some none),
    decide (PySem.W.nsIn K mainGlobals "max" = some none),
    decide (PySem.W.nsIn K mainGlobals "min" = some none),
    decide (PySem.W.nsIn K mainGlobals "range" = some none),
    decide (PySem.W.nsIn K mainGlobals "sorted" = some none),
    decide (PySem.W.nsIn K mainGlobals "str" = some none),
    decide (PySem.W.nsIn K mainGlobals "tuple" = some none),
    decide (PySem.W.keepIn K (.ref (fAd K ("longer_rows", none))) = true),
    decide (PySem.W.keepIn K (.ref (fAd K ("Machine", some "__init__"))) = true),
    decide (PySem.W.keepIn K (.ref (pgA K "Machine" "stands")) = true),
    decide (PySem.W.keepIn K (.ref (pgA K "Machine" "steps")) = true),
    decide (PySem.W.keepIn K (.ref (pgA K "Machine" "ends")) = true),
    decide (PySem.W.keepIn K (.ref (fAd K ("is_whole_number", none))) = true),
    decide (PySem.W.keepIn K (.ref (fAd K ("is_integer_between", none))) = true),
    decide (PySem.W.keepIn K (.ref (fAd K ("_is_stand", none))) = true),
    decide (PySem.W.keepIn K (.ref (fAd K ("_check_stands", none))) = true),
    decide (PySem.W.keepIn K (.ref (fAd K ("_is_step", none))) = true),
    decide (PySem.W.keepIn K (.ref (fAd K ("_check_steps", none))) = true),
    decide (PySem.W.keepIn K (.ref (fAd K ("is_ascending", none))) = true),
    decide (PySem.W.keepIn K (.ref (fAd K ("_check_ends", none))) = true)]
def ex_2 (K : PySem.W.Frag) : List Bool := [
    decide (PySem.W.keepIn K (.ref (fAd K ("check_machine", none))) = true),
    decide (PySem.W.keepIn K (.ref (fAd K ("_loop_above", none))) = true),
    decide (PySem.W.keepIn K (.ref (fAd K ("_led_back", none))) = true),
    decide (PySem.W.keepIn K (.ref (fAd K ("_lasting_ways", none))) = true),
    decide (PySem.W.keepIn K (.ref (fAd K ("lasting", none))) = true),
    decide (PySem.W.keepIn K (.ref (fAd K ("credit", none))) = true),
    decide (PySem.W.keepIn K (.ref (fAd K ("_law_taken", none))) = true),
    decide (PySem.W.keepIn K (.ref (fAd K ("_law_parts", none))) = true),
    decide (PySem.W.keepIn K (.ref (fAd K ("_law_next", none))) = true),
    decide (PySem.W.keepIn K (.ref (fAd K ("_law_lives", none))) = true),
    decide (PySem.W.keepIn K (.ref (fAd K ("law", none))) = true),
    decide (PySem.W.plainGet K (ga K "Machine") Str.empty = true),
    decide (PySem.W.hasDictIn K (ga K "Machine") = true),
    decide (PySem.W.plainOver K (ga K "Machine") = true),
    decide (PySem.W.findIn K (.ref (ga K "Machine")) "__setattr__" = some (some (.builtin "object.__setattr__"))),
    decide (PySem.W.makesIn K (ga K "Machine") = true),
    decide (PySem.W.keepIn K (.ref (ga K "Machine")) = true),
    decide (PySem.W.findIn K (.ref (ga K "Machine")) "__init__" = some (some (.ref (fAd K ("Machine", some "__init__"))))),
    decide (PySem.W.isFn K (.ref (fAd K ("Machine", some "__init__"))) = true),
    decide (PySem.W.findIn K (.ref (ga K "Machine")) "_stands" = some none),
    decide (PySem.W.findIn K (.ref (ga K "Machine")) "_steps" = some none),
    decide (PySem.W.findIn K (.ref (ga K "Machine")) "_ends" = some none),
    decide (PySem.W.findIn K (.ref (ga K "Machine")) "stands" = some (some (.ref (ma K (ga K "Machine") "stands")))),
    decide (PySem.W.specialIn K (.ref (ma K (ga K "Machine") "stands")) "__get__" = some (some (.builtin "property.__get__"))),
    decide (PySem.W.takesIn K (.ref (ma K (ga K "Machine") "stands")) = some true)]
def ex_3 (K : PySem.W.Frag) : List Bool := [
    pgB K "Machine" "stands",
    decide (PySem.W.findIn K (.ref (ga K "Machine")) "steps" = some (some (.ref (ma K (ga K "Machine") "steps")))),
    decide (PySem.W.specialIn K (.ref (ma K (ga K "Machine") "steps")) "__get__" = some (some (.builtin "property.__get__"))),
    decide (PySem.W.takesIn K (.ref (ma K (ga K "Machine") "steps")) = some true),
    pgB K "Machine" "steps",
    decide (PySem.W.findIn K (.ref (ga K "Machine")) "ends" = some (some (.ref (ma K (ga K "Machine") "ends")))),
    decide (PySem.W.specialIn K (.ref (ma K (ga K "Machine") "ends")) "__get__" = some (some (.builtin "property.__get__"))),
    decide (PySem.W.takesIn K (.ref (ma K (ga K "Machine") "ends")) = some true),
    pgB K "Machine" "ends",
    decide (PySem.W.findIn K (.ref (ga K "Machine")) "__class__" = some (some (.builtin "object.__class__"))),
    decide (PySem.W.specialIn K (.builtin "object.__class__") "__get__" = some (some (.builtin "getset_descriptor.__get__"))),
    decide (PySem.W.takesIn K (.builtin "object.__class__") = some true),
    decide (PySem.W.mroIn K (ga K "Machine") (.type "object") = some true),
    tupB K "LETTERS" [.str "a", .str "b", .str "c", .str "d"]]
def exs (K : PySem.W.Frag) : List Bool := [(ex_0 K).all fun b => b, (ex_1 K).all fun b => b, (ex_2 K).all fun b => b, (ex_3 K).all fun b => b]
theorem txt_of {K : PySem.W.Frag} {h : Heap} {mg : Str → Option Value} (X : K.In h) (G : h.Ns mainGlobals mg) (he : (exs K).all (fun b => b) = true) (hf : ∀ (i : Nat) (d : FnA), fns[i]? = some d → FnSaid K d) : Nonempty (Txt K mg) := by
  have e0 := row_ok he 0 (b := (ex_0 K).all fun b => b) rfl
  have e1 := row_ok he 1 (b := (ex_1 K).all fun b => b) rfl
  have e2 := row_ok he 2 (b := (ex_2 K).all fun b => b) rfl
  have e3 := row_ok he 3 (b := (ex_3 K).all fun b => b) rfl
  obtain ⟨oc_longer_rows, od_longer_rows, sl_longer_rows, kV_longer_rows, dc_longer_rows, pm_longer_rows, an_longer_rows, cd_longer_rows, ct_longer_rows, l_longer_rows, c_longer_rows⟩ := hf 0 fd_longer_rows rfl
  obtain ⟨oc_Machine_init, od_Machine_init, sl_Machine_init, kV_Machine_init, dc_Machine_init, pm_Machine_init, an_Machine_init, cd_Machine_init, ct_Machine_init, l_Machine_init, c_Machine_init⟩ := hf 1 fd_Machine_init rfl
  obtain ⟨oc_Machine_stands, od_Machine_stands, sl_Machine_stands, kV_Machine_stands, dc_Machine_stands, pm_Machine_stands, an_Machine_stands, cd_Machine_stands, ct_Machine_stands, l_Machine_stands, c_Machine_stands⟩ := hf 2 fd_Machine_stands rfl
  obtain ⟨oc_Machine_steps, od_Machine_steps, sl_Machine_steps, kV_Machine_steps, dc_Machine_steps, pm_Machine_steps, an_Machine_steps, cd_Machine_steps, ct_Machine_steps, l_Machine_steps, c_Machine_steps⟩ := hf 3 fd_Machine_steps rfl
  obtain ⟨oc_Machine_ends, od_Machine_ends, sl_Machine_ends, kV_Machine_ends, dc_Machine_ends, pm_Machine_ends, an_Machine_ends, cd_Machine_ends, ct_Machine_ends, l_Machine_ends, c_Machine_ends⟩ := hf 4 fd_Machine_ends rfl
  obtain ⟨oc_is_whole_number, od_is_whole_number, sl_is_whole_number, kV_is_whole_number, dc_is_whole_number, pm_is_whole_number, an_is_whole_number, cd_is_whole_number, ct_is_whole_number, l_is_whole_number, c_is_whole_number⟩ := hf 5 fd_is_whole_number rfl
  obtain ⟨oc_is_integer_between, od_is_integer_between, sl_is_integer_between, kV_is_integer_between, dc_is_integer_between, pm_is_integer_between, an_is_integer_between, cd_is_integer_between, ct_is_integer_between, l_is_integer_between, c_is_integer_between⟩ := hf 6 fd_is_integer_between rfl
  obtain ⟨oc_is_stand, od_is_stand, sl_is_stand, kV_is_stand, dc_is_stand, pm_is_stand, an_is_stand, cd_is_stand, ct_is_stand, l_is_stand, c_is_stand⟩ := hf 7 fd_is_stand rfl
  obtain ⟨oc_check_stands, od_check_stands, sl_check_stands, kV_check_stands, dc_check_stands, pm_check_stands, an_check_stands, cd_check_stands, ct_check_stands, l_check_stands, c_check_stands⟩ := hf 8 fd_check_stands rfl
  obtain ⟨oc_is_step, od_is_step, sl_is_step, kV_is_step, dc_is_step, pm_is_step, an_is_step, cd_is_step, ct_is_step, l_is_step, c_is_step⟩ := hf 9 fd_is_step rfl
  obtain ⟨oc_check_steps, od_check_steps, sl_check_steps, kV_check_steps, dc_check_steps, pm_check_steps, an_check_steps, cd_check_steps, ct_check_steps, l_check_steps, c_check_steps⟩ := hf 10 fd_check_steps rfl
  obtain ⟨oc_is_ascending, od_is_ascending, sl_is_ascending, kV_is_ascending, dc_is_ascending, pm_is_ascending, an_is_ascending, cd_is_ascending, ct_is_ascending, l_is_ascending, c_is_ascending⟩ := hf 11 fd_is_ascending rfl
  obtain ⟨oc_check_ends, od_check_ends, sl_check_ends, kV_check_ends, dc_check_ends, pm_check_ends, an_check_ends, cd_check_ends, ct_check_ends, l_check_ends, c_check_ends⟩ := hf 12 fd_check_ends rfl
  obtain ⟨oc_check_machine, od_check_machine, sl_check_machine, kV_check_machine, dc_check_machine, pm_check_machine, an_check_machine, cd_check_machine, ct_check_machine, l_check_machine, c_check_machine⟩ := hf 13 fd_check_machine rfl
  obtain ⟨oc_loop_above, od_loop_above, sl_loop_above, kV_loop_above, dc_loop_above, pm_loop_above, an_loop_above, cd_loop_above, ct_loop_above, l_loop_above, c_loop_above⟩ := hf 14 fd_loop_above rfl
  obtain ⟨oc_led_back, od_led_back, sl_led_back, kV_led_back, dc_led_back, pm_led_back, an_led_back, cd_led_back, ct_led_back, l_led_back, c_led_back⟩ := hf 15 fd_led_back rfl
  obtain ⟨oc_lasting_ways, od_lasting_ways, sl_lasting_ways, kV_lasting_ways, dc_lasting_ways, pm_lasting_ways, an_lasting_ways, cd_lasting_ways, ct_lasting_ways, l_lasting_ways, c_lasting_ways⟩ := hf 16 fd_lasting_ways rfl
  obtain ⟨oc_lasting, od_lasting, sl_lasting, kV_lasting, dc_lasting, pm_lasting, an_lasting, cd_lasting, ct_lasting, l_lasting, c_lasting⟩ := hf 17 fd_lasting rfl
  obtain ⟨oc_credit, od_credit, sl_credit, kV_credit, dc_credit, pm_credit, an_credit, cd_credit, ct_credit, l_credit, c_credit⟩ := hf 18 fd_credit rfl
  obtain ⟨oc_law_taken, od_law_taken, sl_law_taken, kV_law_taken, dc_law_taken, pm_law_taken, an_law_taken, cd_law_taken, ct_law_taken, l_law_taken, c_law_taken⟩ := hf 19 fd_law_taken rfl
  obtain ⟨oc_law_parts, od_law_parts, sl_law_parts, kV_law_parts, dc_law_parts, pm_law_parts, an_law_parts, cd_law_parts, ct_law_parts, l_law_parts, c_law_parts⟩ := hf 20 fd_law_parts rfl
  obtain ⟨oc_law_next, od_law_next, sl_law_next, kV_law_next, dc_law_next, pm_law_next, an_law_next, cd_law_next, ct_law_next, l_law_next, c_law_next⟩ := hf 21 fd_law_next rfl
  obtain ⟨oc_law_lives, od_law_lives, sl_law_lives, kV_law_lives, dc_law_lives, pm_law_lives, an_law_lives, cd_law_lives, ct_law_lives, l_law_lives, c_law_lives⟩ := hf 22 fd_law_lives rfl
  obtain ⟨oc_law, od_law, sl_law, kV_law, dc_law, pm_law, an_law, cd_law, ct_law, l_law, c_law⟩ := hf 23 fd_law rfl
  obtain ⟨t_MOST_STANDS, g_MOST_STANDS⟩ := int_k (row_ok e0 21 (b := (Fa.int "MOST_STANDS" (8)).ok K) rfl)
  obtain ⟨t_MOST_GAIN, g_MOST_GAIN⟩ := int_k (row_ok e0 22 (b := (Fa.int "MOST_GAIN" (1000000000000000000000000000000)).ok K) rfl)
  obtain ⟨rest_stands, pr_stands⟩ := pgB_ok (row_ok e3 0 (b := pgB K "Machine" "stands") rfl)
  obtain ⟨rest_steps, pr_steps⟩ := pgB_ok (row_ok e3 4 (b := pgB K "Machine" "steps") rfl)
  obtain ⟨rest_ends, pr_ends⟩ := pgB_ok (row_ok e3 8 (b := pgB K "Machine" "ends") rfl)
  exact ⟨txt_mk X G
    (of_decide_eq_true (row_ok e0 0 (b := decide (PySem.W.nsIn K mainGlobals "longer_rows" = some (some (.ref (fAd K ("longer_rows", none)))))) rfl))
    (of_decide_eq_true (row_ok e0 1 (b := decide (PySem.W.nsIn K mainGlobals "is_whole_number" = some (some (.ref (fAd K ("is_whole_number", none)))))) rfl))
    (of_decide_eq_true (row_ok e0 2 (b := decide (PySem.W.nsIn K mainGlobals "is_integer_between" = some (some (.ref (fAd K ("is_integer_between", none)))))) rfl))
    (of_decide_eq_true (row_ok e0 3 (b := decide (PySem.W.nsIn K mainGlobals "_is_stand" = some (some (.ref (fAd K ("_is_stand", none)))))) rfl))
    (of_decide_eq_true (row_ok e0 4 (b := decide (PySem.W.nsIn K mainGlobals "_check_stands" = some (some (.ref (fAd K ("_check_stands", none)))))) rfl))
    (of_decide_eq_true (row_ok e0 5 (b := decide (PySem.W.nsIn K mainGlobals "_is_step" = some (some (.ref (fAd K ("_is_step", none)))))) rfl))
    (of_decide_eq_true (row_ok e0 6 (b := decide (PySem.W.nsIn K mainGlobals "_check_steps" = some (some (.ref (fAd K ("_check_steps", none)))))) rfl))
    (of_decide_eq_true (row_ok e0 7 (b := decide (PySem.W.nsIn K mainGlobals "is_ascending" = some (some (.ref (fAd K ("is_ascending", none)))))) rfl))
    (of_decide_eq_true (row_ok e0 8 (b := decide (PySem.W.nsIn K mainGlobals "_check_ends" = some (some (.ref (fAd K ("_check_ends", none)))))) rfl))
    (of_decide_eq_true (row_ok e0 9 (b := decide (PySem.W.nsIn K mainGlobals "check_machine" = some (some (.ref (fAd K ("check_machine", none)))))) rfl))
    (of_decide_eq_true (row_ok e0 10 (b := decide (PySem.W.nsIn K mainGlobals "_loop_above" = some (some (.ref (fAd K ("_loop_above", none)))))) rfl))
    (of_decide_eq_true (row_ok e0 11 (b := decide (PySem.W.nsIn K mainGlobals "_led_back" = some (some (.ref (fAd K ("_led_back", none)))))) rfl))
    (of_decide_eq_true (row_ok e0 12 (b := decide (PySem.W.nsIn K mainGlobals "_lasting_ways" = some (some (.ref (fAd K ("_lasting_ways", none)))))) rfl))
    (of_decide_eq_true (row_ok e0 13 (b := decide (PySem.W.nsIn K mainGlobals "lasting" = some (some (.ref (fAd K ("lasting", none)))))) rfl))
    (of_decide_eq_true (row_ok e0 14 (b := decide (PySem.W.nsIn K mainGlobals "credit" = some (some (.ref (fAd K ("credit", none)))))) rfl))
    (of_decide_eq_true (row_ok e0 15 (b := decide (PySem.W.nsIn K mainGlobals "_law_taken" = some (some (.ref (fAd K ("_law_taken", none)))))) rfl))
    (of_decide_eq_true (row_ok e0 16 (b := decide (PySem.W.nsIn K mainGlobals "_law_parts" = some (some (.ref (fAd K ("_law_parts", none)))))) rfl))
    (of_decide_eq_true (row_ok e0 17 (b := decide (PySem.W.nsIn K mainGlobals "_law_next" = some (some (.ref (fAd K ("_law_next", none)))))) rfl))
    (of_decide_eq_true (row_ok e0 18 (b := decide (PySem.W.nsIn K mainGlobals "_law_lives" = some (some (.ref (fAd K ("_law_lives", none)))))) rfl))
    (of_decide_eq_true (row_ok e0 19 (b := decide (PySem.W.nsIn K mainGlobals "law" = some (some (.ref (fAd K ("law", none)))))) rfl))
    (of_decide_eq_true (row_ok e0 20 (b := decide (PySem.W.nsIn K mainGlobals "Machine" = some (some (.ref (ga K "Machine"))))) rfl))
    g_MOST_STANDS
    g_MOST_GAIN
    (of_decide_eq_true (row_ok e0 23 (b := decide (PySem.W.nsIn K mainGlobals "LETTERS" = some (some (.ref (ga K "LETTERS"))))) rfl))
    (of_decide_eq_true (row_ok e0 24 (b := decide (PySem.W.nsIn K mainGlobals "any" = some none)) rfl))
    (of_decide_eq_true (row_ok e1 0 (b := decide (PySem.W.nsIn K mainGlobals "bool" = some none)) rfl))
    (of_decide_eq_true (row_ok e1 1 (b := decide (PySem.W.nsIn K mainGlobals "enumerate" = some none)) rfl))
    (of_decide_eq_true (row_ok e1 2 (b := decide (PySem.W.nsIn K mainGlobals "int" = some none)) rfl))
    (of_decide_eq_true (row_ok e1 3 (b := decide (PySem.W.nsIn K mainGlobals "isinstance" = some none)) rfl))
    (of_decide_eq_true (row_ok e1 4 (b := decide (PySem.W.nsIn K mainGlobals "len" = some none)) rfl))
    (of_decide_eq_true (row_ok e1 5 (b := decide (PySem.W.nsIn K mainGlobals "list" = some none)) rfl))
    (of_decide_eq_true (row_ok e1 6 (b := decide (PySem.W.nsIn K mainGlobals "max" = some none)) rfl))
    (of_decide_eq_true (row_ok e1 7 (b := decide (PySem.W.nsIn K mainGlobals "min" = some none)) rfl))
    (of_decide_eq_true (row_ok e1 8 (b := decide (PySem.W.nsIn K mainGlobals "range" = some none)) rfl))
    (of_decide_eq_true (row_ok e1 9 (b := decide (PySem.W.nsIn K mainGlobals "sorted" = some none)) rfl))
    (of_decide_eq_true (row_ok e1 10 (b := decide (PySem.W.nsIn K mainGlobals "str" = some none)) rfl))
    (of_decide_eq_true (row_ok e1 11 (b := decide (PySem.W.nsIn K mainGlobals "tuple" = some none)) rfl))
    l_longer_rows
    c_longer_rows
    (of_decide_eq_true (row_ok e1 12 (b := decide (PySem.W.keepIn K (.ref (fAd K ("longer_rows", none))) = true)) rfl))
    l_Machine_init
    c_Machine_init
    (of_decide_eq_true (row_ok e1 13 (b := decide (PySem.W.keepIn K (.ref (fAd K ("Machine", some "__init__"))) = true)) rfl))
    l_Machine_stands
    c_Machine_stands
    (of_decide_eq_true (row_ok e1 14 (b := decide (PySem.W.keepIn K (.ref (pgA K "Machine" "stands")) = true)) rfl))
    l_Machine_steps
    c_Machine_steps
    (of_decide_eq_true (row_ok e1 15 (b := decide (PySem.W.keepIn K (.ref (pgA K "Machine" "steps")) = true)) rfl))
    l_Machine_ends
    c_Machine_ends
    (of_decide_eq_true (row_ok e1 16 (b := decide (PySem.W.keepIn K (.ref (pgA K "Machine" "ends")) = true)) rfl))
    l_is_whole_number
    c_is_whole_number
    (of_decide_eq_true (row_ok e1 17 (b := decide (PySem.W.keepIn K (.ref (fAd K ("is_whole_number", none))) = true)) rfl))
    l_is_integer_between
    c_is_integer_between
    (of_decide_eq_true (row_ok e1 18 (b := decide (PySem.W.keepIn K (.ref (fAd K ("is_integer_between", none))) = true)) rfl))
    l_is_stand
    c_is_stand
    (of_decide_eq_true (row_ok e1 19 (b := decide (PySem.W.keepIn K (.ref (fAd K ("_is_stand", none))) = true)) rfl))
    l_check_stands
    c_check_stands
    (of_decide_eq_true (row_ok e1 20 (b := decide (PySem.W.keepIn K (.ref (fAd K ("_check_stands", none))) = true)) rfl))
    l_is_step
    c_is_step
    (of_decide_eq_true (row_ok e1 21 (b := decide (PySem.W.keepIn K (.ref (fAd K ("_is_step", none))) = true)) rfl))
    l_check_steps
    c_check_steps
    (of_decide_eq_true (row_ok e1 22 (b := decide (PySem.W.keepIn K (.ref (fAd K ("_check_steps", none))) = true)) rfl))
    l_is_ascending
    c_is_ascending
    (of_decide_eq_true (row_ok e1 23 (b := decide (PySem.W.keepIn K (.ref (fAd K ("is_ascending", none))) = true)) rfl))
    l_check_ends
    c_check_ends
    (of_decide_eq_true (row_ok e1 24 (b := decide (PySem.W.keepIn K (.ref (fAd K ("_check_ends", none))) = true)) rfl))
    l_check_machine
    c_check_machine
    (of_decide_eq_true (row_ok e2 0 (b := decide (PySem.W.keepIn K (.ref (fAd K ("check_machine", none))) = true)) rfl))
    l_loop_above
    c_loop_above
    (of_decide_eq_true (row_ok e2 1 (b := decide (PySem.W.keepIn K (.ref (fAd K ("_loop_above", none))) = true)) rfl))
    l_led_back
    c_led_back
    (of_decide_eq_true (row_ok e2 2 (b := decide (PySem.W.keepIn K (.ref (fAd K ("_led_back", none))) = true)) rfl))
    l_lasting_ways
    c_lasting_ways
    (of_decide_eq_true (row_ok e2 3 (b := decide (PySem.W.keepIn K (.ref (fAd K ("_lasting_ways", none))) = true)) rfl))
    l_lasting
    c_lasting
    (of_decide_eq_true (row_ok e2 4 (b := decide (PySem.W.keepIn K (.ref (fAd K ("lasting", none))) = true)) rfl))
    l_credit
    c_credit
    (of_decide_eq_true (row_ok e2 5 (b := decide (PySem.W.keepIn K (.ref (fAd K ("credit", none))) = true)) rfl))
    l_law_taken
    c_law_taken
    (of_decide_eq_true (row_ok e2 6 (b := decide (PySem.W.keepIn K (.ref (fAd K ("_law_taken", none))) = true)) rfl))
    l_law_parts
    c_law_parts
    (of_decide_eq_true (row_ok e2 7 (b := decide (PySem.W.keepIn K (.ref (fAd K ("_law_parts", none))) = true)) rfl))
    l_law_next
    c_law_next
    (of_decide_eq_true (row_ok e2 8 (b := decide (PySem.W.keepIn K (.ref (fAd K ("_law_next", none))) = true)) rfl))
    l_law_lives
    c_law_lives
    (of_decide_eq_true (row_ok e2 9 (b := decide (PySem.W.keepIn K (.ref (fAd K ("_law_lives", none))) = true)) rfl))
    l_law
    c_law
    (of_decide_eq_true (row_ok e2 10 (b := decide (PySem.W.keepIn K (.ref (fAd K ("law", none))) = true)) rfl))
    (of_decide_eq_true (row_ok e2 11 (b := decide (PySem.W.plainGet K (ga K "Machine") Str.empty = true)) rfl))
    (of_decide_eq_true (row_ok e2 12 (b := decide (PySem.W.hasDictIn K (ga K "Machine") = true)) rfl))
    (of_decide_eq_true (row_ok e2 13 (b := decide (PySem.W.plainOver K (ga K "Machine") = true)) rfl))
    (of_decide_eq_true (row_ok e2 14 (b := decide (PySem.W.findIn K (.ref (ga K "Machine")) "__setattr__" = some (some (.builtin "object.__setattr__")))) rfl))
    (of_decide_eq_true (row_ok e2 15 (b := decide (PySem.W.makesIn K (ga K "Machine") = true)) rfl))
    (of_decide_eq_true (row_ok e2 16 (b := decide (PySem.W.keepIn K (.ref (ga K "Machine")) = true)) rfl))
    (of_decide_eq_true (row_ok e2 17 (b := decide (PySem.W.findIn K (.ref (ga K "Machine")) "__init__" = some (some (.ref (fAd K ("Machine", some "__init__")))))) rfl))
    (of_decide_eq_true (row_ok e2 18 (b := decide (PySem.W.isFn K (.ref (fAd K ("Machine", some "__init__"))) = true)) rfl))
    (of_decide_eq_true (row_ok e2 19 (b := decide (PySem.W.findIn K (.ref (ga K "Machine")) "_stands" = some none)) rfl))
    (of_decide_eq_true (row_ok e2 20 (b := decide (PySem.W.findIn K (.ref (ga K "Machine")) "_steps" = some none)) rfl))
    (of_decide_eq_true (row_ok e2 21 (b := decide (PySem.W.findIn K (.ref (ga K "Machine")) "_ends" = some none)) rfl))
    (of_decide_eq_true (row_ok e2 22 (b := decide (PySem.W.findIn K (.ref (ga K "Machine")) "stands" = some (some (.ref (ma K (ga K "Machine") "stands"))))) rfl))
    (of_decide_eq_true (row_ok e2 23 (b := decide (PySem.W.specialIn K (.ref (ma K (ga K "Machine") "stands")) "__get__" = some (some (.builtin "property.__get__")))) rfl))
    (of_decide_eq_true (row_ok e2 24 (b := decide (PySem.W.takesIn K (.ref (ma K (ga K "Machine") "stands")) = some true)) rfl))
    pr_stands
    (of_decide_eq_true (row_ok e3 1 (b := decide (PySem.W.findIn K (.ref (ga K "Machine")) "steps" = some (some (.ref (ma K (ga K "Machine") "steps"))))) rfl))
    (of_decide_eq_true (row_ok e3 2 (b := decide (PySem.W.specialIn K (.ref (ma K (ga K "Machine") "steps")) "__get__" = some (some (.builtin "property.__get__")))) rfl))
    (of_decide_eq_true (row_ok e3 3 (b := decide (PySem.W.takesIn K (.ref (ma K (ga K "Machine") "steps")) = some true)) rfl))
    pr_steps
    (of_decide_eq_true (row_ok e3 5 (b := decide (PySem.W.findIn K (.ref (ga K "Machine")) "ends" = some (some (.ref (ma K (ga K "Machine") "ends"))))) rfl))
    (of_decide_eq_true (row_ok e3 6 (b := decide (PySem.W.specialIn K (.ref (ma K (ga K "Machine") "ends")) "__get__" = some (some (.builtin "property.__get__")))) rfl))
    (of_decide_eq_true (row_ok e3 7 (b := decide (PySem.W.takesIn K (.ref (ma K (ga K "Machine") "ends")) = some true)) rfl))
    pr_ends
    (of_decide_eq_true (row_ok e3 9 (b := decide (PySem.W.findIn K (.ref (ga K "Machine")) "__class__" = some (some (.builtin "object.__class__")))) rfl))
    (of_decide_eq_true (row_ok e3 10 (b := decide (PySem.W.specialIn K (.builtin "object.__class__") "__get__" = some (some (.builtin "getset_descriptor.__get__")))) rfl))
    (of_decide_eq_true (row_ok e3 11 (b := decide (PySem.W.takesIn K (.builtin "object.__class__") = some true)) rfl))
    (of_decide_eq_true (row_ok e3 12 (b := decide (PySem.W.mroIn K (ga K "Machine") (.type "object") = some true)) rfl))
    (fun H => tupB_ok (row_ok e3 13 (b := tupB K "LETTERS" [.str "a", .str "b", .str "c", .str "d"]) rfl) H)⟩
end
/-! ### the run of the top -/
open PySem.W PySem.Calls PyProof.Rows in
abbrev R : PySem.W.OpenRow := PySem.W.OpenLaw.row PySem.Challenge.rw_staytallies_k13_whole_credits
abbrev qv : Program := PySem.W.view R.prog [33]
def lo_0 : List Str := ["TallyError", "BadStands", "BadSteps", "BadEnds", "BadMachine", "longer_rows", "MOST_STANDS", "MOST_GAIN", "LETTERS", "Machine", "is_whole_number", "is_integer_between", "_is_stand", "_check_stands", "_is_step", "_check_steps", "is_ascending", "_check_ends", "check_machine", "_loop_above", "_led_back", "_lasting_ways", "lasting", "credit", "_law_taken", "_law_parts", "_law_next", "_law_lives"]
def los : List Str := lo_0
abbrev hk : PySem.W.Hook := hookF nms 4 fns exs
def ob (s : PySem.W.SharedT) : AlF := obsF nms 4 fns exs (HandSHeadRun.getT s)
theorem ob_eq (s : PySem.W.SharedT) : ob s = hk.obs s.abs := by
  have e : HandSHeadRun.getT s = s.abs.heap.get? := funext (HandSHeadRun.getT_eq s)
  show obsF nms 4 fns exs (HandSHeadRun.getT s) = obsF nms 4 fns exs s.abs.heap.get?
  rw [e]
set_option maxHeartbeats 0 in
theorem run_at1 (w : World) : (HandSHeadRun.wholeF (fun p => HandSHeadRun.stepQ (HandSHeadRun.denQ HandSHeadRun.tabQ) p w) HandSHeadRun.fenceQ 20000 R.prog).map (fun x => HandSHeadRun.looksF R.prog x.1.heap x.2.abs) = some true := by
  kernel_rfl
set_option maxHeartbeats 0 in
theorem run_at2 (w : World) : (HandSHeadRun.wholeF (fun p => HandSHeadRun.stepQ (HandSHeadRun.denQ HandSHeadRun.tabQ) p w) HandSHeadRun.fenceQ 20000 R.prog).map (fun x => HandSHeadRun.seenQ qv los (PySem.importedModules R.prog.main.body) (fun s => PySem.W.xlAt qv [] s && PySem.W.recOk R.toRowW.records s) x.2.abs) = some (PySem.W.openGood qv los) := by
  kernel_rfl
set_option maxHeartbeats 0 in
theorem run_at3 (w : World) : (HandSHeadRun.wholeF (fun p => HandSHeadRun.stepQ (HandSHeadRun.denQ HandSHeadRun.tabQ) p w) HandSHeadRun.fenceQ 20000 R.prog).map (fun x => ob x.2) = some (valF fns) := by
  kernel_rfl
theorem run_at (w : World) : HandSHeadRun.RunEqI R qv hk ob 20000 los w := by
  delta HandSHeadRun.RunEqI
  exact map_join (run_at1 w) (run_at2 w) (run_at3 w)
theorem walkH {l : PySem.W.OpenLaw} {q : Program} {loose : List Str} {XP : (Str → Option Value) → Heap → Prop} {YP : World → Heap → Prop} {d : DefRec} (hn : l.most = some 63) (hdf : d.params.defaults = [])
    (F : ∀ (w : World) (mg : Str → Option Value) (fa : Addr) (h : Heap), YP w h → h.Ns mainGlobals mg → mg d.name = some (.ref fa) → ∃ K : PySem.W.Frag, K.In h ∧
      ∃ fd : FuncData, (∀ (s : Shared) (u : Value), BindsTo s fd ⟨[u], []⟩ [("_law_script", u)]) ∧ ∀ base : Heap, K.In base → base.Ns mainGlobals mg → FnOk l.prog w K mg base (L2.CX l.prog w) 30 fa fd ["_law_script"] (sp_law K)) :
    PySem.W.WalkO q loose XP YP l.row.toRowW d [] (fun f vs => PySem.call f vs) := by
  refine Att.attach_call hn hdf fun w s₀ s₁ mg mb fa o pm cd doc a vs ns G Y ho hd hcd hmg hobj hints hlen hg => ?_
  obtain ⟨K, KX, fd, hb, hF⟩ := F w mg fa _ Y G.T.g hmg
  refine law_call KX G.T.g G.T.b G.T.builtins G.T.nolimit hg hobj hints (Nat.le_trans hlen (by decide)) ⟨rfl, by decide, by decide⟩ hF hb (fun H hO hS => ⟨a, ns, rfl, by
      rcases hS with (e | ⟨o, e⟩) | h
      · rcases hO a with z | ⟨_, _, z⟩
        · rw [e] at z; cases z
        · rw [e] at z; cases z
      · exact .inl ⟨o, e⟩
      · exact .inr fun _ => .inr h, hlen, fun _ => rfl⟩) fun H e s' h => ?_
  obtain ⟨_, _, _, _, _, _, _, _, _, _, _, _, z⟩ := h
  exact z.elim
end Sv
open PySem PySem.W PySem.Calls PyProof.Rows in
set_option maxRecDepth 100000 in
set_option maxHeartbeats 0 in
theorem PySem.Challenge.cw_staytallies_k13_whole_credits_holds : PySem.Challenge.rw_staytallies_k13_whole_credits.Holds := by
  w_on; o_law
  refine HandSHeadRun.head_imp (r := Sv.R) (q := Sv.qv) (H := Sv.hk) (ob := Sv.ob) (M := 20000) (loose := Sv.los) (d := HandSHeadRun.topDef Sv.R.prog 33) (kwd := []) Sv.ob_eq Sv.run_at (by kernel_rfl) (by kernel_rfl) (by kernel_rfl) (by rfl) (by first | assumption | decide +kernel) (by decide +kernel) ⟨rfl, rfl, rfl, rfl, rfl, by decide +kernel⟩ ?hw ?hc
  case hw => w_witness2
  case hc =>
    refine Sv.walkH (l := PySem.Challenge.rw_staytallies_k13_whole_credits) rfl (by kernel_rfl) ?F
    intro w mg fa h Y G hmg
    obtain ⟨K, KX, he, hf⟩ := Y
    have hmg2 : mg "law" = some (.ref fa) := by
      have e : (HandSHeadRun.topDef Sv.R.prog 33).name = ("law" : PySem.Str) := by kernel_rfl
      rw [← e]
      exact hmg
    obtain ⟨T⟩ := Sv.txt_of KX G he hf
    exact ⟨K, KX, Sv.all_mk T hmg2⟩
#print axioms PySem.Challenge.cw_staytallies_k13_whole_credits_holds
