import PyProof.Rows.All
import Wide.All
import OpenK.AllK
import Wide.FinOn
import HandS.ForMost
import HandS.ForExc
import HandS.Wide
import HandS.Property
import HandS.IsInst
import HandS.TupAny
import HandS.TupLe
import HandS.Style
import HandS.Flow
import HandS.ExcInit
import HandS.ExcField
import HandS.FStr
import HandS.OwnEq
import KE.GoesMore
import HandS.Codes
import HandS.DictComp
import HandS.Walk
import HandS.SortInts
import HandS.TupMul
import HandS.Gcd
import HandS.Head3
import HandS.HeadHook2
import HandS.SetKeys
import PySem.Challenge.RW_staytallies_k26_mends_refused
set_option Elab.async false
set_option linter.all false
set_option maxRecDepth 100000
set_option maxHeartbeats 4000000
namespace Sv
open PySem L2
def top (i : Nat) : Stmt := PySem.Challenge.pw_staytallies_k26_mends_refused.main.body.getD i (.Pass ⟨0, 0, 0, 0⟩)
abbrev s_TooMany_init : Stmt := (inClass (top 8) 0)
abbrev s_led_to : Stmt := (top 10)
abbrev s_Machine_init : Stmt := (inClass (top 15) 0)
abbrev s_Machine_stands : Stmt := (inClass (top 15) 1)
abbrev s_Machine_steps : Stmt := (inClass (top 15) 2)
abbrev s_is_whole_number : Stmt := (top 16)
abbrev s_is_integer_between : Stmt := (top 17)
abbrev s_is_stand : Stmt := (top 18)
abbrev s_check_stands : Stmt := (top 19)
abbrev s_is_step : Stmt := (top 20)
abbrev s_check_steps : Stmt := (top 21)
abbrev s_is_ascending : Stmt := (top 23)
abbrev s_check_ends : Stmt := (top 24)
abbrev s_check_machine : Stmt := (top 25)
abbrev s_reached : Stmt := (top 26)
abbrev s_check_steps_mends : Stmt := (top 29)
abbrev s_places_on_loops : Stmt := (top 31)
abbrev s_spread : Stmt := (top 32)
abbrev s_numbers : Stmt := (top 33)
abbrev s_numbers_without : Stmt := (top 34)
abbrev s_mends : Stmt := (top 36)
abbrev s_mended : Stmt := (top 37)
abbrev s_law_taken : Stmt := (top 39)
abbrev s_law_refused : Stmt := (top 40)
abbrev s_law : Stmt := (top 41)
theorem sc_TooMany_init : FnScope ["self", "most"] ["self", "most"] (defScope s_TooMany_init) := ⟨rfl, rfl, rfl, by decide +kernel, rfl, by decide +kernel, by decide +kernel⟩
theorem sc_led_to : FnScope ["steps", "begins", "found", "waiting", "stand", "begun", "_", "end"] ["steps", "begins"] (defScope s_led_to) := ⟨rfl, rfl, rfl, by decide +kernel, rfl, by decide +kernel, by decide +kernel⟩
theorem sc_Machine_init : FnScope ["self", "stands", "steps", "ends"] ["self", "stands", "steps", "ends"] (defScope s_Machine_init) := ⟨rfl, rfl, rfl, by decide +kernel, rfl, by decide +kernel, by decide +kernel⟩
theorem sc_Machine_stands : FnScope ["self"] ["self"] (defScope s_Machine_stands) := ⟨rfl, rfl, rfl, by decide +kernel, rfl, by decide +kernel, by decide +kernel⟩
theorem sc_Machine_steps : FnScope ["self"] ["self"] (defScope s_Machine_steps) := ⟨rfl, rfl, rfl, by decide +kernel, rfl, by decide +kernel, by decide +kernel⟩
theorem sc_is_whole_number : FnScope ["value"] ["value"] (defScope s_is_whole_number) := ⟨rfl, rfl, rfl, by decide +kernel, rfl, by decide +kernel, by decide +kernel⟩
theorem sc_is_integer_between : FnScope ["value", "least", "most"] ["value", "least", "most"] (defScope s_is_integer_between) := ⟨rfl, rfl, rfl, by decide +kernel, rfl, by decide +kernel, by decide +kernel⟩
theorem sc_is_stand : FnScope ["stands", "value"] ["stands", "value"] (defScope s_is_stand) := ⟨rfl, rfl, rfl, by decide +kernel, rfl, by decide +kernel, by decide +kernel⟩
theorem sc_check_stands : FnScope ["stands"] ["stands"] (defScope s_check_stands) := ⟨rfl, rfl, rfl, by decide +kernel, rfl, by decide +kernel, by decide +kernel⟩
theorem sc_is_step : FnScope ["stands", "value", "begun", "letter", "end", "gain"] ["stands", "value"] (defScope s_is_step) := ⟨rfl, rfl, rfl, by decide +kernel, rfl, by decide +kernel, by decide +kernel⟩
theorem sc_check_steps : FnScope ["stands", "steps", "index", "step"] ["stands", "steps"] (defScope s_check_steps) := ⟨rfl, rfl, rfl, by decide +kernel, rfl, by decide +kernel, by decide +kernel⟩
theorem sc_is_ascending : FnScope ["value", "many", "least", "number"] ["value", "many"] (defScope s_is_ascending) := ⟨rfl, rfl, rfl, by decide +kernel, rfl, by decide +kernel, by decide +kernel⟩
theorem sc_check_ends : FnScope ["stands", "ends"] ["stands", "ends"] (defScope s_check_ends) := ⟨rfl, rfl, rfl, by decide +kernel, rfl, by decide +kernel, by decide +kernel⟩
theorem sc_check_machine : FnScope ["value"] ["value"] (defScope s_check_machine) := ⟨rfl, rfl, rfl, by decide +kernel, rfl, by decide +kernel, by decide +kernel⟩
theorem sc_reached : FnScope ["machine"] ["machine"] (defScope s_reached) := ⟨rfl, rfl, rfl, by decide +kernel, rfl, by decide +kernel, by decide +kernel⟩
theorem sc_check_steps_mends : FnScope ["machine"] ["machine"] (defScope s_check_steps_mends) := ⟨rfl, rfl, rfl, by decide +kernel, rfl, by decide +kernel, by decide +kernel⟩
theorem sc_places_on_loops : FnScope ["machine", "stands", "place", "begun", "_", "end"] ["machine"] (defScope s_places_on_loops) := ⟨rfl, rfl, rfl, by decide +kernel, rfl, by decide +kernel, by decide +kernel⟩
theorem sc_spread : FnScope ["numbers", "steps", "_", "begun", "end", "gain"] ["numbers", "steps"] (defScope s_spread) := ⟨rfl, rfl, rfl, by decide +kernel, rfl, by decide +kernel, by decide +kernel⟩
theorem sc_numbers : FnScope ["many", "steps", "numbers", "stand", "begun", "_", "end", "gain"] ["many", "steps"] (defScope s_numbers) := ⟨rfl, rfl, rfl, by decide +kernel, rfl, by decide +kernel, by decide +kernel⟩
theorem sc_numbers_without : FnScope ["machine", "places", "some", "place"] ["machine", "places", "some"] (defScope s_numbers_without) := ⟨rfl, rfl, rfl, by decide +kernel, rfl, by decide +kernel, by decide +kernel⟩
theorem sc_mends : FnScope ["machine", "places", "many", "found"] ["machine"] (defScope s_mends) := ⟨rfl, rfl, rfl, by decide +kernel, rfl, by decide +kernel, by decide +kernel⟩
theorem sc_mended : FnScope ["machine", "some", "numbers", "place", "begun", "letter", "end", "gain"] ["machine", "some"] (defScope s_mended) := ⟨rfl, rfl, rfl, by decide +kernel, rfl, by decide +kernel, by decide +kernel⟩
theorem sc_law_taken : FnScope ["_law_row", "_law_many", "_law_found", "_law_cell"] ["_law_row", "_law_many"] (defScope s_law_taken) := ⟨rfl, rfl, rfl, by decide +kernel, rfl, by decide +kernel, by decide +kernel⟩
theorem sc_law_refused : FnScope ["_law_kind", "_law_machine", "_law_some", "_law_found", "e"] ["_law_kind", "_law_machine", "_law_some"] (defScope s_law_refused) := ⟨rfl, rfl, rfl, by decide +kernel, rfl, by decide +kernel, by decide +kernel⟩
theorem sc_law : FnScope ["_law_script", "_law_row", "_law_turn", "_law_steps", "_law_begun", "_law_many", "_law_machine", "_law_bad", "_law_letter"] ["_law_script"] (defScope s_law) := ⟨rfl, rfl, rfl, by decide +kernel, rfl, by decide +kernel, by decide +kernel⟩
structure Txt (K : PySem.W.Frag) (mg : Str → Option Value) : Type where
  a_TooMany_init : Addr
  fd_TooMany_init : FuncData
  F_TooMany_init : Fun K "__init__" "TooMany.__init__" s_TooMany_init a_TooMany_init fd_TooMany_init
  b_TooMany_init : Binds K fd_TooMany_init ["self", "most"] []
  k_TooMany_init : PySem.W.keepIn K (.ref a_TooMany_init) = true
  a_led_to : Addr
  fd_led_to : FuncData
  F_led_to : Fun K "led_to" "led_to" s_led_to a_led_to fd_led_to
  b_led_to : Binds K fd_led_to ["steps", "begins"] []
  k_led_to : PySem.W.keepIn K (.ref a_led_to) = true
  m_led_to : mg "led_to" = some (.ref a_led_to)
  a_Machine_init : Addr
  fd_Machine_init : FuncData
  F_Machine_init : Fun K "__init__" "Machine.__init__" s_Machine_init a_Machine_init fd_Machine_init
  b_Machine_init : Binds K fd_Machine_init ["self", "stands", "steps", "ends"] []
  k_Machine_init : PySem.W.keepIn K (.ref a_Machine_init) = true
  a_Machine_stands : Addr
  fd_Machine_stands : FuncData
  F_Machine_stands : Fun K "stands" "Machine.stands" s_Machine_stands a_Machine_stands fd_Machine_stands
  b_Machine_stands : Binds K fd_Machine_stands ["self"] []
  k_Machine_stands : PySem.W.keepIn K (.ref a_Machine_stands) = true
  a_Machine_steps : Addr
  fd_Machine_steps : FuncData
  F_Machine_steps : Fun K "steps" "Machine.steps" s_Machine_steps a_Machine_steps fd_Machine_steps
  b_Machine_steps : Binds K fd_Machine_steps ["self"] []
  k_Machine_steps : PySem.W.keepIn K (.ref a_Machine_steps) = true
  a_is_whole_number : Addr
  fd_is_whole_number : FuncData
  F_is_whole_number : Fun K "is_whole_number" "is_whole_number" s_is_whole_number a_is_whole_number fd_is_whole_number
  b_is_whole_number : Binds K fd_is_whole_number ["value"] []
  k_is_whole_number : PySem.W.keepIn K (.ref a_is_whole_number) = true
  m_is_whole_number : mg "is_whole_number" = some (.ref a_is_whole_number)
  a_is_integer_between : Addr
  fd_is_integer_between : FuncData
  F_is_integer_between : Fun K "is_integer_between" "is_integer_between" s_is_integer_between a_is_integer_between fd_is_integer_between
  b_is_integer_between : Binds K fd_is_integer_between ["value", "least", "most"] []
  k_is_integer_between : PySem.W.keepIn K (.ref a_is_integer_between) = true
  m_is_integer_between : mg "is_integer_between" = some (.ref a_is_integer_between)
  a_is_stand : Addr
  fd_is_stand : FuncData
  F_is_stand : Fun K "_is_stand" "_is_stand" s_is_stand a_is_stand fd_is_stand
  b_is_stand : Binds K fd_is_stand ["stands", "value"] []
  k_is_stand : PySem.W.keepIn K (.ref a_is_stand) = true
  m_is_stand : mg "_is_stand" = some (.ref a_is_stand)
  a_check_stands : Addr
  fd_check_stands : FuncData
  F_check_stands : Fun K "_check_stands" "_check_stands" s_check_stands a_check_stands fd_check_stands
  b_check_stands : Binds K fd_check_stands ["stands"] []
  k_check_stands : PySem.W.keepIn K (.ref a_check_stands) = true
  m_check_stands : mg "_check_stands" = some (.ref a_check_stands)
  a_is_step : Addr
  fd_is_step : FuncData
  F_is_step : Fun K "_is_step" "_is_step" s_is_step a_is_step fd_is_step
  b_is_step : Binds K fd_is_step ["stands", "value"] []
  k_is_step : PySem.W.keepIn K (.ref a_is_step) = true
  m_is_step : mg "_is_step" = some (.ref a_is_step)
  a_check_steps : Addr
  fd_check_steps : FuncData
  F_check_steps : Fun K "_check_steps" "_check_steps" s_check_steps a_check_steps fd_check_steps
  b_check_steps : Binds K fd_check_steps ["stands", "steps"] []
  k_check_steps : PySem.W.keepIn K (.ref a_check_steps) = true
  m_check_steps : mg "check_steps_machines" = some (.ref a_check_steps)
  a_is_ascending : Addr
  fd_is_ascending : FuncData
  F_is_ascending : Fun K "is_ascending" "is_ascending" s_is_ascending a_is_ascending fd_is_ascending
  b_is_ascending : Binds K fd_is_ascending ["value", "many"] []
  k_is_ascending : PySem.W.keepIn K (.ref a_is_ascending) = true
  m_is_ascending : mg "is_ascending" = some (.ref a_is_ascending)
  a_check_ends : Addr
  fd_check_ends : FuncData
  F_check_ends : Fun K "_check_ends" "_check_ends" s_check_ends a_check_ends fd_check_ends
  b_check_ends : Binds K fd_check_ends ["stands", "ends"] []
  k_check_ends : PySem.W.keepIn K (.ref a_check_ends) = true
  m_check_ends : mg "_check_ends" = some (.ref a_check_ends)
  a_check_machine : Addr
  fd_check_machine : FuncData
  F_check_machine : Fun K "check_machine" "check_machine" s_check_machine a_check_machine fd_check_machine
  b_check_machine : Binds K fd_check_machine ["value"] []
  k_check_machine : PySem.W.keepIn K (.ref a_check_machine) = true
  m_check_machine : mg "check_machine" = some (.ref a_check_machine)
  a_reached : Addr
  fd_reached : FuncData
  F_reached : Fun K "reached" "reached" s_reached a_reached fd_reached
  b_reached : Binds K fd_reached ["machine"] []
  k_reached : PySem.W.keepIn K (.ref a_reached) = true
  m_reached : mg "reached" = some (.ref a_reached)
  a_check_steps_mends : Addr
  fd_check_steps_mends : FuncData
  F_check_steps_mends : Fun K "_check_steps" "_check_steps" s_check_steps_mends a_check_steps_mends fd_check_steps_mends
  b_check_steps_mends : Binds K fd_check_steps_mends ["machine"] []
  k_check_steps_mends : PySem.W.keepIn K (.ref a_check_steps_mends) = true
  m_check_steps_mends : mg "check_steps_mends" = some (.ref a_check_steps_mends)
  a_places_on_loops : Addr
  fd_places_on_loops : FuncData
  F_places_on_loops : Fun K "_places_on_loops" "_places_on_loops" s_places_on_loops a_places_on_loops fd_places_on_loops
  b_places_on_loops : Binds K fd_places_on_loops ["machine"] []
  k_places_on_loops : PySem.W.keepIn K (.ref a_places_on_loops) = true
  m_places_on_loops : mg "_places_on_loops" = some (.ref a_places_on_loops)
  a_spread : Addr
  fd_spread : FuncData
  F_spread : Fun K "_spread" "_spread" s_spread a_spread fd_spread
  b_spread : Binds K fd_spread ["numbers", "steps"] []
  k_spread : PySem.W.keepIn K (.ref a_spread) = true
  m_spread : mg "_spread" = some (.ref a_spread)
  a_numbers : Addr
  fd_numbers : FuncData
  F_numbers : Fun K "_numbers" "_numbers" s_numbers a_numbers fd_numbers
  b_numbers : Binds K fd_numbers ["many", "steps"] []
  k_numbers : PySem.W.keepIn K (.ref a_numbers) = true
  m_numbers : mg "_numbers" = some (.ref a_numbers)
  a_numbers_without : Addr
  fd_numbers_without : FuncData
  F_numbers_without : Fun K "_numbers_without" "_numbers_without" s_numbers_without a_numbers_without fd_numbers_without
  b_numbers_without : Binds K fd_numbers_without ["machine", "places", "some"] []
  k_numbers_without : PySem.W.keepIn K (.ref a_numbers_without) = true
  m_numbers_without : mg "_numbers_without" = some (.ref a_numbers_without)
  a_mends : Addr
  fd_mends : FuncData
  F_mends : Fun K "mends" "mends" s_mends a_mends fd_mends
  b_mends : Binds K fd_mends ["machine"] []
  k_mends : PySem.W.keepIn K (.ref a_mends) = true
  m_mends : mg "mends" = some (.ref a_mends)
  a_mended : Addr
  fd_mended : FuncData
  F_mended : Fun K "mended" "mended" s_mended a_mended fd_mended
  b_mended : Binds K fd_mended ["machine", "some"] []
  k_mended : PySem.W.keepIn K (.ref a_mended) = true
  m_mended : mg "mended" = some (.ref a_mended)
  a_law_taken : Addr
  fd_law_taken : FuncData
  F_law_taken : Fun K "_law_taken" "_law_taken" s_law_taken a_law_taken fd_law_taken
  b_law_taken : Binds K fd_law_taken ["_law_row", "_law_many"] []
  k_law_taken : PySem.W.keepIn K (.ref a_law_taken) = true
  m_law_taken : mg "_law_taken" = some (.ref a_law_taken)
  a_law_refused : Addr
  fd_law_refused : FuncData
  F_law_refused : Fun K "_law_refused" "_law_refused" s_law_refused a_law_refused fd_law_refused
  b_law_refused : Binds K fd_law_refused ["_law_kind", "_law_machine", "_law_some"] []
  k_law_refused : PySem.W.keepIn K (.ref a_law_refused) = true
  m_law_refused : mg "_law_refused" = some (.ref a_law_refused)
  a_law : Addr
  fd_law : FuncData
  F_law : Fun K "law" "law" s_law a_law fd_law
  b_law : Binds K fd_law ["_law_script"] []
  k_law : PySem.W.keepIn K (.ref a_law) = true
  m_law : mg "law" = some (.ref a_law)
  c_Machine : Addr
  cl_Machine : Cls K c_Machine
  m_Machine : mg "Machine" = some (.ref c_Machine)
  mk_Machine : Mk K c_Machine a_Machine_init
  n__stands : NoAttr K c_Machine "_stands"
  n__steps : NoAttr K c_Machine "_steps"
  n__ends : NoAttr K c_Machine "_ends"
  q_stands : Addr
  p_stands : PropOf K c_Machine "stands" q_stands a_Machine_stands
  q_steps : Addr
  p_steps : PropOf K c_Machine "steps" q_steps a_Machine_steps
  i1_Machine : PySem.W.findIn K (.ref c_Machine) "__class__" = some (some (.builtin "object.__class__"))
  i2_Machine : PySem.W.specialIn K (.builtin "object.__class__") "__get__" = some (some (.builtin "getset_descriptor.__get__"))
  i3_Machine : PySem.W.takesIn K (.builtin "object.__class__") = some true
  i4_Machine : PySem.W.mroIn K c_Machine (.type "object") = some true
  c_BadSet : Addr
  m_BadSet : mg "BadSet" = some (.ref c_BadSet)
  x_BadSet : PySem.W.excIn K c_BadSet [.type "ValueError", .type "Exception", .type "BaseException", .type "object"] "ValueError.__new__" = true
  k_BadSet : PySem.W.keepIn K (.ref c_BadSet) = true
  b_BadSet : PySem.W.subIn K (.ref c_BadSet) (.type "BaseException") = some true
  t_BadSet : PySem.W.typeIn K (.ref c_BadSet) = some (.type "type")
  e_BadSet : PySem.W.exmOne K (.ref c_BadSet) (.ref c_BadSet) = some true
  c_TooMany : Addr
  m_TooMany : mg "TooMany" = some (.ref c_TooMany)
  o_TooMany : OexC K c_TooMany
  xf_TooMany : XfC K c_TooMany
  ie_TooMany : PySem.W.findIn K (.ref c_TooMany) "__init__" = some (some (.ref a_TooMany_init))
  ti_TooMany : PySem.W.typeIn K (.ref a_TooMany_init) = some (.type "function")
  e_TooMany : PySem.W.exmOne K (.ref c_TooMany) (.ref c_TooMany) = some true
  no_TooMany_most : PySem.W.findIn K (.ref c_TooMany) "most" = some none
  c_TallyError : Addr
  m_TallyError : mg "TallyError" = some (.ref c_TallyError)
  rd_TallyError : PySem.W.readsIn K c_TallyError (.type "type") = true
  fv_TallyError : PySem.W.findCls K (.ref c_TallyError) (.type "type") "__init__" = some (.val (.builtin "ValueError.__init__"))
  sg_TallyError : PySem.W.specialIn K (.ref c_TallyError) "__getattribute__" = some (some (.builtin "type.__getattribute__"))
  er_BadSet_TooMany : PySem.W.exmOne K (.ref c_BadSet) (.ref c_TooMany) = some false
  u_MOST_STANDS : Value
  m_MOST_STANDS : mg "MOST_STANDS" = some u_MOST_STANDS
  r_MOST_STANDS : RelV (V.int 8) u_MOST_STANDS
  u_MOST_GAIN : Value
  m_MOST_GAIN : mg "MOST_GAIN" = some u_MOST_GAIN
  r_MOST_GAIN : RelV (V.int 1000000000000000000000000000000) u_MOST_GAIN
  a_LETTERS : Addr
  m_LETTERS : mg "LETTERS" = some (.ref a_LETTERS)
  r_LETTERS : RelV (V.ref a_LETTERS) (.ref a_LETTERS)
  s_LETTERS : ∀ H : Hp, SqT K H a_LETTERS [V.str "a", V.str "b", V.str "c", V.str "d"]
  u_MOST_STEPS : Value
  m_MOST_STEPS : mg "MOST_STEPS" = some u_MOST_STEPS
  r_MOST_STEPS : RelV (V.int 12) u_MOST_STEPS
  z_all : mg "all" = none
  z_bool : mg "bool" = none
  z_enumerate : mg "enumerate" = none
  z_int : mg "int" = none
  z_isinstance : mg "isinstance" = none
  z_len : mg "len" = none
  z_list : mg "list" = none
  z_range : mg "range" = none
  z_sorted : mg "sorted" = none
  z_str : mg "str" = none
  z_tuple : mg "tuple" = none
  bs_law : ∀ (s : Shared) (v : Value), BindsTo s fd_law ⟨[v], []⟩ [("_law_script", v)]
/-! ### heaps -/
/-- all but a stands as it was -/
def Keep (a : Addr) (H H' : Hp) : Prop := ∀ b o, b ≠ a → H b = some o → H' b = some o
theorem Keep.refl (a : Addr) (H : Hp) : Keep a H H := fun _ _ _ h => h
theorem Keep.trans {a : Addr} {H H1 H2 : Hp} (x : Keep a H H1) (y : Keep a H1 H2) : Keep a H H2 := fun b o n h => y b o n (x b o n h)
theorem Keep.at_ {a : Addr} {H : Hp} {o : HO} : Keep a H (upd H a o) := fun b u n h => by rw [upd_ne n]; exact h
theorem Keep.new {a p : Addr} {H : Hp} {o : HO} (hp : H p = none) : Keep a H (upd H p o) := fun b u _ h => by rw [upd_ne (ne_of_none h hp)]; exact h
theorem Keep.of_same {a : Addr} {H H' : Hp} (x : Same H H') : Keep a H H' := fun b o _ h => x b o h
theorem Same.new {p : Addr} {H : Hp} {o : HO} (hp : H p = none) : Same H (upd H p o) := fun b u h => by rw [upd_ne (ne_of_none h hp)]; exact h
theorem Keep.free {a p : Addr} {H H' : Hp} (x : Keep a H H') (n : p ≠ a) (h : H' p = none) : H p = none := by
  cases q : H p with
  | none => rfl
  | some o => rw [x p o n q] at h; cases h
/-- what H does not know may change -/
theorem Keep.mut {a p : Addr} {H H' : Hp} {o : HO} (x : Keep a H H') (hp : H p = none) : Keep a H (upd H' p o) := fun b u n h => by rw [upd_ne (ne_of_none h hp)]; exact x b u n h
theorem Keep.tup {K : PySem.W.Frag} {a b : Addr} {H H' : Hp} {xs : List V} (x : Keep a H H') (ha : ∃ l, H a = some (.lst l)) (h : SqT K H b xs) : SqT K H' b xs := by
  obtain ⟨l, ha⟩ := ha
  rcases h with (h | ⟨o, h⟩) | h
  · exact .inl (.inl (x _ _ (fun e => by rw [e, ha] at h; cases h) h))
  · exact .inl (.inr ⟨o, x _ _ (fun e => by rw [e, ha] at h; cases h) h⟩)
  · exact .inr h
theorem Keep.lst {K : PySem.W.Frag} {a b : Addr} {H H' : Hp} {xs : List V} (x : Keep a H H') (n : b ≠ a) (h : SqL K H b xs) : SqL K H' b xs := by
  rcases h with (h | ⟨o, h⟩) | h
  · exact .inl (.inl (x _ _ n h))
  · exact .inl (.inr ⟨o, x _ _ n h⟩)
  · exact .inr h
/-- the script: known to the object, or of the written part -/
def ScAt (K : PySem.W.Frag) (H : Hp) (b : Addr) (xs : List V) : Prop := (∃ o, H b = some (.frz o (.lst xs))) ∨ ∀ H', SqL K H' b xs
theorem ScAt.sq {K : PySem.W.Frag} {H : Hp} {b : Addr} {xs : List V} (h : ScAt K H b xs) : SqL K H b xs := by
  rcases h with ⟨o, h⟩ | h
  · exact .inl (.inr ⟨o, h⟩)
  · exact h H
theorem ScAt.keep {K : PySem.W.Frag} {a b : Addr} {H H' : Hp} {xs l : List V} (h : ScAt K H b xs) (k : Keep a H H') (ha : H a = some (.lst l)) : ScAt K H' b xs := by
  rcases h with ⟨o, h⟩ | h
  · exact .inl ⟨o, k _ _ (fun z => by rw [z, ha] at h; cases h) h⟩
  · exact .inr h
theorem ScAt.same {K : PySem.W.Frag} {b : Addr} {H H' : Hp} {xs : List V} (h : ScAt K H b xs) (k : Same H H') : ScAt K H' b xs := by
  rcases h with ⟨o, h⟩ | h
  · exact .inl ⟨o, k _ _ h⟩
  · exact .inr h
/-- the draws' row at a: the script, how many were read, the mixed number, the rest -/
def RowOk (K : PySem.W.Frag) (H : Hp) (a : Addr) : Prop := ∃ (sc : Addr) (ns : List Int) (i z r : Int), H a = some (.lst [.ref sc, .int i, .int z, .int r]) ∧ ScAt K H sc (ns.map V.int) ∧ ns.length ≤ 63 ∧ 0 ≤ i ∧ 0 ≤ z ∧ z < 2147483647
theorem RowOk.lst {K : PySem.W.Frag} {H : Hp} {a : Addr} (h : RowOk K H a) : ∃ l, H a = some (.lst l) := by
  obtain ⟨_, _, _, _, _, e, _⟩ := h; exact ⟨_, e⟩
/-- behind a step that leaves the row and the script as they were -/
theorem RowOk.same {K : PySem.W.Frag} {H H' : Hp} {a : Addr} (h : RowOk K H a) (s : Same H H') : RowOk K H' a := by
  obtain ⟨sc, ns, i, z, r, e, q, rest⟩ := h
  exact ⟨sc, ns, i, z, r, s _ _ e, q.same s, rest⟩
theorem RowOk.keep {K : PySem.W.Frag} {H H' : Hp} {a l : Addr} {xs : List V} (h : RowOk K H a) (n : a ≠ l) (e : H l = some (.lst xs)) (k : Keep l H H') : RowOk K H' a := by
  obtain ⟨sc, is, i, z, r, ea, q, rest⟩ := h
  exact ⟨sc, is, i, z, r, k _ _ n ea, q.keep k e, rest⟩
theorem RowOk.ne {K : PySem.W.Frag} {H : Hp} {a p : Addr} (h : RowOk K H a) (e : H p = none) : a ≠ p := by
  obtain ⟨l, q⟩ := h.lst
  exact ne_of_none q e
theorem free_of {H H' : Hp} {q : Addr} (z : Same H H') (hq : H' q = none) : H q = none := by
  cases e : H q with
  | none => rfl
  | some ob => rw [z _ _ e] at hq; cases hq
theorem unlock_same {H2 H' : Hp} {e : Addr} {od : _} {kvs : List (Key × V)} (he : H2 e = some (.dK kvs)) (z : Same (upd H2 e (.frz od (.dK kvs))) H') : Same H2 (upd H' e (.dK kvs)) := fun b o eb => by
  by_cases c : b = e
  · rw [c, he] at eb
    rw [c, upd_same]
    exact eb
  · rw [upd_ne c]
    exact z _ _ (by rw [upd_ne c]; exact eb)
/-! ### steps: one a combinator -/
section
variable {K : PySem.W.Frag} {σ : L2.St} {H : Hp} {D : Ends} {Q : VK}
theorem k_seq {t u : TS} (h : t { D with nx := u D } σ H) : tSeq t u D σ H := h
theorem k_ifS {c : TT} {t u : TS} (h : c σ H fun b H1 => if b = true then t D σ H1 else u D σ H1) : tIfS c t u D σ H := h
theorem k_asg {te : TE} {g : TG} (h : te σ H fun x H1 => g x σ H1 D.nx) : tAsg te g D σ H := h
theorem k_ret {te : TE} (h : te σ H D.rt) : tRet te D σ H := h
theorem k_retN (h : D.rt .non H) : tRetN D σ H := h
theorem k_next (h : D.nx σ H) : tNext D σ H := h
theorem k_cont (h : D.ct σ H) : tCont D σ H := h
theorem k_break (h : D.bk σ H) : tBreak D σ H := h
theorem k_drop {te : TE} (h : te σ H fun _ H1 => D.nx σ H1) : tDrop te D σ H := h
theorem k_par {i j : Nat} {ta : TA} (h : ta σ H fun vs H1 => ∃ v w, vs = [v, w] ∧ D.nx ((σ.set i (some v)).set j (some w)) H1) : tPar i j ta D σ H := h
theorem k_two {p : V → V → Prop} {a b : V} (h : p a b) : ∃ v w, [a, b] = [v, w] ∧ p v w := ⟨a, b, rfl, h⟩
theorem k_var {i : Nat} {v : V} (e : σ[i]? = some (some v)) (h : Q v H) : tVar i σ H Q := ⟨v, e, h⟩
theorem k_c {v : V} (h : Q v H) : tC v σ H Q := h
theorem k_op {r : R2} {ta tb : TE} (h : ta σ H fun x H1 => tb σ H1 fun y H2 => r x y H2 Q) : tOp r ta tb σ H Q := h
theorem k_un {r : V → Hp → VK → Prop} {ta : TE} (h : ta σ H fun x H1 => r x H1 Q) : tUn r ta σ H Q := h
theorem k_cb {r : List V → Hp → VK → Prop} {t : TA} (h : t σ H fun vs H1 => r vs H1 Q) : tCB r t σ H Q := h
theorem k_cons {ta : TE} {tr : TA} {R : List V → Hp → Prop} (h : ta σ H fun x H1 => tr σ H1 fun xs H2 => R (x :: xs) H2) : tCons ta tr σ H R := h
theorem k_nil {R : List V → Hp → Prop} (h : R [] H) : tNil σ H R := h
theorem k_call {sp : Sp} {dvs : List V} {E : XK} {t : TA} (h : t σ H fun vs H1 => sp (vs ++ dvs) H1 Q E) : tCall sp dvs E t σ H Q := h
theorem k_make {C : Addr} {sp : Sp} {dvs : List V} {E : XK} {t : TA} (h : t σ H fun vs H1 => ∀ x dx, H1 x = none → H1 dx = none → dx ≠ x →
  sp (.ref x :: (vs ++ dvs)) (upd (upd H1 dx (.own x)) x (.ins C dx [])) (fun v H2 => v = .non ∧ Q (.ref x) H2) E) : tMake C sp dvs E t σ H Q := h
theorem k_test {t : TE} {R : Bool → Hp → Prop} (h : t σ H fun x H' => ∃ k, x = .bl k ∧ R k H') : tTest t σ H R := h
theorem k_tB {t : TE} {R : Bool → Hp → Prop} (h : t σ H fun x H' => ∃ k, x = .bl k ∧ R k H') : tB t σ H R := h
theorem k_bl {b : Bool} {R : Bool → Prop} (h : R b) : ∃ k, V.bl b = .bl k ∧ R k := ⟨b, rfl, h⟩
theorem k_and {t u : TT} {R : Bool → Hp → Prop} (h : t σ H fun c H1 => if c = true then u σ H1 R else R false H1) : tAnd t u σ H R := h
theorem k_or {t u : TT} {R : Bool → Hp → Prop} (h : t σ H fun c H1 => if c = true then R true H1 else u σ H1 R) : tOr t u σ H R := h
theorem k_not {t : TT} {R : Bool → Hp → Prop} (h : t σ H fun c H1 => R (!c) H1) : tNot t σ H R := h
theorem k_andV {ta tb : TE} (h : ta σ H fun x H1 => ∃ c, x = .bl c ∧ if c = true then tb σ H1 Q else Q (.bl false) H1) : tAndV ta tb σ H Q := h
theorem k_orV {ta tb : TE} (h : ta σ H fun x H1 => ∃ c, x = .bl c ∧ if c = true then Q (.bl true) H1 else tb σ H1 Q) : tOrV ta tb σ H Q := h
theorem k_notV {ta : TE} (h : ta σ H fun x H1 => ∃ c, x = .bl c ∧ Q (.bl (!c)) H1) : tNotV ta σ H Q := h
theorem k_ifE {t : TT} {ta tb : TE} (h : t σ H fun c H1 => if c = true then ta σ H1 Q else tb σ H1 Q) : tIf t ta tb σ H Q := h
theorem k_isN {ta : TE} (h : ta σ H fun x H1 => Q (.bl (decide (x = .non))) H1) : tIsN ta σ H Q := h
theorem k_notN {ta : TE} (h : ta σ H fun x H1 => Q (.bl (!decide (x = .non))) H1) : tNotN ta σ H Q := h
theorem k_name {i : Nat} {v : V} {R : L2.St → Hp → Prop} (h : R (σ.set i (some v)) H) : gName i v σ H R := h
theorem k_sub {to ti : TE} {t : TSet} {v : V} {R : L2.St → Hp → Prop} (h : to σ H fun o H1 => ti σ H1 fun i H2 => t o i v H2 fun H3 => R σ H3) : gSub to ti t v σ H R := h
theorem k_gt {n : Nat} {t : TGs} {R : L2.St → Hp → Prop} {a : Addr} {xs : List V} (h : SqT K H a xs) (e : xs.length = n) (q : t xs σ H R) : gTup K n t (.ref a) σ H R := ⟨a, xs, rfl, h, e, q⟩
theorem k_gn {R : L2.St → Hp → Prop} (h : R σ H) : gNil [] σ H R := ⟨rfl, h⟩
theorem k_gc {t : TG} {u : TGs} {v : V} {vs : List V} {R : L2.St → Hp → Prop} (h : t v σ H fun σ' H' => u vs σ' H' R) : gCons t u (v :: vs) σ H R := ⟨v, vs, rfl, h⟩
theorem k_I0 {g : Int → Int → V} {i j : Int} (h : Q (g i j) H) : rI0 g (.int i) (.int j) H Q := ⟨i, j, rfl, rfl, h⟩
theorem k_I {C : Int → Int → Prop} {g : Int → Int → V} {i j : Int} (c : C i j) (h : Q (g i j) H) : rI C g (.int i) (.int j) H Q := ⟨i, j, rfl, rfl, c, h⟩
theorem k_U {g : Int → V} {i : Int} (h : Q (g i) H) : rU g (.int i) H Q := ⟨i, rfl, h⟩
theorem k_eq {x y : V} (e : scal x y = true) (h : Q (.bl (decide (x = y))) H) : rEq x y H Q := ⟨e, h⟩
theorem k_ne {x y : V} (e : scal x y = true) (h : Q (.bl (!decide (x = y))) H) : rNe x y H Q := ⟨e, h⟩
theorem k_ixL {p : Addr} {xs : List V} {i : Int} {v : V} (h : SqL K H p xs) (e : atI xs i = some v) (q : Q v H) : rIxL K (.ref p) (.int i) H Q := ⟨p, xs, i, v, rfl, rfl, h, e, q⟩
theorem k_ixT {p : Addr} {xs : List V} {i : Int} {v : V} (h : SqT K H p xs) (e : atI xs i = some v) (q : Q v H) : rIxT K (.ref p) (.int i) H Q := ⟨p, xs, i, v, rfl, rfl, h, e, q⟩
theorem k_setL {p : Addr} {xs : List V} {k : Int} {j : Nat} {v : V} {R : Hp → Prop} (h : H p = some (.lst xs)) (e : ixN xs.length k = some j) (q : R (upd H p (.lst (xs.set j v)))) : rSetL (.ref p) (.int k) v H R := ⟨p, xs, k, j, rfl, rfl, h, e, q⟩
theorem k_tup {t : TA} (h : t σ H fun xs H1 => xs.length ≤ sizeLine ∧ ∀ p, H1 p = none → Q (.ref p) (upd H1 p (.tup xs))) : tTup t σ H Q := h
theorem k_lst {t : TA} (h : t σ H fun xs H1 => xs.length ≤ sizeLine ∧ ∀ p, H1 p = none → Q (.ref p) (upd H1 p (.lst xs))) : tLst t σ H Q := h
theorem k_bm {T : String} {r : V → List V → Hp → VK → Prop} {to : TE} {t : TA} (h : to σ H fun x H1 => tyV K T x H1 ∧ t σ H1 fun xs H2 => r x xs H2 Q) : tBM K T r to t σ H Q := h
theorem k_append {l : Addr} {xs : List V} {y : V} (h : H l = some (.lst xs)) (e : xs.length < sizeLine) (q : Q .non (upd H l (.lst (xs ++ [y])))) : rAppend (.ref l) [y] H Q := ⟨l, xs, y, rfl, rfl, h, e, q⟩
theorem k_dget {td ty : TE} (h : td σ H fun x H1 => ty σ H1 fun y H2 => ∃ a v, x = .ref a ∧ DGet H2 a y (some v) ∧ Q v H2) : tDGet td ty σ H Q := h
theorem k_dg {a : Addr} {y v : V} (h : DGet H a y (some v)) (q : Q v H) : ∃ b u, V.ref a = .ref b ∧ DGet H b y (some u) ∧ Q u H := ⟨a, v, rfl, h, q⟩
theorem k_fld {ta : TE} {f : Str} (h : ta σ H fun x H1 => ∃ a C dx fs v, x = .ref a ∧ H1 a = some (.ins C dx fs) ∧ Cls K C ∧ NoAttr K C f ∧ fs.lookup f = some v ∧ Q v H1) : tFld K ta f σ H Q := h
theorem k_sl {r : V → Option Int → Option Int → Hp → VK → Prop} {te : TE} {tl th : TO} (h : te σ H fun x H1 => tl σ H1 fun l H2 => th σ H2 fun u H3 => r x l u H3 Q) : L2.tSl r te tl th σ H Q := h
theorem k_noPart {R : Option Int → Hp → Prop} (h : R none H) : tNoPart σ H R := h
theorem k_part {t : TE} {R : Option Int → Hp → Prop} (h : t σ H fun x H1 => ∃ i, x = .int i ∧ R (some i) H1) : tPart t σ H R := h
theorem k_int {i : Int} {R : Int → Prop} (h : R i) : ∃ k, V.int i = .int k ∧ R k := ⟨i, rfl, h⟩
theorem k_int1 {i : Int} {R : Int → Prop} {R' : Bool → Prop} (h : R i) : (∃ j, [V.int i] = [V.int j] ∧ R j) ∨ (∃ k, [V.int i] = [V.bl k] ∧ R' k) := .inl ⟨i, rfl, h⟩
theorem k_len {a : Addr} {ys : List V} {R : List V → Prop} (h : SqL K H a ys ∨ SqT K H a ys) (q : R ys) : ∃ p xs, [V.ref a] = [V.ref p] ∧ (SqL K H p xs ∨ SqT K H p xs) ∧ R xs := ⟨a, ys, rfl, h, q⟩
theorem k_disp {trs : List (TE × TE)} (h : ∀ p, H p = none → tPairs trs σ (upd H p (.dK [])) fun ps H2 => H2 p = some (.dK []) ∧ ∃ kvs : List (Key × V), ps = kvs.map (fun kv => (kV kv.1, kv.2)) ∧ kvs.length ≤ 15 ∧ Q (.ref p) (upd H2 p (.dK (mergeK [] kvs)))) : tDisp trs σ H Q := h
theorem k_cut {t u : TS} (M : L2.St → Hp → Prop) (h : t { D with nx := M } σ H) (k : ∀ σ' H', M σ' H' → u D σ' H') : C8.tCut t u D σ H := ⟨M, h, k⟩
theorem k_rng1 {ta : TA} {R : It → Hp → Prop} (h : ta σ H fun vs H1 => ∃ j : Int, vs = [.int j] ∧ -(2 ^ 62) ≤ j ∧ j < 2 ^ 62 ∧ R (Itr 0 j.toNat) H1) : iRng1 ta σ H R := h
theorem k_rg {j : Int} {R : Int → Prop} (h1 : 0 ≤ j) (h2 : j < 2 ^ 62) (q : R j) : ∃ i : Int, [V.int j] = [V.int i] ∧ -(2 ^ 62) ≤ i ∧ i < 2 ^ 62 ∧ R i := ⟨j, rfl, by omega, h2, q⟩
theorem k_for {wi : TI} {g : TG} {tb : TS} (h : wi σ H fun J H1 => ∃ W : Nat → Nat → L2.St → Hp → Prop, (∃ m, W 0 m σ H1) ∧ ∀ i m σ H, W i m σ H →
  (J.stop i H ∧ D.nx σ H) ∨ (J.go i H ∧ ∃ N : L2.St → Hp → Prop, (∀ σ' H', N σ' H' → ∃ m', m' < m ∧ W (i + 1) m' σ' H') ∧ ∀ x H', J.yld i H x H' → g x σ H' fun σ2 H2 => tb { D with nx := N, ct := N, bk := D.nx } σ2 H2)) : tFor wi g tb D σ H := h
theorem k_lc {wi : TI} {g : TG} {tt : TT} {te : TE} {vs : List Nat} (h : wi σ H fun J H1 => ∀ D, H1 D = none → ∃ W : Nat → Nat → Hp → Prop, (∃ m, W 0 m (upd H1 D (.lst []))) ∧ ∀ i m H, W i m H →
  (J.stop i H ∧ Q (.ref D) H) ∨ (J.go i H ∧ ∃ Nx : Hp → Prop, (∀ H', Nx H' → ∃ m', m' < m ∧ W (i + 1) m' H') ∧ ∀ x H', J.yld i H x H' → g x (wipe σ vs) H' fun σ2 H2 => wipe σ2 vs = wipe σ vs ∧ tt σ2 H2 fun b H3 =>
    if b = true then te σ2 H3 fun y H4 => ∃ acc, H4 D = some (.lst acc) ∧ acc.length < sizeLine ∧ Nx (upd H4 D (.lst (acc ++ [y]))) else Nx H3)) : tLc wi g tt te vs σ H Q := h
theorem k_yesT {R : Bool → Hp → Prop} (h : R true H) : tYes σ H R := h
theorem k_str {te : TE} {R : It → Hp → Prop} (h : te σ H fun v H1 => ∃ x, v = .str x ∧ R (Its x) H1) : iStr te σ H R := h
theorem k_slS {z : Str} {lo hi : Option Int} (e : z.length ≤ sizeLine) (q : Q (.str (cutS z lo hi)) H) : rSlS (.str z) lo hi H Q := ⟨z, rfl, e, q⟩
theorem k_prs {tk tv : TE} {r : List (TE × TE)} {R : List (V × V) → Hp → Prop} (h : tk σ H fun x H1 => tv σ H1 fun y H2 => tPairs r σ H2 fun ps H3 => R ((x, y) :: ps) H3) : tPairs ((tk, tv) :: r) σ H R := h
theorem k_prn {R : List (V × V) → Hp → Prop} (h : R [] H) : tPairs [] σ H R := h
theorem k_aug {i : Nat} {te : TE} {ti : TIp} {x : V} (e : σ[i]? = some (some x)) (h : te σ H fun y H1 => ti x y H1 fun z H2 => D.nx (σ.set i (some z)) H2) : tAug i te ti D σ H := ⟨x, e, h⟩
theorem k_ipI {f : Int → Int → Int} {i j : Int} (h : Q (.int (f i j)) H) : ipI f (.int i) (.int j) H Q := ⟨i, j, rfl, rfl, h⟩
theorem k_din {ty td : TE} (h : ty σ H fun y H1 => td σ H1 fun x H2 => ∃ a o, x = .ref a ∧ DGet H2 a y o ∧ Q (.bl o.isSome) H2) : tDIn ty td σ H Q := h
theorem k_dnotin {ty td : TE} (h : ty σ H fun y H1 => td σ H1 fun x H2 => ∃ a o, x = .ref a ∧ DGet H2 a y o ∧ Q (.bl (!o.isSome)) H2) : tDNotIn ty td σ H Q := h
theorem k_dput {td ty tv : TE} (h : tv σ H fun v H1 => td σ H1 fun x H2 => ty σ H2 fun y H3 => ∃ a H4, x = .ref a ∧ DPut H3 a y v H4 ∧ D.nx σ H4) : sDPut td ty tv D σ H := h
theorem k_prop {C : Addr} {sp : Sp} {dvs : List V} {E : XK} {ta : TE} (h : ta σ H fun x H1 => ∃ a dx fs, x = .ref a ∧ H1 a = some (.ins C dx fs) ∧ sp (.ref a :: dvs) H1 Q E) : tProp C sp dvs E ta σ H Q := h
theorem k_itup {tl : TE} {R : It → Hp → Prop} (h : tl σ H fun x H1 => ∃ a, x = .ref a ∧ (∃ xs, SqT K H1 a xs) ∧ R (Itt K a) H1) : iTup K tl σ H R := h
theorem k_ilst {tl : TE} {R : It → Hp → Prop} (h : tl σ H fun x H1 => ∃ a, x = .ref a ∧ (∃ xs, SqL K H1 a xs) ∧ R (Itl K a) H1) : iList K tl σ H R := h
theorem k_bm0 {T : String} {r : V → List V → Hp → VK → Prop} {to : TE} (h : to σ H fun x H1 => tyV K T x H1 ∧ r x [] H1 Q) : tBM0 K T r to σ H Q := h
theorem k_dc {wi : TI} {g : TG} {tt : TT} {tk tv : TE} {vs : List Nat} (h : wi σ H fun J H1 => ∀ D, H1 D = none → ∃ W : Nat → Nat → Hp → Prop, (∃ m, W 0 m (upd H1 D (.dK []))) ∧ ∀ i m H, W i m H →
  (J.stop i H ∧ Q (.ref D) H) ∨ (J.go i H ∧ ∃ Nx : Hp → Prop, (∀ H', Nx H' → ∃ m', m' < m ∧ W (i + 1) m' H') ∧ ∀ x H', J.yld i H x H' → g x (wipe σ vs) H' fun σ2 H2 => wipe σ2 vs = wipe σ vs ∧ tt σ2 H2 fun b H3 =>
    if b = true then tk σ2 H3 fun y H4 => tv σ2 H4 fun z H5 => ∃ kvs k, y = kV k ∧ H5 D = some (.dK kvs) ∧ kvs.length < sizeLine ∧ Nx (upd H5 D (.dK (putK kvs k z))) else Nx H3)) : tDc wi g tt tk tv vs σ H Q := h
theorem k_whl {c : TT} {tb : TS} (W : Nat → L2.St → Hp → Prop) (h0 : ∃ m, W m σ H) (h : ∀ m σ H, W m σ H → c σ H fun b H1 => if b = true then tb { D with nx := fun σ' H' => ∃ m', m' < m ∧ W m' σ' H', ct := fun σ' H' => ∃ m', m' < m ∧ W m' σ' H', bk := D.nx } σ H1 else D.nx σ H1)
    (mono : ∀ σ H (R R' : Bool → Hp → Prop), (∀ b H1, R b H1 → R' b H1) → c σ H R → c σ H R') : tWhile c tb D σ H := by
  refine ⟨W, h0, fun m σ H w => mono _ _ _ _ (fun b H1 q => ?_) (h m σ H w)⟩
  cases b with
  | false => exact q
  | true => exact ⟨_, fun _ _ z => z, q⟩
theorem k_ite {p A B : Prop} [Decidable p] (h1 : p → A) (h2 : ¬ p → B) : if decide p = true then A else B := by
  by_cases h : p
  · rw [decide_eq_true h]; exact iteT (h1 h)
  · rw [decide_eq_false h]; exact iteF (h2 h)
theorem k_iteN {p A B : Prop} [Decidable p] (h1 : p → B) (h2 : ¬ p → A) : if (!decide p) = true then A else B := by
  by_cases h : p
  · rw [decide_eq_true h]; exact iteF (h1 h)
  · rw [decide_eq_false h]; exact iteT (h2 h)
theorem k_yes {c : Bool} {A B : Prop} (e : c = true) (h : A) : if c = true then A else B := by rw [e]; exact iteT h
theorem k_no {c : Bool} {A B : Prop} (e : c = false) (h : B) : if c = true then A else B := by rw [e]; exact iteF h
theorem k_bool {c : Bool} {A B : Prop} (h1 : c = true → A) (h2 : c = false → B) : if c = true then A else B := by cases c; exact iteF (h2 rfl); exact iteT (h1 rfl)
end
section
variable {K : PySem.W.Frag} {σ : L2.St} {H : Hp} {D : Ends} {Q : VK}
theorem k_par3 {i j l : Nat} {ta : TA} (h : ta σ H fun vs H1 => ∃ u v w, vs = [u, v, w] ∧ D.nx (((σ.set i (some u)).set j (some v)).set l (some w)) H1) : tPar3 i j l ta D σ H := h
theorem k_three {p : V → V → V → Prop} {a b c : V} (h : p a b c) : ∃ u v w, [a, b, c] = [u, v, w] ∧ p u v w := ⟨a, b, c, rfl, h⟩
theorem k_neD {x y : V} {d e : PyData} (h1 : Dp K H x d) (h2 : Dp K H y e) (s1 : SeqAt.shaped d = true) (s2 : SeqAt.shaped e = true) (q : Q (.bl (!PyData.eqv d e)) H) : rNeD K x y H Q := ⟨d, e, h1, h2, s1, s2, q⟩
theorem k_eqD {x y : V} {d e : PyData} (h1 : Dp K H x d) (h2 : Dp K H y e) (s1 : SeqAt.shaped d = true) (s2 : SeqAt.shaped e = true) (q : Q (.bl (PyData.eqv d e)) H) : rEqD K x y H Q := ⟨d, e, h1, h2, s1, s2, q⟩
theorem k_lenS {z : Str} {R : Int → Prop} (h : z.length ≤ sizeLine) (q : R z.length) : ∃ y : Str, [V.str z] = [V.str y] ∧ y.length ≤ sizeLine ∧ R y.length := ⟨z, rfl, h, q⟩
end
local macro_rules | `(tactic| walk_at "st") => `(tactic| first
  | ((with_reducible show tVar _ _ _ _); refine k_var rfl ?_)
  | (with_reducible first
    | refine k_c ?_ | refine k_op ?_ | refine k_I0 ?_ | refine k_seq ?_ | refine k_asg ?_ | refine k_name ?_ | refine k_cons ?_ | refine k_nil ?_ | refine k_cb ?_
    | refine k_ret ?_ | refine k_ifS ?_ | refine k_test ?_ | refine k_tB ?_ | refine k_bl ?_ | refine k_call ?_ | refine k_make ?_ | refine k_par3 ?_ | refine k_three ?_ | refine k_ipI ?_ | refine k_din ?_ | refine k_dnotin ?_ | refine k_dput ?_ | refine k_prop ?_ | refine k_itup ?_ | refine k_ilst ?_ | refine k_bm0 ?_ | refine k_dc ?_ | refine k_prs ?_ | refine k_prn ?_ | refine k_lc ?_ | refine k_yesT ?_ | refine k_str ?_ | refine k_disp ?_ | refine k_for ?_ | refine k_rng1 ?_ | refine k_drop ?_ | refine k_next ?_ | refine k_sub ?_ | refine k_un ?_ | refine k_U ?_
    | refine k_par ?_ | refine k_two ?_ | refine k_and ?_ | refine k_or ?_ | refine k_not ?_ | refine k_andV ?_ | refine k_orV ?_ | refine k_notV ?_ | refine k_ifE ?_ | refine k_isN ?_ | refine k_notN ?_
    | refine k_gn ?_ | refine k_gc ?_ | refine k_tup ?_ | refine k_lst ?_ | refine k_bm ?_ | refine k_dget ?_ | refine k_fld ?_ | refine k_sl ?_ | refine k_noPart ?_ | refine k_part ?_ | refine k_int ?_
    | refine k_int1 ?_ | refine k_retN ?_ | refine k_cont ?_ | refine k_break ?_)
  | ((with_reducible show rIxL _ _ _ _ _); refine k_ixL (SqL.of (by first | assumption | exact upd_same)) rfl ?_)
  | ((with_reducible show rSetL _ _ _ _ _); refine k_setL (by first | assumption | exact upd_same) rfl ?_)
  | ((with_reducible show tAug _ _ _ _ _ _); refine k_aug rfl ?_)
  | ((with_reducible show rEq _ _ _ _); refine k_eq rfl ?_)
  | ((with_reducible show rNe _ _ _ _); refine k_ne rfl ?_))
local macro_rules | `(tactic| walk_at "go") => `(tactic| repeat (walk_at "st"))
local macro_rules | `(tactic| walk_at "begin") => `(tactic| ((try dsimp only [cxOf]); simp only [L2.start, List.map_cons, List.map_nil, List.length_cons, List.length_nil, Nat.reduceAdd, Nat.reduceSub, List.replicate_succ, List.replicate_zero, List.cons_append, List.nil_append]))
/-! ### a draw: any number below the most -/
def sp_taken (K : PySem.W.Frag) : Sp := fun vs H Q _ => ∃ (a : Addr) (m : Int), vs = [.ref a, .int m] ∧ 0 < m ∧ m.natAbs < 2 ^ 8000 ∧ RowOk K H a ∧
  ∀ (x : Int) (H' : Hp), 0 ≤ x → x < m → RowOk K H' a → Keep a H H' → Q (.int x) H'
section
variable {P : Program} {w : World} {K : PySem.W.Frag} {mg : Str → Option Value} {base : Heap}
theorem ok_law_taken (T : Txt K mg) : FnOk P w K mg base (L2.CX P w) 1 T.a_law_taken T.fd_law_taken ["_law_row", "_law_many"] (sp_taken K) := by
  refine T.F_law_taken.okX sc_law_taken (fun vs H Q E h => ?_) (fun cdv A outer s H vs Q E hr h => ?_)
  · obtain ⟨a, m, rfl, _⟩ := h
    rfl
  · obtain ⟨a, m, rfl, m0, mb, ⟨sc, ns, i, z, r, ea, hs, hn, i0, z0, z1⟩, k⟩ := h
    refine ⟨_, (PSs.nox (pss_cons (ps_if (pt_cmpR op_gt (pe_ix ix_list (pv 0) pe_int (fun _ _ => rfl)) pe_int (nomark _))
  (pss_cons (ps_set (i := 2) sc_law_taken.nd rfl (Or.inl rfl) (pe_op op_mod (pe_callTy call_int1 (by rfl) T.z_int PySem.Pv.boot_int (pa_cons (pe_ix ix_list (pv 0) pe_int (fun _ _ => rfl)) pa_nil)) (pv 1)))
  (pss_cons (ps_asg (pe_op op_fdivW (pe_ix ix_list (pv 0) pe_int (fun _ _ => rfl)) (pv 1)) (pg_sub (pv 0) pe_int set_list))
  (pss_one (ps_ret (pv 2)))))
  pss_nil)
  (pss_cons (ps_asg (pe_op op_add (pe_ix ix_list (pv 0) pe_int (fun _ _ => rfl)) pe_int) (pg_sub (pv 0) pe_int set_list))
  (pss_cons (ps_if (pt_cmpR op_gt (pe_ix ix_list (pv 0) pe_int (fun _ _ => rfl)) (pe_callB call_len_seq (by rfl) T.z_len PySem.boot_len (pa_cons (pe_ix ix_list (pv 0) pe_int (fun _ _ => rfl)) pa_nil)) (nomark _))
  (pss_cons (ps_asg (pe_op op_mod (pe_callTy call_int1 (by rfl) T.z_int PySem.Pv.boot_int (pa_cons (pe_op op_add (pe_op op_mulW (pe_ix ix_list (pv 0) pe_int (fun _ _ => rfl)) pe_int) pe_int) pa_nil)) pe_int) (pg_sub (pv 0) pe_int set_list))
  (pss_one (ps_ret (pe_op op_mod (pe_callTy call_int1 (by rfl) T.z_int PySem.Pv.boot_int (pa_cons (pe_op op_fdivW (pe_ix ix_list (pv 0) pe_int (fun _ _ => rfl)) pe_int) pa_nil)) (pv 1)))))
  pss_nil)
  (pss_cons (ps_set (i := 3) sc_law_taken.nd rfl (Or.inl rfl) (pe_ix ix_list (pe_ix ix_list (pv 0) pe_int (fun _ _ => rfl)) (pe_op op_sub (pe_ix ix_list (pv 0) pe_int (fun _ _ => rfl)) pe_int) (fun _ _ => rfl)))
  (pss_cons (ps_asg (pe_op op_mod (pe_callTy call_int1 (by rfl) T.z_int PySem.Pv.boot_int (pa_cons (pe_op op_add (pe_op op_add (pe_op op_mulW (pe_ix ix_list (pv 0) pe_int (fun _ _ => rfl)) pe_int) (pv 3)) pe_int) pa_nil)) pe_int) (pg_sub (pv 0) pe_int set_list))
  (pss_cons (ps_if (pt_cmpR op_ge (pv 3) (pe_op op_pow pe_int pe_int) (nomark _))
  (pss_one (ps_asg (pe_op op_fdivW (pv 3) (pv 1)) (pg_sub (pv 0) pe_int set_list)))
  pss_nil)
  (pss_one (ps_ret (pe_op op_mod (pe_callTy call_int1 (by rfl) T.z_int PySem.Pv.boot_int (pa_cons (pv 3) pa_nil)) (pv 1))))))))))), ?_⟩
    walk_at "begin"
    walk_at "go"
    have CD : CDivW r m := wide_div m0 mb (by decide) (by decide)
    have CZ : CMulW z 48271 := wide_mul (a := 31) (b := 16) (by omega) (by decide) (by decide) (by decide) (by decide)
    refine k_ite (fun c => ?_) (fun c => ?_)
    · walk_at "go"
      refine k_I m0 ?_
      walk_at "go"
      refine k_I CD ?_
      walk_at "go"
      exact k _ _ (Int.emod_nonneg _ (by omega)) (Int.emod_lt_of_pos _ m0) ⟨sc, ns, i, z, r / m, upd_same, hs.keep Keep.at_ ea, hn, i0, z0, z1⟩ Keep.at_
    · walk_at "go"
      have K1 : Keep a H (upd H a (HO.lst ([V.ref sc, V.int i, V.int z, V.int r].set (Int.toNat 1) (V.int (i + 1))))) := Keep.at_
      refine k_len (.inl (hs.keep K1 ea).sq) ?_
      walk_at "go"
      have zn : ∀ q : Int, 0 ≤ q % 2147483647 ∧ q % 2147483647 < 2147483647 := fun q => ⟨Int.emod_nonneg _ (by decide), Int.emod_lt_of_pos _ (by decide)⟩
      have mn : ∀ q : Int, 0 ≤ q % m ∧ q % m < m := fun q => ⟨Int.emod_nonneg _ (by omega), Int.emod_lt_of_pos _ m0⟩
      refine k_ite (fun c1 => ?_) (fun c1 => ?_)
      · walk_at "go"
        refine k_I CZ ?_
        walk_at "go"
        refine k_I (by decide) ?_
        walk_at "go"
        refine k_I (wide_div (b := 3) (by decide) (by decide) (by decide) (by decide)) ?_
        walk_at "go"
        refine k_I m0 ?_
        exact k _ _ (mn _).1 (mn _).2 ⟨sc, ns, i + 1, _, r, upd_same, (hs.keep K1 ea).keep Keep.at_ upd_same, hn, by omega, (zn _).1, (zn _).2⟩ (K1.trans Keep.at_)
      · walk_at "go"
        rw [List.length_map] at c1
        have hl : (i + 1 - 1).toNat < ns.length := by omega
        refine k_ixL (hs.keep K1 ea).sq (v := V.int (ns[(i + 1 - 1).toNat]'hl)) (at_of (j := (i + 1 - 1).toNat) (by omega) (by rw [List.getElem?_map, List.getElem?_eq_getElem hl]; rfl)) ?_
        generalize ns[(i + 1 - 1).toNat]'hl = cell
        walk_at "go"
        refine k_I CZ ?_
        walk_at "go"
        refine k_I (by decide) ?_
        walk_at "go"
        refine k_I (by exact ⟨by decide, by decide, by decide⟩) ?_
        walk_at "go"
        refine k_ite (fun c2 => ?_) (fun c2 => ?_)
        · walk_at "go"
          refine k_I (wide_div m0 mb (by decide) (by decide)) ?_
          walk_at "go"
          refine k_I m0 ?_
          exact k _ _ (mn _).1 (mn _).2 ⟨sc, ns, i + 1, _, _, upd_same, ((hs.keep K1 ea).keep Keep.at_ upd_same).keep Keep.at_ upd_same, hn, by omega, (zn _).1, (zn _).2⟩ ((K1.trans Keep.at_).trans Keep.at_)
        · walk_at "go"
          refine k_I m0 ?_
          exact k _ _ (mn _).1 (mn _).2 ⟨sc, ns, i + 1, _, _, upd_same, (hs.keep K1 ea).keep Keep.at_ upd_same, hn, by omega, (zn _).1, (zn _).2⟩ (K1.trans Keep.at_)
end
/-! ### enumerate over a tuple -/
section
open Builtin
theorem meets_enumT (t : Addr) (its : Array Value) : Meets (Builtin.«enumerate.__new__» ⟨[.type "enumerate", .ref t], []⟩) (fun _ R st => st.heap.IsTuple t its ∧
    R (.ok (.ret (.ref (st.heap.objs.size + 1)))) { st with heap := (st.heap.push { cls := .type "tuple_iterator", data := .fields #[.ref t, .int 0 0] }).push { cls := .type "enumerate", data := .fields #[.none, .bool false, .ref st.heap.objs.size, rawInt 0, .none, .none] } }) := by
  refine Meets.of_wp fun prog w A R st hh => ?_
  rcases st with ⟨h0, g0, d0, t0, o0⟩
  obtain ⟨isT, q⟩ := hh
  have sub := sub_enumerate
  have L : Heap.IsTuple (Shared.heap ⟨h0, g0, d0, t0, o0⟩) t its := isT
  obtain ⟨ob, e0, c0, n0, dt0⟩ := L
  have z : (Heap.push h0 { cls := .type "tuple_iterator", data := .fields #[.ref t, .int 0 0] }).objs.size = h0.objs.size + 1 := Heap.size_push ..
  have q' := q
  rw [← z] at q'
  wp_walk using PySem.wpAny_pyIter_tuple isT
  refine wpAny_stack_any fun fr => wpAny_pure ?_
  split
  · rename_i cc _ _ _ _ _
    cases (cc == Value.type "enumerate")
    · wp_walk using PySem.wpAny_pyIter_tuple isT
      exact ⟨_, rfl, q'⟩
    · wp_walk using PySem.wpAny_pyIter_tuple isT
      exact ⟨_, rfl, q'⟩
  · wp_walk using PySem.wpAny_pyIter_tuple isT
    exact ⟨_, rfl, q'⟩
end
section
variable {prog : Program} {w : World} {A : Around} {E : Value → Shared → Prop} {s : Shared}
theorem call_enumT {t : Addr} {its : Array Value} {Q : Value → Shared → Prop} (isT : s.heap.IsTuple t its)
    (k : ∀ h', IsEnum h' (s.heap.objs.size + 1) s.heap.objs.size 0 .none → h'.IsTupleIter s.heap.objs.size t 0 → (∀ b o, s.heap.get? b = some o → h'.get? b = some o) →
      Q (.ref (s.heap.objs.size + 1)) { s with heap := h' }) : wpAny (model prog w) A (call (.type "enumerate") [.ref t]) Q E s := by
  have m := meets_enumT t its
  refine callType_new F.called_enumerate (by decide) (F.typeCall_enumerate_1 _) (F.newCall_enumerate_1 _) (fun o => F.args_object_init_2 o _) F.entry_enumerate_new m ⟨isT, ?_⟩
  have z : (Heap.push s.heap { cls := .type "tuple_iterator", data := .fields #[.ref t, .int 0 0] }).objs.size = s.heap.objs.size + 1 := Heap.size_push ..
  have g := Heap.get?_push_size (Heap.push s.heap { cls := .type "tuple_iterator", data := .fields #[.ref t, .int 0 0] })
    (o := { cls := .type "enumerate", data := .fields #[.none, .bool false, .ref s.heap.objs.size, rawInt 0, .none, .none] }) rfl
  rw [z] at g
  exact ⟨⟨_, g, rfl⟩, k _ g ⟨_, Heap.get?_push_of_some _ (Heap.get?_push_size _ rfl), rfl, rfl⟩ fun b o x => Heap.get?_push_of_some _ (Heap.get?_push_of_some _ x)⟩
end
/-- the i-th pair is new: its place and the tuple's item -/
def Iet (K : PySem.W.Frag) (a : Addr) : It :=
  ⟨fun i H => ∃ (xs : List V) (x : V), SqT K H a xs ∧ xs[i]? = some x,
   fun i H v H' => ∃ p x, v = .ref p ∧ H p = none ∧ H' = upd H p (.tup [.int (i : Nat), x]) ∧ ∀ xs, SqT K H a xs → xs[i]? = some x,
   fun i H => ∃ xs : List V, SqT K H a xs ∧ xs.length ≤ i⟩
theorem turn_enumT {P : Program} {w : World} {K : PySem.W.Frag} {es : List Expr} {c : Nat} {tp : Pos} (a e it : Addr) :
    Turn P w K (.Tuple es c tp) (Iet K a) [e, it] e (fun i h => (∃ old, IsEnum h e it ((i : Nat) : Int) old) ∧ h.IsTupleIter it a i ∧ e ≠ it) := by
  have two : ∀ b, b ∈ [e, it] → b = e ∨ b = it := fun b hb => by simpa using hb
  constructor
  case mem => simp
  case obj =>
    rintro i h ⟨⟨old, he⟩, ⟨o, ho, hc, hd⟩, _⟩ b hb
    rcases two b hb with rfl | rfl
    · exact ⟨_, he, fun v q => nomatch q⟩
    · exact ⟨o, ho, fun v q => by rw [hd] at q; cases q⟩
  case keep =>
    rintro i h h' ⟨⟨old, he⟩, hi, ne⟩ k
    exact ⟨⟨old, k e (by simp) _ he⟩, hi.at fun o q => k it (by simp) o q, ne⟩
  case item =>
    rintro X rfl rfl rfl hC i pins s σ H E I hf ⟨⟨old, he⟩, hit, ne⟩ ⟨xs, x, hq, hx⟩
    obtain ⟨its, rv, p, hz⟩ := I.tuple hq
    obtain ⟨u, hu, ru⟩ := rv.get hx
    have le : e < s.heap.objs.size := Heap.lt_size he
    have li : it < s.heap.objs.size := by obtain ⟨_, q, _⟩ := hit; exact Heap.lt_size q
    have pt : s.heap.IsTuple a its.toArray := p
    have na : a ≠ it := fun z => by
      obtain ⟨o1, q1, c1, _⟩ := hit
      obtain ⟨o2, q2, c2, _⟩ := pt
      rw [z, q1] at q2
      cases q2
      rw [c1] at c2
      exact absurd c2 (by simp)
    have nb : e ≠ a := fun z => by
      obtain ⟨o2, q2, c2, _⟩ := pt
      have q3 : s.heap.get? e = _ := he
      rw [z, q2] at q3
      cases q3
      exact absurd c2 (by simp)
    have Dr := Draws.tuple (prog := X.prog) (w := X.w) (A := X.A.in1) (I.ok.hd hC) it a na its.toArray
    refine wpAny_pyNext_enum_itemD (i := i) Dr he ⟨hit, pt⟩ (by simpa using (List.getElem?_eq_some_iff.mp hu).1) ne (by simp [ne, nb]) fun x' h' tk px ho st hT hsz hk => ?_
    have ex : x' = u := by
      have q : its.toArray[i]? = some x' := px
      rw [List.getElem?_toArray, hu] at q
      exact (Option.some.inj q).symm
    subst ex
    refine ⟨_, rfl, wpAny_letOwnedTupleGo_enum (s := { s with heap := h', toks := tk + 1 }) ho fun h2 he2 sb => ?_⟩
    have hT2 : h2.get? s.heap.objs.size = some { cls := .type "tuple", data := .seq #[.int i tk, x'] } := (sb.2 _ (Nat.ne_of_gt le)).trans hT
    have new : ObjOk X.prog X.w (upd H s.heap.objs.size (.tup [.int (i : Nat), x])) h2 s.heap.objs.size (.tup [.int (i : Nat), x]) :=
      ⟨(by decide : 2 ≤ sizeLine), [.int i tk, x'], .cons ⟨_, rfl⟩ (.cons ru .nil), ⟨_, hT2, rfl, _, rfl⟩⟩
    have I1 : Inv X pins σ (upd H s.heap.objs.size (.tup [.int (i : Nat), x])) { s with heap := h2, toks := tk + 1 } :=
      I.turnedNew (ch := [e, it]) (fun b ob hb q => (sb.2 b (fun z => hb (by simp [z]))).trans (hk b ob (fun z => hb (by simp [z])) (fun z => hb (by simp [z])) q)) hf (Nat.le_refl _) new
    refine ⟨.ref s.heap.objs.size, _, I1, rfl, ⟨_, x, rfl, I.hok.fresh (Nat.le_refl _), rfl, fun ys hy => ?_⟩, ⟨⟨x', ?_⟩, ?_, ne⟩, fun b hb => ?_⟩
    · rw [I.tuple_inj hy hq]; exact hx
    · have e1 : ((i + 1 : Nat) : Int) = (i : Int) + 1 := by omega
      rw [e1]; exact he2
    · exact st.1.at fun o q => (sb.2 it (Ne.symm ne)).trans q
    · have lb : b < s.heap.objs.size := by rcases two b hb with rfl | rfl <;> assumption
      rw [upd_ne (Nat.ne_of_lt lb)]
      exact (hf b hb).1
  case done =>
    rintro X rfl rfl rfl hC i pins s σ H E I hf ⟨⟨old, he⟩, hit, ne⟩ ⟨xs, hq, hx⟩
    obtain ⟨its, rv, p, hz⟩ := I.tuple hq
    have pt : s.heap.IsTuple a its.toArray := p
    have na : a ≠ it := fun z => by
      obtain ⟨o1, q1, c1, _⟩ := hit
      obtain ⟨o2, q2, c2, _⟩ := pt
      rw [z, q1] at q2
      cases q2
      rw [c1] at c2
      exact absurd c2 (by simp)
    have out : its.toArray[i]? = none := by
      have hl := rv.length
      rw [List.getElem?_toArray]
      exact List.getElem?_eq_none (by omega)
    have Dr : Draws X.prog X.w X.A.in1 it [it, a] i (fun _ _ => True) (fun j h => j = i ∧ h.IsTupleIter it a j ∧ h.IsTuple a its.toArray) :=
      { live := fun j h st => by obtain ⟨_, ⟨o, ho, _⟩, _⟩ := st; exact ⟨o, ho⟩
        frame := fun j h h' st hk => ⟨st.1, st.2.1.at fun o e => hk it (by simp) o e, st.2.2.at fun o e => hk a (by simp) o e⟩
        item := fun j s Q E hj st hQ => absurd st.1 (Nat.ne_of_lt hj)
        done := fun s Q E st hE => wpAny_nextOf_tuple_end (A := X.A.in1) (I.ok.hd hC) st.2.1 st.2.2 out hE }
    obtain ⟨f0, f1, f2, f3, f4, f5⟩ := hf it (by simp)
    exact wpAny_pyNext_enum_endD Dr he ⟨rfl, hit, pt⟩ fun h' eb => ⟨rfl, I.turned (t' := s.toks) (fun b o hb q => eb b o hb q) f0 f1 f3 f4 f5⟩
  case self =>
    rintro A i s Q E ⟨⟨_, he⟩, _⟩ h
    exact wpAny_pyIter_enum he h
def iEnumT (K : PySem.W.Frag) (ta : TA) : TI := fun σ H R => ta σ H fun vs H1 => ∃ a xs, vs = [.ref a] ∧ SqT K H1 a xs ∧ R (Iet K a) H1
theorem pi_enumT {X : Cx} {e : Expr} {ta : TA} {p pos tpos : Pos} {es : List Expr} {c : Nat} (hg : Gl X "enumerate") (hm : X.mg "enumerate" = none) (ha : PA X [e] ta)
    (hs : starEach [e] X.env = [(false, eval e X.env)] := by rfl) : PI X (.Tuple es c tpos) (.Call (.Name "enumerate" p) [e] [] pos) (iEnumT X.K ta) := by
  constructor
  intro pins s σ H R I h
  refine PyProof.Rows.Call_ (ld_blt I hg hm (show bootBuiltins "enumerate" = some (.type "enumerate") by decide +kernel) (PyProof.Rows.callWith_type1 (thn (ha.run pos pins s σ H _ I h) ?_) hs rfl))
  rintro us s1 ⟨vs, H1, I1, r1, a, xs, rfl, hq, q⟩
  obtain ⟨u, rfl, ru⟩ := vals1 r1
  cases ru
  obtain ⟨its, rv, p', hz⟩ := I1.tuple hq
  have pt : s1.heap.IsTuple a its.toArray := p'
  refine call_enumT pt fun h' he hit hk => wpAny_pyIter_enum he ?_
  have I2 : Inv X pins σ H1 { s1 with heap := h' } := I1.kept (t' := s1.toks) hk
  refine ⟨s1.heap.objs.size + 1, [s1.heap.objs.size + 1, s1.heap.objs.size], _, _, H1, rfl, I2, turn_enumT a (s1.heap.objs.size + 1) s1.heap.objs.size, ⟨⟨.none, he⟩, hit, Nat.succ_ne_self _⟩, fun b hb => ?_, q⟩
  have lb : s1.heap.objs.size ≤ b := by
    have two : b = s1.heap.objs.size + 1 ∨ b = s1.heap.objs.size := by simpa using hb
    rcases two with rfl | rfl
    · exact Nat.le_succ _
    · exact Nat.le_refl _
  exact I1.fpOk lb (I1.hok.fresh lb)
/-- over a tuple that stands still, the place and the item in a new pair -/
theorem for_enumT {K : PySem.W.Frag} {a : Addr} {xs : List V} {g : TG} {tb : TS} {D : Ends} {σ : L2.St} {H : Hp} (Pv : Nat → L2.St → Hp → Prop) (h0 : Pv 0 σ H) (hl : ∀ i σ H, i ≤ xs.length → Pv i σ H → SqT K H a xs)
    (hs : ∀ i x p σ H, xs[i]? = some x → Pv i σ H → H p = none → g (.ref p) σ (upd H p (.tup [.int (i : Nat), x])) fun σ2 H2 => tb { D with nx := Pv (i + 1), ct := Pv (i + 1), bk := D.nx } σ2 H2) (hd : ∀ σ H, Pv xs.length σ H → D.nx σ H) :
    ∃ W : Nat → Nat → L2.St → Hp → Prop, (∃ m, W 0 m σ H) ∧ ∀ i m σ H, W i m σ H → ((Iet K a).stop i H ∧ D.nx σ H) ∨
      ((Iet K a).go i H ∧ ∃ N : L2.St → Hp → Prop, (∀ σ' H', N σ' H' → ∃ m', m' < m ∧ W (i + 1) m' σ' H') ∧ ∀ x H', (Iet K a).yld i H x H' → g x σ H' fun σ2 H2 => tb { D with nx := N, ct := N, bk := D.nx } σ2 H2) := by
  refine ⟨fun i m σ H => m + i = xs.length ∧ Pv i σ H, ⟨xs.length, by simp, h0⟩, fun i m σ H ⟨em, hP⟩ => ?_⟩
  have sq := hl i σ H (by omega) hP
  by_cases c : i < xs.length
  · refine .inr ⟨⟨xs, xs[i], sq, List.getElem?_eq_getElem c⟩, Pv (i + 1), fun σ' H' z => ⟨m - 1, by omega, by omega, z⟩, ?_⟩
    rintro v H' ⟨p, x, rfl, hp, rfl, hx⟩
    exact hs i x p σ H (hx xs sq) hP hp
  · have e : i = xs.length := by omega
    exact .inl ⟨⟨xs, sq, by omega⟩, hd σ H (e ▸ hP)⟩
/-! ### machines as data -/
structure Stp where
  b : Nat
  c : Nat
  e : Nat
  g : Int
structure MD where
  n : Nat
  ss : List Stp
  es : List Nat
def stpV (s : Stp) : List V := [.int (s.b : Nat), .str ⟨#[s.c]⟩, .int (s.e : Nat), .int s.g]
structure Stp.Ok (n : Nat) (s : Stp) : Prop where
  b : s.b < n
  c : 97 ≤ s.c
  c' : s.c ≤ 100
  e : s.e < n
  g : -(10 ^ 30) ≤ s.g
  g' : s.g ≤ 10 ^ 30
def Stp.lt (s t : Stp) : Prop := s.b < t.b ∨ (s.b = t.b ∧ s.c < t.c)
structure MD.Ok (m : MD) : Prop where
  n1 : 1 ≤ m.n
  n8 : m.n ≤ 8
  ok : ∀ s ∈ m.ss, s.Ok m.n
  up : m.ss.Pairwise Stp.lt
  len : m.ss.length ≤ 32
  eb : ∀ e ∈ m.es, e < m.n
  eu : m.es.Pairwise (· < ·)
  el : m.es.length ≤ 8
/-- steps alone, whatever the number of stands -/
structure StOk (N : Nat) (s : Stp) : Prop where
  b : s.b < N
  c : 97 ≤ s.c
  c' : s.c ≤ 100
  e : s.e < N
  g : -(10 ^ 32) ≤ s.g
  g' : s.g ≤ 10 ^ 32
structure SsOk (N : Nat) (ss : List Stp) : Prop where
  n1 : 1 ≤ N
  n64 : N ≤ 63
  ok : ∀ s ∈ ss, StOk N s
  len : ss.length ≤ 300
theorem MD.Ok.sok {m : MD} (o : m.Ok) : SsOk m.n m.ss := ⟨o.n1, by have := o.n8; omega, fun s h => let k := o.ok s h; ⟨k.b, k.c, k.c', k.e, by have := k.g; omega, by have := k.g'; omega⟩, by have := o.len; omega⟩
/-- the steps' tuples -/
def StpsAt (K : PySem.W.Frag) (H : Hp) (vs : List V) (ss : List Stp) : Prop := vs.length = ss.length ∧ ∀ (i : Nat) (s : Stp), ss[i]? = some s → ∃ p, vs[i]? = some (V.ref p) ∧ SqT K H p (stpV s)
def nats (es : List Nat) : List V := es.map fun e => V.int (e : Nat)
def StAt (K : PySem.W.Frag) (H : Hp) (t : Addr) (ss : List Stp) : Prop := ∃ us, SqT K H t us ∧ StpsAt K H us ss
/-- steps and ends as they stand -/
def PartsAt (K : PySem.W.Frag) (H : Hp) (t u : Addr) (m : MD) : Prop := (∃ vs, SqT K H t vs ∧ StpsAt K H vs m.ss) ∧ SqT K H u (nats m.es)
def DAt (K : PySem.W.Frag) (H : Hp) (d : Addr) (m : MD) : Prop := ∃ t u, H d = some (.dK [(.inr "stands", .int (m.n : Nat)), (.inr "steps", .ref t), (.inr "ends", .ref u)]) ∧ PartsAt K H t u m
def mfs (n : Nat) (t u : Addr) : List (Str × V) := [("_stands", .int (n : Nat)), ("_steps", .ref t), ("_ends", .ref u)]
def MAt (K : PySem.W.Frag) (C : Addr) (H : Hp) (x : Addr) (m : MD) : Prop := ∃ dx t u, H x = some (.ins C dx (mfs m.n t u)) ∧ PartsAt K H t u m
section
variable {K : PySem.W.Frag} {a : Addr} {H H' : Hp}
/-- tuples stay -/
def Tups (H H' : Hp) : Prop := (∀ b xs, H b = some (.tup xs) → H' b = some (.tup xs)) ∧ ∀ b o xs, H b = some (.frz o (.tup xs)) → H' b = some (.frz o (.tup xs))
theorem Tups.trans {H H1 H2 : Hp} (a : Tups H H1) (b : Tups H1 H2) : Tups H H2 := ⟨fun c xs e => b.1 c xs (a.1 c xs e), fun c o xs e => b.2 c o xs (a.2 c o xs e)⟩
theorem Tups.sq {p : Addr} {xs : List V} (k : Tups H H') (h : SqT K H p xs) : SqT K H' p xs := by
  rcases h with (h | ⟨o, h⟩) | h
  · exact .inl (.inl (k.1 _ _ h))
  · exact .inl (.inr ⟨o, k.2 _ _ _ h⟩)
  · exact .inr h
theorem Tups.steps {vs : List V} {ss : List Stp} (k : Tups H H') (h : StpsAt K H vs ss) : StpsAt K H' vs ss := ⟨h.1, fun i s e => let ⟨p, e1, q⟩ := h.2 i s e; ⟨p, e1, k.sq q⟩⟩
theorem Tups.stAt {t : Addr} {ss : List Stp} (k : Tups H H') (h : StAt K H t ss) : StAt K H' t ss := let ⟨us, q, z⟩ := h; ⟨us, k.sq q, k.steps z⟩
theorem Tups.parts {t u : Addr} {m : MD} (k : Tups H H') (h : PartsAt K H t u m) : PartsAt K H' t u m := let ⟨⟨vs, q, z⟩, r⟩ := h; ⟨⟨vs, k.sq q, k.steps z⟩, k.sq r⟩
theorem same_tups (k : Same H H') : Tups H H' := ⟨fun _ _ e => k _ _ e, fun _ _ _ e => k _ _ e⟩
theorem Keep.tups {l : List V} (k : Keep a H H') (ha : H a = some (.lst l)) : Tups H H' := ⟨fun b _ e => k _ _ (fun z => by rw [z, ha] at e; cases e) e, fun b _ _ e => k _ _ (fun z => by rw [z, ha] at e; cases e) e⟩
theorem Tups.new {p : Addr} {o : HO} (h : H p = none) : Tups H (upd H p o) := same_tups (Same.new h)
theorem Tups.lst {p : Addr} {xs : List V} {o : HO} (h : H p = some (.lst xs)) : Tups H (upd H p o) := Keep.tups (Keep.at_) h
theorem DAt.keep {d : Addr} {m : MD} {l : List V} (h : DAt K H d m) (k : Keep a H H') (ha : H a = some (.lst l)) : DAt K H' d m :=
  let ⟨t, u, e, q⟩ := h; ⟨t, u, k _ _ (fun z => by rw [z, ha] at e; cases e) e, (k.tups ha).parts q⟩
theorem MAt.keep {C x : Addr} {m : MD} {l : List V} (h : MAt K C H x m) (k : Keep a H H') (ha : H a = some (.lst l)) : MAt K C H' x m :=
  let ⟨dx, t, u, e, q⟩ := h; ⟨dx, t, u, k _ _ (fun z => by rw [z, ha] at e; cases e) e, (k.tups ha).parts q⟩
theorem DAt.same {d : Addr} {m : MD} (h : DAt K H d m) (k : Same H H') : DAt K H' d m := let ⟨t, u, e, q⟩ := h; ⟨t, u, k _ _ e, (same_tups k).parts q⟩
theorem MAt.same {C x : Addr} {m : MD} (h : MAt K C H x m) (k : Same H H') : MAt K C H' x m := let ⟨dx, t, u, e, q⟩ := h; ⟨dx, t, u, k _ _ e, (same_tups k).parts q⟩
theorem StpsAt.snoc {vs : List V} {ss : List Stp} {p : Addr} {s : Stp} (h : StpsAt K H vs ss) (q : SqT K H p (stpV s)) : StpsAt K H (vs ++ [V.ref p]) (ss ++ [s]) := by
  refine ⟨by rw [List.length_append, List.length_append, h.1]; rfl, fun i t e => ?_⟩
  by_cases c : i < ss.length
  · rw [List.getElem?_append_left c] at e
    obtain ⟨r, e1, q1⟩ := h.2 i t e
    exact ⟨r, by rw [List.getElem?_append_left (by rw [h.1]; exact c)]; exact e1, q1⟩
  · rw [List.getElem?_append_right (by omega)] at e
    have z : i - ss.length = 0 := by
      have := (List.getElem?_eq_some_iff.mp e).1
      simp at this
      omega
    rw [z] at e
    cases e
    exact ⟨p, by rw [List.getElem?_append_right (by rw [h.1]; omega), h.1, z]; rfl, q⟩
end
/-! ### what a machine checks -/
def NotInt (K : PySem.W.Frag) (H : Hp) (v : V) : Prop := (∃ b, v = .bl b) ∨ ∃ t, TyX K H v t ∧ PySem.W.kitOne K t (.type "int") = some false
theorem k_isi {K : PySem.W.Frag} {H : Hp} {Q : VK} {x c : V} {t u : Value} {b : Bool} (hc : ClsV c u) (ht : TyX K H x t) (hk : PySem.W.kitOne K t u = some b) (h : Q (.bl b) H) : rIsi K [x, c] H Q := ⟨x, c, t, u, b, rfl, hc, ht, hk, h⟩
theorem k_chain {r r' : R2} {ta tb tc : TE} {σ : L2.St} {H : Hp} {Q : VK} (h : ta σ H fun x H1 => tb σ H1 fun y H2 => r x y H2 fun z H3 => ∃ k, z = .bl k ∧
  (if k = true then tc σ H3 fun w' H4 => r' y w' H4 Q else Q (.bl false) H3)) : tChain r r' ta tb tc σ H Q := h
def sp_whole (K : PySem.W.Frag) : Sp := fun vs H Q _ => ∃ v : V, vs = [v] ∧ ((∃ i, v = .int i ∧ Q (.bl true) H) ∨ (NotInt K H v ∧ Q (.bl false) H))
def sp_between (K : PySem.W.Frag) : Sp := fun vs H Q _ => ∃ (v : V) (lo hi : Int), vs = [v, .int lo, .int hi] ∧ ((∃ i, v = .int i ∧ Q (.bl (decide (lo ≤ i ∧ i ≤ hi))) H) ∨ (NotInt K H v ∧ Q (.bl false) H))
def sp_is_stand (K : PySem.W.Frag) : Sp := fun vs H Q _ => ∃ (v : V) (n : Int), vs = [.int n, v] ∧ ((∃ i, v = .int i ∧ Q (.bl (decide (0 ≤ i ∧ i < n))) H) ∨ (NotInt K H v ∧ Q (.bl false) H))
def sp_check_stands (K : PySem.W.Frag) : Sp := fun vs H Q _ => ∃ n : Int, vs = [.int n] ∧ 1 ≤ n ∧ n ≤ 8 ∧ Q .non H
section
variable {P : Program} {w : World} {K : PySem.W.Frag} {mg : Str → Option Value} {base : Heap}
theorem ok_is_whole_number (T : Txt K mg) : FnOk P w K mg base (L2.CX P w) 1 T.a_is_whole_number T.fd_is_whole_number ["value"] (sp_whole K) := by
  refine T.F_is_whole_number.okX sc_is_whole_number (fun vs H Q E h => ?_) (fun cdv A outer s H vs Q E hr h => ?_)
  · obtain ⟨v, rfl, _⟩ := h
    rfl
  · obtain ⟨v, rfl, k⟩ := h
    refine ⟨_, (PSs.nox (pss_one (ps_ret (pe_and (pe_callB call_isi (by rfl) T.z_isinstance (by decide +kernel) (pa_cons (pv 0) (pa_cons (pe_bltn (v := .ty "int") (by rfl) T.z_int (by decide +kernel) rfl) pa_nil))) (pe_one (pe_not (pe_callB call_isi (by rfl) T.z_isinstance (by decide +kernel) (pa_cons (pv 0) (pa_cons (pe_bltn (v := .ty "bool") (by rfl) T.z_bool (by decide +kernel) rfl) pa_nil))))))))), ?_⟩
    walk_at "begin"
    walk_at "go"
    rcases k with ⟨i, rfl, k⟩ | ⟨⟨b, rfl⟩ | ⟨t, ht, hk⟩, k⟩
    · refine k_isi (.ty _) (.base (.int i)) (kit_ty (b := "int") (r := true) (by decide +kernel)) ?_
      walk_at "go"
      refine iteT ?_
      walk_at "go"
      refine k_isi (.ty _) (.base (.int i)) (kit_ty (b := "bool") (r := false) (by decide +kernel)) ?_
      walk_at "go"
      exact k
    · refine k_isi (.ty _) (.base (.bl b)) (kit_ty (b := "int") (r := true) (by decide +kernel)) ?_
      walk_at "go"
      refine iteT ?_
      walk_at "go"
      refine k_isi (.ty _) (.base (.bl b)) (kit_ty (b := "bool") (r := true) (by decide +kernel)) ?_
      walk_at "go"
      exact k
    · refine k_isi (.ty _) ht hk ?_
      walk_at "go"
      exact iteF k
theorem ok_is_integer_between (T : Txt K mg) : FnOk P w K mg base (L2.CX P w) 2 T.a_is_integer_between T.fd_is_integer_between ["value", "least", "most"] (sp_between K) := by
  refine T.F_is_integer_between.okX sc_is_integer_between (fun vs H Q E h => ?_) (fun cdv A outer s H vs Q E hr h => ?_)
  · obtain ⟨v, lo, hi, rfl, _⟩ := h
    rfl
  · obtain ⟨v, lo, hi, rfl, k⟩ := h
    refine ⟨_, (PSs.nox (pss_one (ps_ret (pe_and (pe_call (ok_is_whole_number T) (hr.mono (by decide)) (by rfl) T.m_is_whole_number T.k_is_whole_number T.b_is_whole_number .nil passL (pa_cons (pv 0) pa_nil)) (pe_one (pe_chain op_le op_le (pv 1) (pv 0) (pv 2))))))), ?_⟩
    walk_at "begin"
    walk_at "go"
    rcases k with ⟨i, rfl, k⟩ | ⟨ni, k⟩
    · refine ⟨_, rfl, .inl ⟨i, rfl, ?_⟩⟩
      walk_at "go"
      refine iteT (k_chain ?_)
      walk_at "go"
      refine k_ite (fun c => ?_) (fun c => ?_)
      · walk_at "go"
        rw [decide_eq_decide.mpr (show lo ≤ i ∧ i ≤ hi ↔ i ≤ hi from ⟨fun z => z.2, fun z => ⟨c, z⟩⟩)] at k
        exact k
      · walk_at "go"
        rw [decide_eq_false (show ¬ (lo ≤ i ∧ i ≤ hi) from fun z => c z.1)] at k
        exact k
    · refine ⟨_, rfl, .inr ⟨ni, ?_⟩⟩
      walk_at "go"
      exact iteF k
theorem ok_is_stand (T : Txt K mg) : FnOk P w K mg base (L2.CX P w) 3 T.a_is_stand T.fd_is_stand ["stands", "value"] (sp_is_stand K) := by
  refine T.F_is_stand.okX sc_is_stand (fun vs H Q E h => ?_) (fun cdv A outer s H vs Q E hr h => ?_)
  · obtain ⟨v, n, rfl, _⟩ := h
    rfl
  · obtain ⟨v, n, rfl, k⟩ := h
    refine ⟨_, (PSs.nox (pss_one (ps_ret (pe_call (ok_is_integer_between T) (hr.mono (by decide)) (by rfl) T.m_is_integer_between T.k_is_integer_between T.b_is_integer_between .nil passL (pa_cons (pv 1) (pa_cons pe_int (pa_cons (pe_op op_sub (pv 0) pe_int) pa_nil))))))), ?_⟩
    walk_at "begin"
    walk_at "go"
    refine ⟨v, 0, n - 1, rfl, ?_⟩
    rcases k with ⟨i, rfl, k⟩ | ⟨ht, k⟩
    · refine .inl ⟨i, rfl, ?_⟩
      rw [decide_eq_decide.mpr (show (0 ≤ i ∧ i < n) ↔ (0 ≤ i ∧ i ≤ n - 1) by omega)] at k
      exact k
    · exact .inr ⟨ht, k⟩
theorem ok_check_stands (T : Txt K mg) : FnOk P w K mg base (L2.CX P w) 3 T.a_check_stands T.fd_check_stands ["stands"] (sp_check_stands K) := by
  refine T.F_check_stands.okX sc_check_stands (fun vs H Q E h => ?_) (fun cdv A outer s H vs Q E hr h => ?_)
  · obtain ⟨n, rfl, _⟩ := h
    rfl
  · obtain ⟨n, rfl, n1, n8, k⟩ := h
    refine ⟨_, (PSs.nox (pss_one (ps_if (pt_not (pt_val (pe_call (ok_is_integer_between T) (hr.mono (by decide)) (by rfl) T.m_is_integer_between T.k_is_integer_between T.b_is_integer_between .nil passL (pa_cons (pv 0) (pa_cons pe_int (pa_cons (pe_glob (by rfl) T.m_MOST_STANDS T.r_MOST_STANDS) pa_nil))))))
  (pss_one ps_never)
  pss_nil))), ?_⟩
    walk_at "begin"
    walk_at "go"
    refine ⟨_, 1, 8, rfl, .inl ⟨n, rfl, ?_⟩⟩
    rw [decide_eq_true (show 1 ≤ n ∧ n ≤ 8 from ⟨n1, n8⟩)]
    walk_at "go"
    refine iteF ?_
    walk_at "go"
    exact k
end
/-! ### (int, text) <= (int, text) -/
def le2 (i : Int) (s : Str) (j : Int) (t : Str) : Bool := if i = j then (if s = t then true else !decide (t.cps.toList < s.cps.toList)) else decide (i ≤ j)
def rLe2 (K : PySem.W.Frag) : R2 := fun x y H Q => ∃ (a b : Addr) (i j : Int) (s t : Str), x = .ref a ∧ y = .ref b ∧ SqT K H a [.int i, .str s] ∧ SqT K H b [.int j, .str t] ∧ Q (.bl (le2 i s j t)) H
theorem op_le2 {X : Cx} (hu : X.A.units < cLine) : OpR X (compareOp .LtE) (rLe2 X.K) := by
  rintro pins st σ H x y v u Q I rx ry ⟨a, b, i, j, s, t, rfl, rfl, ha, hb, q⟩
  cases rx
  cases ry
  obtain ⟨us, r1, p1, _⟩ := I.tuple ha
  obtain ⟨ws, r2, p2, _⟩ := I.tuple hb
  obtain ⟨u1, u2, rfl, ⟨k1, rfl⟩, ⟨k2, rfl⟩⟩ := vals2 r1
  obtain ⟨w1, w2, rfl, ⟨l1, rfl⟩, ⟨l2, rfl⟩⟩ := vals2 r2
  have R := Ob.RcOp.tuples_le (A := X.A) (s := st) (e := fun n => if n = 0 then (i == j) else decide (s = t)) (r := fun n => if n = 0 then decide (i ≤ j) else !decide (t.cps.toList < s.cps.toList)) p1 p2 hu
    (fun n h1 h2 => by
      have n2 : n < 2 := h1
      match n, n2 with
      | 0, _ => exact SeqAt.EqAt.int_int _ _ _ _
      | 1, _ => exact SeqAt.EqAt.str_str _ _ _ _)
    (fun n h1 h2 _ => by
      have n2 : n < 2 := h1
      match n, n2 with
      | 0, _ => exact Ob.RcOp.le_int _ _ _ _
      | 1, _ => exact fun prog w E Q hQ => PySem.P.le_str hQ)
  have z : Ob.lexAt (fun n => if n = 0 then (i == j) else decide (s = t)) (fun n => if n = 0 then decide (i ≤ j) else !decide (t.cps.toList < s.cps.toList)) (decide ((2 : Nat) ≤ 2)) 0 (min 2 2) = le2 i s j t := by
    show Ob.lexAt _ _ _ 0 2 = _
    rw [Ob.lexAt_succ]
    unfold le2
    by_cases c : i = j
    · have c' : (i == j) = true := beq_iff_eq.mpr c
      simp only [if_pos, c', if_pos c]
      rw [Ob.lexAt_succ]
      by_cases d : s = t
      · simp [d, Ob.lexAt_zero]
      · simp [d]
    · have c' : (i == j) = false := beq_eq_false_iff_ne.mpr c
      simp [c']
      exact fun z => absurd z c
  have R' := R X.prog X.w X.xe (EP X pins σ Q) ⟨.bl _, H, I, rfl, (by rw [← z] at q; exact q)⟩
  exact R'
/-! ### steps, ends, machines -/
theorem ty_tup {K : PySem.W.Frag} {H : Hp} {p : Addr} {xs : List V} (h : SqT K H p xs) : TyX K H (.ref p) (.type "tuple") := by
  rcases h with (h | ⟨o, h⟩) | ⟨o, its, n, h, hc, _⟩
  · exact .base (.tup h)
  · exact .fTuple h
  · exact .kTuple h hc
theorem k_in {K : PySem.W.Frag} {neg : Bool} {H : Hp} {Q : VK} {p : Addr} {x : V} {xs : List V} (h : SqL K H p xs ∨ SqT K H p xs) (fx : flatV x = true) (fa : xs.all flatV = true) (q : Q (.bl (if neg then !inV x xs else inV x xs)) H) : rIn K neg x (.ref p) H Q := ⟨p, xs, rfl, h, fx, fa, q⟩
theorem letter_in {c : Nat} (h : 97 ≤ c) (h' : c ≤ 100) : inV (.str ⟨#[c]⟩) [V.str "a", V.str "b", V.str "c", V.str "d"] = true := by
  have z : c = 97 ∨ c = 98 ∨ c = 99 ∨ c = 100 := by omega
  rcases z with rfl | rfl | rfl | rfl <;> decide
theorem k_slA2 {K : PySem.W.Frag} {H : Hp} {Q : VK} {a : Addr} {x y z u : V} (h : SqT K H a [x, y, z, u]) (q : ∀ p, H p = none → Q (.ref p) (upd H p (.tup [x, y]))) : rSlA K (.ref a) none (some 2) H Q :=
  ⟨a, _, rfl, h, fun e => absurd e (by show ¬ ((0 : Nat) = 0 ∧ (2 : Nat) = 4); decide), fun _ p hp => q p hp⟩
theorem le2_no {s t : Stp} (h : s.lt t) : le2 (t.b : Nat) ⟨#[t.c]⟩ (s.b : Nat) ⟨#[s.c]⟩ = false := by
  unfold le2
  rcases h with h | ⟨h1, h2⟩
  · rw [if_neg (by omega), decide_eq_false (by omega)]
  · rw [if_pos (by omega), if_neg (by intro z; injection z with z; simp at z; omega)]
    simp
    exact List.Lex.rel h2
theorem few {n : Nat} (k : Nat) (h : k < 1000) (q : n ≤ k) : n < 1000 := Nat.lt_of_le_of_lt q h
def sp_is_step (K : PySem.W.Frag) : Sp := fun vs H Q _ => ∃ (n : Nat) (p : Addr) (s : Stp), vs = [.int (n : Nat), .ref p] ∧ SqT K H p (stpV s) ∧ s.Ok n ∧ Q (.bl true) H
def sp_check_steps (K : PySem.W.Frag) : Sp := fun vs H Q _ => ∃ (t : Addr) (us : List V) (m : MD), vs = [.int (m.n : Nat), .ref t] ∧ SqT K H t us ∧ StpsAt K H us m.ss ∧ m.Ok ∧ ∀ H', Same H H' → Q .non H'
def sp_check_ends (K : PySem.W.Frag) : Sp := fun vs H Q _ => ∃ (t : Addr) (m : MD), vs = [.int (m.n : Nat), .ref t] ∧ SqT K H t (nats m.es) ∧ m.Ok ∧ ∀ H', Same H H' → Q .non H'
/-- whether values are ascending integers from l to below n -/
def ascV (n : Int) : Int → List V → Bool
  | _, [] => true
  | l, .int j :: r => decide (l ≤ j ∧ j ≤ n - 1) && ascV n (j + 1) r
  | _, _ => false
theorem ascV_odd {n l : Int} {x : V} {r : List V} (h : ∀ j, x ≠ .int j) : ascV n l (x :: r) = false := by
  cases x with
  | int j => exact (h j rfl).elim
  | _ => rfl
theorem ascV_nats {n : Nat} : ∀ {es : List Nat} {l : Nat}, (∀ e ∈ es, e < n) → es.Pairwise (· < ·) → (∀ e ∈ es, l ≤ e) → ascV (n : Nat) (l : Nat) (nats es) = true
  | [], _, _, _, _ => rfl
  | e :: es, l, h1, h2, h3 => by
    show (decide (((l : Nat) : Int) ≤ (e : Nat) ∧ ((e : Nat) : Int) ≤ (n : Nat) - 1) && ascV (n : Nat) (((e + 1 : Nat)) : Int) (nats es)) = true
    have a := h1 e (List.mem_cons_self ..)
    have b := h3 e (List.mem_cons_self ..)
    have c := List.pairwise_cons.mp h2
    rw [decide_eq_true (by omega), ascV_nats (fun x hx => h1 x (List.mem_cons_of_mem _ hx)) c.2 (fun x hx => c.1 x hx)]
    rfl
def sp_asc (K : PySem.W.Frag) : Sp := fun vs H Q _ => ∃ (v : V) (n : Int), vs = [v, .int n] ∧ ((∃ ty, TyX K H v ty ∧ PySem.W.kitOne K ty (.type "tuple") = some false ∧ Q (.bl false) H) ∨
  ∃ t xs, v = .ref t ∧ SqT K H t xs ∧ (∀ x ∈ xs, (∃ j, x = .int j) ∨ (NotInt K H x ∧ ∀ j, x ≠ .int j)) ∧ Q (.bl (ascV n 0 xs)) H)
def sp_init (K : PySem.W.Frag) (C : Addr) : Sp := fun vs H Q _ => ∃ (x dx t u : Addr) (m : MD), vs = [.ref x, .int (m.n : Nat), .ref t, .ref u] ∧ H x = some (.ins C dx []) ∧ PartsAt K H t u m ∧ m.Ok ∧
  ∀ H', Keep x H H' → H' x = some (.ins C dx (mfs m.n t u)) → Q .non H'
def sp_machine (K : PySem.W.Frag) (C : Addr) : Sp := fun vs H Q _ => ∃ (d : Addr) (m : MD), vs = [.ref d] ∧ DAt K H d m ∧ m.Ok ∧ ∀ x H', Same H H' → H x = none → MAt K C H' x m → Q (.ref x) H'
section
variable {P : Program} {w : World} {K : PySem.W.Frag} {mg : Str → Option Value} {base : Heap}
theorem ok_is_step (T : Txt K mg) : FnOk P w K mg base (L2.CX P w) 4 T.a_is_step T.fd_is_step ["stands", "value"] (sp_is_step K) := by
  refine T.F_is_step.okX sc_is_step (fun vs H Q E h => ?_) (fun cdv A outer s H vs Q E hr h => ?_)
  · obtain ⟨n, p, s, rfl, _⟩ := h
    rfl
  · obtain ⟨n, p, t, rfl, hp, o, k⟩ := h
    refine ⟨_, (PSs.nox (pss_cons (ps_if (PW.pt (pw_or (pt_not (pt_val (pe_callB call_isi (by rfl) T.z_isinstance (by decide +kernel) (pa_cons (pv 1) (pa_cons (pe_bltn (v := .ty "tuple") (by rfl) T.z_tuple (by decide +kernel) rfl) pa_nil))))) (pw_or1 (pt_cmpR op_ne (pe_callB call_len_seq (by rfl) T.z_len PySem.boot_len (pa_cons (pv 1) pa_nil)) pe_int (nomark _)))))
  (pss_one (ps_ret pe_bl))
  pss_nil)
  (pss_cons (ps_asg (pv 1) (pg_tup rfl (pgs_cons (pg_name (i := 2) sc_is_step.nd rfl (Or.inl rfl)) (pgs_cons (pg_name (i := 3) sc_is_step.nd rfl (Or.inl rfl)) (pgs_cons (pg_name (i := 4) sc_is_step.nd rfl (Or.inl rfl)) (pgs_cons (pg_name (i := 5) sc_is_step.nd rfl (Or.inl rfl)) pgs_nil))))))
  (pss_one (ps_ret (pe_and (pe_call (ok_is_stand T) (hr.mono (by decide)) (by rfl) T.m_is_stand T.k_is_stand T.b_is_stand .nil passL (pa_cons (pv 0) (pa_cons (pv 2) pa_nil))) (pe_and (pe_cmpR op_in_seq (pv 3) (pe_glob (by rfl) T.m_LETTERS T.r_LETTERS) (by rfl)) (pe_and (pe_call (ok_is_stand T) (hr.mono (by decide)) (by rfl) T.m_is_stand T.k_is_stand T.b_is_stand .nil passL (pa_cons (pv 0) (pa_cons (pv 4) pa_nil))) (pe_one (pe_call (ok_is_integer_between T) (hr.mono (by decide)) (by rfl) T.m_is_integer_between T.k_is_integer_between T.b_is_integer_between .nil passL (pa_cons (pv 5) (pa_cons (pe_un un_neg (pe_glob (by rfl) T.m_MOST_GAIN T.r_MOST_GAIN)) (pa_cons (pe_glob (by rfl) T.m_MOST_GAIN T.r_MOST_GAIN) pa_nil))))))))))))), ?_⟩
    walk_at "begin"
    walk_at "go"
    refine k_isi (.ty _) (ty_tup hp) (kit_ty (b := "tuple") (r := true) (by decide +kernel)) ?_
    walk_at "go"
    refine iteF ?_
    walk_at "go"
    refine k_len (.inr hp) ?_
    walk_at "go"
    refine iteF ?_
    walk_at "go"
    refine k_gt hp rfl ?_
    unfold stpV
    walk_at "go"
    refine ⟨_, _, rfl, .inl ⟨_, rfl, ?_⟩⟩
    rw [decide_eq_true (show 0 ≤ ((t.b : Nat) : Int) ∧ ((t.b : Nat) : Int) < (n : Nat) from ⟨Int.natCast_nonneg _, by have := o.b; omega⟩)]
    walk_at "go"
    refine iteT ?_
    walk_at "go"
    refine k_in (.inr (T.s_LETTERS _)) rfl (by decide) ?_
    rw [letter_in o.c o.c']
    walk_at "go"
    refine iteT ?_
    walk_at "go"
    refine ⟨_, _, rfl, .inl ⟨_, rfl, ?_⟩⟩
    rw [decide_eq_true (show 0 ≤ ((t.e : Nat) : Int) ∧ ((t.e : Nat) : Int) < (n : Nat) from ⟨Int.natCast_nonneg _, by have := o.e; omega⟩)]
    walk_at "go"
    refine iteT ?_
    walk_at "go"
    refine ⟨_, _, _, rfl, .inl ⟨_, rfl, ?_⟩⟩
    rw [decide_eq_true (show -1000000000000000000000000000000 ≤ t.g ∧ t.g ≤ 1000000000000000000000000000000 from ⟨by have := o.g; omega, by have := o.g'; omega⟩)]
    exact k
theorem ok_check_steps (T : Txt K mg) : FnOk P w K mg base (L2.CX P w) 5 T.a_check_steps T.fd_check_steps ["stands", "steps"] (sp_check_steps K) := by
  refine T.F_check_steps.okX sc_check_steps (fun vs H Q E h => ?_) (fun cdv A outer s H vs Q E hr h => ?_)
  · obtain ⟨t, us, m, rfl, _⟩ := h
    rfl
  · obtain ⟨t, us, m, rfl, ht, hs, o, k⟩ := h
    refine ⟨_, (PSs.nox (pss_cons (ps_if (pt_not (pt_val (pe_callB call_isi (by rfl) T.z_isinstance (by decide +kernel) (pa_cons (pv 1) (pa_cons (pe_bltn (v := .ty "tuple") (by rfl) T.z_tuple (by decide +kernel) rfl) pa_nil)))))
  (pss_one ps_never)
  pss_nil)
  (pss_one (ps_for PassesOwn.never rfl (pi_enumT (by rfl) T.z_enumerate (pa_cons (pv 1) pa_nil)) (pg_tup rfl (pgs_cons (pg_name (i := 2) sc_check_steps.nd rfl (Or.inl rfl)) (pgs_cons (pg_name (i := 3) sc_check_steps.nd rfl (Or.inl rfl)) pgs_nil)))
  (pss_cons (ps_if (pt_not (pt_val (pe_call (ok_is_step T) (hr.mono (by decide)) (by rfl) T.m_is_step T.k_is_step T.b_is_step .nil passL (pa_cons (pv 0) (pa_cons (pv 3) pa_nil)))))
  (pss_one ps_never)
  pss_nil)
  (pss_one (ps_if (PW.pt (pw_and (pt_cmpR op_gt (pv 2) pe_int (nomark _)) (pw_and1 (pt_cmpR (op_le2 hr.units0) (pe_slice sl_tupA (pv 3) po_none (po_some pe_int)) (pe_slice sl_tupA (pe_ix ix_tup (pv 1) (pe_op op_sub (pv 2) pe_int) (fun _ _ => rfl)) po_none (po_some pe_int)) (nomark _)))))
  (pss_one ps_never)
  pss_nil))))))), ?_⟩
    walk_at "begin"
    walk_at "go"
    refine k_isi (.ty _) (ty_tup ht) (kit_ty (b := "tuple") (r := true) (by decide +kernel)) ?_
    walk_at "go"
    refine iteF ?_
    walk_at "go"
    refine ⟨_, rfl, t, us, rfl, ht, for_enumT (xs := us) (fun i σ H' => Same H H' ∧ ∃ a b, σ = [some (.int (m.n : Nat)), some (.ref t), a, b]) ⟨Same.refl _, _, _, rfl⟩ (fun i σ H' _ ⟨z, _⟩ => (same_tups z).sq ht) ?_ ?_⟩
    · rintro i x p σ H1 hx ⟨z, a, b, rfl⟩ hp
      have il : i < m.ss.length := by rw [← hs.1]; exact (List.getElem?_eq_some_iff.mp hx).1
      obtain ⟨q, eq, hq⟩ := hs.2 i _ (List.getElem?_eq_getElem il)
      rw [hx] at eq
      cases eq
      have z1 : Same H (upd H1 p (.tup [.int (i : Nat), .ref q])) := z.trans (Same.new hp)
      have hq1 := (same_tups z1).sq hq
      have ok1 := o.ok _ (List.getElem_mem il)
      refine k_gt (SqT.of upd_same) rfl ?_
      walk_at "go"
      refine ⟨m.n, q, _, rfl, hq1, ok1, ?_⟩
      walk_at "go"
      refine iteF ?_
      walk_at "go"
      refine k_ite (fun c => ?_) (fun c => iteF ?_)
      · walk_at "go"
        have jl : i - 1 < m.ss.length := by omega
        obtain ⟨q2, eq2, hq2⟩ := hs.2 (i - 1) _ (List.getElem?_eq_getElem jl)
        refine k_slA2 hq1 fun p1 n1 => ?_
        have z2 := z1.trans (Same.new (o := .tup [.int ((m.ss[i]'il).b : Nat), .str ⟨#[(m.ss[i]'il).c]⟩]) n1)
        walk_at "go"
        refine k_ixT ((same_tups z2).sq ht) (v := .ref q2) (at_of (j := i - 1) (by omega) eq2) ?_
        walk_at "go"
        refine k_slA2 ((same_tups z2).sq hq2) fun p2 n2 => ?_
        have z3 := z2.trans (Same.new (o := .tup [.int ((m.ss[i - 1]'jl).b : Nat), .str ⟨#[(m.ss[i - 1]'jl).c]⟩]) n2)
        refine ⟨p1, p2, _, _, _, _, rfl, rfl, SqT.of (Same.new n2 _ _ upd_same), SqT.of upd_same, ?_⟩
        · have up := List.pairwise_iff_getElem.mp o.up (i - 1) i jl il (by omega)
          rw [le2_no up]
          walk_at "go"
          refine iteF ?_
          walk_at "go"
          exact ⟨z3, _, _, rfl⟩
      · walk_at "go"
        exact ⟨z1, _, _, rfl⟩
    · rintro σ H1 ⟨z, _⟩
      exact k H1 z
theorem ok_is_ascending (T : Txt K mg) : FnOk P w K mg base (L2.CX P w) 3 T.a_is_ascending T.fd_is_ascending ["value", "many"] (sp_asc K) := by
  refine T.F_is_ascending.okX sc_is_ascending (fun vs H Q E h => ?_) (fun cdv A outer s H vs Q E hr h => ?_)
  · obtain ⟨v, n, rfl, _⟩ := h
    rfl
  · obtain ⟨v, n, rfl, h⟩ := h
    refine ⟨_, (PSs.nox (pss_cons (ps_if (pt_not (pt_val (pe_callB call_isi (by rfl) T.z_isinstance (by decide +kernel) (pa_cons (pv 0) (pa_cons (pe_bltn (v := .ty "tuple") (by rfl) T.z_tuple (by decide +kernel) rfl) pa_nil)))))
  (pss_one (ps_ret pe_bl))
  pss_nil)
  (pss_cons (ps_set (i := 2) sc_is_ascending.nd rfl (Or.inl rfl) pe_int)
  (pss_cons (ps_for PassesOwn.never rfl (pi_tup (pv 0)) (pg_name (i := 3) sc_is_ascending.nd rfl (Or.inl rfl))
  (pss_cons (ps_if (pt_not (pt_val (pe_call (ok_is_integer_between T) (hr.mono (by decide)) (by rfl) T.m_is_integer_between T.k_is_integer_between T.b_is_integer_between .nil passL (pa_cons (pv 3) (pa_cons (pv 2) (pa_cons (pe_op op_sub (pv 1) pe_int) pa_nil))))))
  (pss_one (ps_ret pe_bl))
  pss_nil)
  (pss_one (ps_set (i := 2) sc_is_ascending.nd rfl (Or.inl rfl) (pe_op op_add (pv 3) pe_int)))))
  (pss_one (ps_ret pe_bl)))))), ?_⟩
    walk_at "begin"
    walk_at "go"
    rcases h with ⟨ty, h1, h2, k⟩ | ⟨t, xs, rfl, ht, hx, k⟩
    · refine k_isi (.ty _) h1 h2 ?_
      walk_at "go"
      refine iteT ?_
      walk_at "go"
      exact k
    · refine k_isi (.ty _) (ty_tup ht) (kit_ty (b := "tuple") (r := true) (by decide +kernel)) ?_
      walk_at "go"
      refine iteF ?_
      walk_at "go"
      refine ⟨t, rfl, ⟨_, ht⟩, ?_⟩
      refine for_tup (xs := xs) (fun i σ H' => H' = H ∧ ∃ (l : Int) (a : Option V), σ = [some (.ref t), some (.int n), some (.int l), a] ∧ ascV n 0 xs = ascV n l (xs.drop i)) ⟨rfl, 0, _, rfl, rfl⟩ (fun i σ H' _ ⟨e, _⟩ => by rw [e]; exact ht) ?_ ?_
      · rintro i x σ H1 hx1 ⟨rfl, l, a, rfl, eq⟩
        have il : i < xs.length := (List.getElem?_eq_some_iff.mp hx1).1
        have dr : xs.drop i = x :: xs.drop (i + 1) := by rw [List.drop_eq_getElem_cons il, (List.getElem?_eq_some_iff.mp hx1).2]
        rw [dr] at eq
        walk_at "go"
        rcases hx x (List.mem_of_getElem? hx1) with ⟨j, rfl⟩ | ⟨ni, nj⟩
        · refine ⟨_, _, _, rfl, .inl ⟨j, rfl, ?_⟩⟩
          by_cases c : l ≤ j ∧ j ≤ n - 1
          · rw [decide_eq_true c]
            walk_at "go"
            refine iteF ?_
            walk_at "go"
            refine ⟨rfl, _, _, rfl, ?_⟩
            rw [eq]
            show (decide (l ≤ j ∧ j ≤ n - 1) && ascV n (j + 1) (xs.drop (i + 1))) = _
            rw [decide_eq_true c]
            rfl
          · rw [decide_eq_false c]
            walk_at "go"
            refine iteT ?_
            walk_at "go"
            have e2 : ascV n 0 xs = false := by
              rw [eq]
              show (decide (l ≤ j ∧ j ≤ n - 1) && ascV n (j + 1) (xs.drop (i + 1))) = _
              rw [decide_eq_false c]
              rfl
            rw [e2] at k
            exact k
        · refine ⟨_, _, _, rfl, .inr ⟨ni, ?_⟩⟩
          walk_at "go"
          refine iteT ?_
          walk_at "go"
          have e2 : ascV n 0 xs = false := by
            rw [eq]
            exact ascV_odd nj
          rw [e2] at k
          exact k
      · rintro σ H1 ⟨rfl, l, a, rfl, eq⟩
        rw [List.drop_length] at eq
        rw [eq] at k
        walk_at "go"
        exact k
theorem ok_check_ends (T : Txt K mg) : FnOk P w K mg base (L2.CX P w) 4 T.a_check_ends T.fd_check_ends ["stands", "ends"] (sp_check_ends K) := by
  refine T.F_check_ends.okX sc_check_ends (fun vs H Q E h => ?_) (fun cdv A outer s H vs Q E hr h => ?_)
  · obtain ⟨t, m, rfl, _⟩ := h
    rfl
  · obtain ⟨t, m, rfl, ht, o, k⟩ := h
    refine ⟨_, (PSs.nox (pss_one (ps_if (pt_not (pt_val (pe_call (ok_is_ascending T) (hr.mono (by decide)) (by rfl) T.m_is_ascending T.k_is_ascending T.b_is_ascending .nil passL (pa_cons (pv 1) (pa_cons (pv 0) pa_nil)))))
  (pss_one ps_never)
  pss_nil))), ?_⟩
    walk_at "begin"
    walk_at "go"
    refine ⟨_, _, rfl, .inr ⟨t, _, rfl, ht, fun x h => ?_, ?_⟩⟩
    · obtain ⟨e, _, rfl⟩ := List.mem_map.mp h
      exact .inl ⟨_, rfl⟩
    rw [show ascV (m.n : Nat) 0 (nats m.es) = true from ascV_nats (l := 0) (fun e h => o.eb e h) o.eu (fun _ _ => Nat.zero_le _)]
    walk_at "go"
    refine iteF ?_
    walk_at "go"
    exact k H (Same.refl _)
theorem ok_Machine_init (T : Txt K mg) : FnOk P w K mg base (L2.CX P w) 6 T.a_Machine_init T.fd_Machine_init ["self", "stands", "steps", "ends"] (sp_init K T.c_Machine) := by
  refine T.F_Machine_init.okX sc_Machine_init (fun vs H Q E h => ?_) (fun cdv A outer s H vs Q E hr h => ?_)
  · obtain ⟨x, dx, t, u, m, rfl, _⟩ := h
    rfl
  · obtain ⟨x, dx, t, u, m, rfl, hx, ⟨⟨us, ht, hs⟩, hu⟩, o, k⟩ := h
    refine ⟨_, (PSs.nox (pss_cons (ps_expr (pe_call (ok_check_stands T) (hr.mono (by decide)) (by rfl) T.m_check_stands T.k_check_stands T.b_check_stands .nil passL (pa_cons (pv 1) pa_nil)))
  (pss_cons (ps_expr (pe_call (ok_check_steps T) (hr.mono (by decide)) (by rfl) T.m_check_steps T.k_check_steps T.b_check_steps .nil passL (pa_cons (pv 1) (pa_cons (pv 2) pa_nil))))
  (pss_cons (ps_expr (pe_call (ok_check_ends T) (hr.mono (by decide)) (by rfl) T.m_check_ends T.k_check_ends T.b_check_ends .nil passL (pa_cons (pv 1) (pa_cons (pv 3) pa_nil))))
  (pss_cons (ps_fld (pv 0) (pv 1) rfl)
  (pss_cons (ps_fld (pv 0) (pv 2) rfl)
  (pss_one (ps_fld (pv 0) (pv 3) rfl)))))))), ?_⟩
    walk_at "begin"
    walk_at "go"
    refine ⟨_, rfl, by have := o.n1; omega, by have := o.n8; omega, ?_⟩
    walk_at "go"
    refine ⟨t, us, m, rfl, ht, hs, o, fun H1 z1 => ?_⟩
    walk_at "go"
    refine ⟨u, m, rfl, (same_tups z1).sq hu, o, fun H2 z2 => ?_⟩
    walk_at "go"
    have e2 : H2 x = some (.ins T.c_Machine dx []) := z2 _ _ (z1 _ _ hx)
    refine ⟨_, rfl, _, rfl, x, _, dx, _, rfl, e2, T.cl_Machine, T.n__stands, (by decide : 0 < 1000), ?_⟩
    refine ⟨_, rfl, _, rfl, x, _, dx, _, rfl, upd_same, T.cl_Machine, T.n__steps, few 1 (by decide) (length_putF _ _ _), ?_⟩
    refine ⟨_, rfl, _, rfl, x, _, dx, _, rfl, upd_same, T.cl_Machine, T.n__ends, few 2 (by decide) (Nat.le_trans (length_putF _ _ _) (Nat.succ_le_succ (length_putF _ _ _))), ?_⟩
    refine k _ (((Keep.of_same (z1.trans z2)).trans Keep.at_).trans (Keep.at_.trans Keep.at_)) ?_
    rw [upd_same]
    rfl
end
/-! ### steps in a tuple or in a list -/
def SqS (K : PySem.W.Frag) (H : Hp) (a : Addr) (xs : List V) : Prop := SqT K H a xs ∨ SqL K H a xs
theorem SqS.same {K : PySem.W.Frag} {H H' : Hp} {a : Addr} {xs : List V} (h : SqS K H a xs) (z : Same H H') : SqS K H' a xs := h.imp (fun h => (same_tups z).sq h) fun h => z.seq h
def StSq (K : PySem.W.Frag) (H : Hp) (t : Addr) (ss : List Stp) : Prop := ∃ us, SqS K H t us ∧ StpsAt K H us ss
theorem StSq.of {K : PySem.W.Frag} {H : Hp} {t : Addr} {ss : List Stp} (h : StAt K H t ss) : StSq K H t ss := let ⟨us, a, b⟩ := h; ⟨us, .inl a, b⟩
theorem StSq.same {K : PySem.W.Frag} {H H' : Hp} {t : Addr} {ss : List Stp} (h : StSq K H t ss) (z : Same H H') : StSq K H' t ss := let ⟨us, a, b⟩ := h; ⟨us, a.same z, (same_tups z).steps b⟩
def iSq (K : PySem.W.Frag) (tl : TE) : TI := fun σ H R => iTup K tl σ H R ∨ iList K tl σ H R
theorem pi_sq {X : L2.Cx} {tg l : Expr} {tl : TE} (hl : PE X l tl) : PI X tg l (iSq X.K tl) := ⟨fun pins s σ H R I h => h.elim ((pi_tup hl).run pins s σ H R I) ((pi_list hl).run pins s σ H R I)⟩
theorem for_sq {K : PySem.W.Frag} {t : Addr} {xs : List V} {j : Nat} {g : TG} {tb : TS} {D : Ends} {σ : L2.St} {H Hb : Hp} (e : σ[j]? = some (some (.ref t))) (hx : SqS K Hb t xs) (Pv : Nat → L2.St → Hp → Prop) (h0 : Pv 0 σ H) (hl : ∀ i σ H, Pv i σ H → Same Hb H)
    (hs : ∀ i x σ H, xs[i]? = some x → Pv i σ H → g x σ H fun σ2 H2 => tb { D with nx := Pv (i + 1), ct := Pv (i + 1), bk := D.nx } σ2 H2) (hd : ∀ σ H, Pv xs.length σ H → D.nx σ H) :
    iSq K (tVar j) σ H fun J H1 => ∃ W : Nat → Nat → L2.St → Hp → Prop, (∃ m, W 0 m σ H1) ∧ ∀ i m σ H, W i m σ H →
      (J.stop i H ∧ D.nx σ H) ∨ (J.go i H ∧ ∃ N : L2.St → Hp → Prop, (∀ σ' H', N σ' H' → ∃ m', m' < m ∧ W (i + 1) m' σ' H') ∧ ∀ x H', J.yld i H x H' → g x σ H' fun σ2 H2 => tb { D with nx := N, ct := N, bk := D.nx } σ2 H2) := by
  have z0 := hl _ _ _ h0
  rcases hx with hx | hx
  · exact .inl (k_var e ⟨t, rfl, ⟨xs, (same_tups z0).sq hx⟩, for_tup Pv h0 (fun i σ H _ p => (same_tups (hl _ _ _ p)).sq hx) hs hd⟩)
  · exact .inr (k_var e ⟨t, rfl, ⟨xs, z0.seq hx⟩, for_list Pv h0 (fun i σ H _ p => (hl _ _ _ p).seq hx) hs hd⟩)
/-! ### what is never reached needs no reading -/
theorem ps_any {X : Cx} {st : Stmt} : PS X st (fun _ _ _ => False) := ⟨fun _ _ _ _ _ _ h => h.elim⟩
theorem pss_any {X : Cx} {l : List Stmt} : PSs X l (fun _ _ _ => False) := ⟨fun _ _ _ _ _ _ h => h.elim⟩
theorem pe_any {X : Cx} {e : Expr} : PE X e (fun _ _ _ => False) := ⟨fun _ _ _ _ _ _ h => h.elim⟩
/-! ### an own object whose __init__ may be left by an error -/
def tMakeS (C : Addr) (sp : Sp) (E : L2.St → XK) (t : TA) : TE := fun σ H Q => t σ H fun vs H1 => ∀ x dx, H1 x = none → H1 dx = none → dx ≠ x → sp (.ref x :: vs) (upd (upd H1 dx (.own x)) x (.ins C dx [])) (fun v H2 => v = .non ∧ Q (.ref x) H2) (E σ)
theorem k_makeS {C : Addr} {sp : Sp} {E : L2.St → XK} {t : TA} {σ : L2.St} {H : Hp} {Q : VK} (h : t σ H fun vs H1 => ∀ x dx, H1 x = none → H1 dx = none → dx ≠ x → sp (.ref x :: vs) (upd (upd H1 dx (.own x)) x (.ins C dx [])) (fun v H2 => v = .non ∧ Q (.ref x) H2) (E σ)) : tMakeS C sp E t σ H Q := h
section
variable {X : Cx} {k : Nat} {f C : Addr} {fd : FuncData} {ps : List Str} {sp : Sp} {E : L2.St → XK} {x : Str} {p pos : Pos} {e : Expr} {es : List Expr} {t : TA}
theorem run_makeS {pins : List (Addr × Obj)} {σ : L2.St} {H : Hp} {s : Shared} {Q : VK} {us : List Value} {vs : List V} (M : Mk X.K C f) (F : FnOk X.prog X.w X.K X.mg X.base (L2.CX X.prog X.w) k f fd ps sp) (hr : Room (k + 1) X.A) (hb : Binds X.K fd ps [])
    (hx : PassesAt (L2.CX X.prog X.w) X σ (E σ)) (I : Inv X pins σ H s) (r : Vals vs us)
    (h : ∀ x dx, H x = none → H dx = none → dx ≠ x → sp (.ref x :: vs) (upd (upd H dx (.own x)) x (.ins C dx [])) (fun v H2 => v = .non ∧ Q (.ref x) H2) (E σ)) :
    wpAny (model X.prog X.w) X.A (call (.ref C) us) (EP X pins σ Q) X.xe s := by
  have hq := h (s.heap.objs.size + 1) s.heap.objs.size (I.hok.fresh (Nat.le_succ _)) (I.hok.fresh (Nat.le_refl _)) (Nat.ne_of_lt (Nat.lt_succ_self _))
  have I2 := Inv.made (C := C) I
  have r2 : Vals (V.ref (s.heap.objs.size + 1) :: vs) (Value.ref (s.heap.objs.size + 1) :: us) := .cons rfl r
  have hl : (Value.ref (s.heap.objs.size + 1) :: us ++ []).length = ps.length := by
    have e := r2.length
    rw [F.len _ _ _ _ hq] at e
    rw [List.append_nil]
    exact e.symm
  have b := hb _ (Value.ref (s.heap.objs.size + 1) :: us) I2.kIn hl
  rw [List.append_nil] at b
  refine wpAny_call (make_map (f := f) I.kIn M.makes M.init (beq_iff_eq.mp M.fn) (codeAny_mono (F.run _ X.stack _ _ ⟨Value.ref (s.heap.objs.size + 1) :: us, []⟩ (Value.ref (s.heap.objs.size + 1) :: us) _ _ (E σ) (hr.make C us [])
    (I2.env0.make C us []) b r2 hq) fun r s' hq' => ?_))
  cases r with
  | error e => exact hx pins _ _ e s' I2 hq'
  | ok fl =>
    cases fl with
    | ret u =>
      obtain ⟨v, H', I3, rv, ev, q3⟩ := I2.after hq'
      subst ev
      exact ⟨rv, ⟨V.ref (s.heap.objs.size + 1), H', I3, rfl, q3⟩⟩
    | next => exact False.elim hq'
    | brk => exact False.elim hq'
    | cont => exact False.elim hq'
theorem pe_makeS (M : Mk X.K C f) (F : FnOk X.prog X.w X.K X.mg X.base (L2.CX X.prog X.w) k f fd ps sp) (hr : Room (k + 1) X.A) (hg : Gl X x) (hm : X.mg x = some (.ref C)) (hb : Binds X.K fd ps []) (hx : ∀ σ, PassesAt (L2.CX X.prog X.w) X σ (E σ))
    (ha : PA X (e :: es) t) (hdb : (x == ("__debug__" : Str)) = false := by decide) (he : starEach (e :: es) X.env = (false, eval e X.env) :: starEach es X.env := by rfl) (hpl : (backTo pos (starEach es X.env)).any (·.1) = false := by rfl) :
    PE X (.Call (.Name x p) (e :: es) [] pos) (tMakeS C sp E t) := by
  refine ⟨fun pins s σ H Q I h => ?_⟩
  refine wpAny_Call_Name_kw (ld_glob I hg hm ?_ hdb)
  refine PySem.W.callWith_K (h₀ := X.base) I.ok.mod.kin M.kp (thn (ha.run pos pins s σ H _ I h) fun us s1 ⟨vs, H1, I1, r, q⟩ => ⟨I1.kIn, ?_⟩) he hpl
  exact run_makeS M F hr hb (hx σ) I1 r q
end
theorem exc_rel {K : PySem.W.Frag} {S C : Addr} {b : Bool} (hb : PySem.W.subIn K (.ref C) (.type "BaseException") = some true) (hc : PySem.W.isClsIn K C = true) (ht : PySem.W.typeIn K (.ref C) = some (.type "type")) (hs : PySem.W.subIn K (.ref S) (.ref C) = some b) : PySem.W.exmOne K (.ref S) (.ref C) = some b := by
  have hc' : (PySem.W.clsIn K C).isSome = true := hc
  unfold PySem.W.exmOne PySem.W.kitCls
  simp only [hb, ht, hc', hs, beq_self_eq_true, Bool.and_self, if_true]
theorem FnOk.or {P : Program} {w : World} {K : PySem.W.Frag} {mg : Str → Option Value} {base : Heap} {CX : CXT} {k : Nat} {f : Addr} {fd : FuncData} {ps : List Str} {sp sp' : Sp} (F : FnOk P w K mg base CX k f fd ps sp) (G : FnOk P w K mg base CX k f fd ps sp') :
    FnOk P w K mg base CX k f fd ps (fun vs H Q E => sp vs H Q E ∨ sp' vs H Q E) :=
  ⟨fun vs H Q E q => q.elim (F.len vs H Q E) (G.len vs H Q E), fun A outer s H args us vs Q E hr he hb hv hs => hs.elim (F.run A outer s H args us vs Q E hr he hb hv) (G.run A outer s H args us vs Q E hr he hb hv)⟩
/-! ### several except clauses, some of them with a name -/
/-- what the clauses wish of an exception of the body, one after the other; some i: the slot of the clause's name -/
def wManyA (K : PySem.W.Frag) (Wout : WX) (D : Ends) : List (Value × Option Nat × (Addr → Value → Option Addr → TS)) → WX
  | [] => Wout
  | (c, none, ts) :: r => fun cls d σ H => ∃ b, PySem.W.exmOne K cls c = some b ∧ (b = true → ∀ a, H a = none → ts a cls d D σ H) ∧ (b = false → wManyA K Wout D r cls d σ H)
  | (c, some i, ts) :: r => fun cls d σ H => ∃ b, PySem.W.exmOne K cls c = some b ∧ (b = true → ∀ a, H a = none → ts a cls d { nx := fun σ' H' => D.nx (σ'.set i none) H', rt := D.rt, bk := fun σ' H' => D.bk (σ'.set i none) H', ct := fun σ' H' => D.ct (σ'.set i none) H' } (σ.set i (some (.ref a))) H) ∧
      (b = false → wManyA K Wout D r cls d σ H)
inductive HdsOkA (X : Cx) : List ExceptHandler → List (Value × Option Nat × (Addr → Value → Option Addr → TS)) → Prop
  | nil : HdsOkA X [] []
  | cons {x : Str} {c : Value} {ts : Addr → Value → Option Addr → TS} {b₀ : Stmt} {suite : List Stmt} {np pos' : Pos} {hds : List ExceptHandler} {l : List (Value × Option Nat × (Addr → Value → Option Addr → TS))} (hc : Names X x c)
      (hsu : ∀ (a : Addr) (oe : Obj) (cls : Value) (d : Option Addr) (pn : List (Addr × Obj)), Zc cls d oe → (∃ vs, oe.data = .fields vs) → PSs (X.suite a ((a, oe) :: pn)) (b₀ :: suite) (ts a cls d)) (r : HdsOkA X hds l) :
      HdsOkA X (.ExceptHandler (some (.Name x np)) none (b₀ :: suite) pos' :: hds) ((c, none, ts) :: l)
  | consA {x n : Str} {i : Nat} {c : Value} {ts : Addr → Value → Option Addr → TS} {b₀ : Stmt} {suite : List Stmt} {np pos' : Pos} {hds : List ExceptHandler} {l : List (Value × Option Nat × (Addr → Value → Option Addr → TS))} (hN : X.N.Nodup) (hi : X.N[i]? = some n) (hln : X.env.kindOf n = some .local) (hc : Names X x c)
      (hsu : ∀ (a : Addr) (oe : Obj) (cls : Value) (d : Option Addr) (pn : List (Addr × Obj)), Zc cls d oe → (∃ vs, oe.data = .fields vs) → PSs (X.suite a ((a, oe) :: pn)) (b₀ :: suite) (ts a cls d)) (r : HdsOkA X hds l) :
      HdsOkA X (.ExceptHandler (some (.Name x np)) (some n) (b₀ :: suite) pos' :: hds) ((c, some i, ts) :: l)
section
variable {X : Cx} {body : List Stmt} {h₀ : ExceptHandler} {hds : List ExceptHandler} {l : List (Value × Option Nat × (Addr → Value → Option Addr → TS))} {pos : Pos} {tb : WX → TS} {Wout : WX}
theorem ps_try_manyA (hs : X.stack = X.env :: X.outer) (hf : X.env.frame = some X.env.locals) (tk : Takes X Wout)
    (hb : ∀ (W : WX) (pn : List (Addr × Obj)) (xe : Value → Shared → Prop), Takes (X.tr pn xe) W → PassesOwn (model X.prog X.w) X.A X.env xe → PSs (X.tr pn xe) body (tb W))
    (hh : HdsOkA X (h₀ :: hds) l) : PS X (.Try body (h₀ :: hds) [] [] pos) (fun D σ H => tb (wManyA X.K Wout D l) D σ H) := by
  refine ⟨fun pins s σ H D I h => ?_⟩
  have ok := I.ok
  have hfr : X.A.frames = some (X.env :: X.outer) := by rw [ok.frames, hs]
  refine PySem.wpAny_Try_except ?_
  refine wpAny_mono ((hb (wManyA X.K Wout D l) (X.pn ++ pins) (fun e s₁ => wpAny (model X.prog X.w) X.A (noteFrame e X.env) (fun _ s₂ => wpAny (model X.prog X.w) X.A (setFlight e none) (fun _ s₃ =>
    wpAny (model X.prog X.w) X.A (handleBy e X.env (h₀ :: hds)) (SP X pins D) X.xe s₃) X.xe s₂) X.xe s₁) (fun u s' xx => ?_) PassesOwn.looking).run [] s σ H D (I.toTry _) h) (fun f s1 hsp => ?_) (fun e s1 he => he)
  · -- the catch
    obtain ⟨a, B, sI, pins', σ', H', cls, d, rfl, J', nb, up, sky, na, os, ag, w⟩ := xx
    have J : Inv X pins σ' H' sI := J'.ofTry ok
    have sky' : Sky B (X.env :: X.outer) a (Zc cls d) X.env.locals s'.heap := by rw [← hs]; exact sky
    show wpAny (model X.prog X.w) X.A (noteFrame (.ref a) X.env) _ _ _
    refine Sky.land Zc.steady hfr hf sky' fun h3 fl3 up3 => ?_
    have J3 : Inv X pins σ' H' { s' with heap := h3 } := J.landed nb fl3.1 (up.trans up3) os ag
    obtain ⟨oe3, vs3, he3, hz3, hd3⟩ := fl3.there
    have notFr : ∀ {h : Heap} {o : Obj} {vs : Array Value}, h.FunFrames B (X.env :: X.outer) → h.get? a = some o → o.data = .fields vs → a ∉ frs (X.env :: X.outer) := fun {h o vs} ff e dd hm => by
      obtain ⟨_, o', e', hnf⟩ := ff.mem hm
      rw [e] at e'; cases e'
      exact hnf _ dd
    have nfr := notFr fl3.2.2.1 he3 hd3
    have nL : a ≠ X.env.locals := fun z => nfr (List.mem_filterMap.mpr ⟨X.env, List.mem_cons_self, by rw [hf, z]⟩)
    have nF : a ∉ X.fs := fun hm => by
      obtain ⟨e, he, q⟩ := List.mem_filterMap.mp hm
      exact nfr (List.mem_filterMap.mpr ⟨e, List.mem_cons_of_mem _ he, q⟩)
    have S3 := J3.suite he3 hd3 na nL nF
    have go : ∀ {hds' : List ExceptHandler} {l' : List (Value × Option Nat × (Addr → Value → Option Addr → TS))}, HdsOkA X hds' l' → wManyA X.K Wout D l' cls d σ' H' →
        wpAny (model X.prog X.w) X.A (handleBy (.ref a) X.env hds') (SP X pins D) X.xe { s' with heap := h3 } := by
      intro hds' l' hk
      induction hk with
      | nil =>
        intro w
        refine PySem.wpAny_handleBy_nil ?_
        obtain ⟨k1, k2, k3, oe, vs, T, oT, ts', he, hz, hd, h1, hr⟩ := id fl3
        unfold PySem.passOn
        refine wpAny_bind (wpAny_field he hd h1 ?_)
        rw [if_neg (show ¬ ((Value.ref T == Value.none) = true) from by simp)]
        have fin : wpAny (model X.prog X.w) X.A (setFlight (.ref a) X.env.frame) (fun _ s4 => wpAny (model X.prog X.w) X.A (throw (.ref a) : Sem Flow) (SP X pins D) X.xe s4) X.xe { s' with heap := h3 } := by
          rw [hf]
          refine HandSPX.setFlight_upZ fl3 fun h4 hh4 up4 => wpAny_throw (tk _ _ ?_)
          exact ⟨a, B, sI, pins, σ', H', cls, d, rfl, J, nb, (up.trans up3).trans up4, .inr (.inr (by rw [hs]; exact hh4)), na, os, ag, w⟩
        first
          | exact wpAny_bind (wpAny_pure (wpAny_bind fin))
          | exact wpAny_bind fin
      | @cons x c ts b₀ suite np pos' hds2 l2 hc hsu r ih =>
        intro w
        obtain ⟨b, hb1, hyes, hno⟩ := w
        refine wpAny_handleBy_cons (codeAny_handlers_test ?_) (by intro q; cases q)
        have LT : PySem.W.Looks (model X.prog X.w) h3 (typeOf (.ref a)) cls := fun A Q E s k q => wpAny_typeOf_ref (k _ _ he3) (by rw [hz3.1]; exact q)
        have LM := PySem.W.exm_one (M := model X.prog X.w) (J3.kIn) LT hb1
        have test : ∀ {Q : Value → Shared → Prop} {E : Value → Shared → Prop}, Q c { s' with heap := h3 } → wpAny (model X.prog X.w) (X.A.mark (some (.ref a))) (eval (.Name x np) X.env) Q E { s' with heap := h3 } := fun {Q E} q => by
          obtain ⟨hg, hdbg, hm | ⟨hm, hv, hnn⟩⟩ := hc
          · exact ld_glob (X := X.suite a ((a, oe3) :: (X.pn ++ pins))) S3 hg hm q hdbg
          · exact ld_blt (X := X.suite a ((a, oe3) :: (X.pn ++ pins))) S3 hg hm hv q hnn hdbg
        refine test (LM.here ?_)
        cases b with
        | true =>
          refine codeAny_handlers_suite ?_
          refine HandSPX.lands_againZ fl3 fun h4 fl4 up4 => ?_
          have J4 : Inv X pins σ' H' { s' with heap := h4 } := J.landed nb fl4.1 ((up.trans up3).trans up4) os ag
          obtain ⟨oe4, vs4, he4, hz4, hd4⟩ := fl4.there
          have S4 := J4.suite he4 hd4 na nL nF
          refine wpAny_mono ((hsu a oe4 cls d (X.pn ++ pins) hz4 ⟨_, hd4⟩).run [] _ _ H' _ S4 (hyes rfl a na)) (fun f s6 hsp => ?_) (fun _ _ z => False.elim z)
          cases f with
          | next =>
            obtain ⟨σ6, H6, S6, q6⟩ := hsp
            exact ⟨_, _, S6.unsuite ok, q6⟩
          | brk =>
            obtain ⟨σ6, H6, S6, q6⟩ := hsp
            exact ⟨_, _, S6.unsuite ok, q6⟩
          | cont =>
            obtain ⟨σ6, H6, S6, q6⟩ := hsp
            exact ⟨_, _, S6.unsuite ok, q6⟩
          | ret u =>
            obtain ⟨v6, σ6, H6, S6, r6, q6⟩ := hsp
            exact ⟨_, _, _, S6.unsuite ok, r6, q6⟩
        | false =>
          show wpAny _ X.A (handleBy (.ref a) X.env hds2) _ _ _
          exact ih (hno rfl)
      | @consA x n i c ts b₀ suite np pos' hds2 l2 hN hi hln hc hsu r ih =>
        intro w
        obtain ⟨b, hb1, hyes, hno⟩ := w
        have hloc : Loc X.env.scope n := .inl hln
        refine wpAny_handleBy_cons (codeAny_handlers_test ?_) (by intro q; cases q)
        have LT : PySem.W.Looks (model X.prog X.w) h3 (typeOf (.ref a)) cls := fun A Q E s k q => wpAny_typeOf_ref (k _ _ he3) (by rw [hz3.1]; exact q)
        have LM := PySem.W.exm_one (M := model X.prog X.w) (J3.kIn) LT hb1
        have test : ∀ {Q : Value → Shared → Prop} {E : Value → Shared → Prop}, Q c { s' with heap := h3 } → wpAny (model X.prog X.w) (X.A.mark (some (.ref a))) (eval (.Name x np) X.env) Q E { s' with heap := h3 } := fun {Q E} q => by
          obtain ⟨hg, hdbg, hm | ⟨hm, hv, hnn⟩⟩ := hc
          · exact ld_glob (X := X.suite a ((a, oe3) :: (X.pn ++ pins))) S3 hg hm q hdbg
          · exact ld_blt (X := X.suite a ((a, oe3) :: (X.pn ++ pins))) S3 hg hm hv q hnn hdbg
        refine test (LM.here ?_)
        cases b with
        | true =>
          refine codeAny_handlers_suite_as ?_
          refine HandSPX.lands_againZ fl3 fun h4 fl4 up4 => ?_
          have J4 : Inv X pins σ' H' { s' with heap := h4 } := J.landed nb fl4.1 ((up.trans up3).trans up4) os ag
          obtain ⟨oe4, vs4, he4, hz4, hd4⟩ := fl4.there
          have S4 := J4.suite he4 hd4 na nL nF
          refine store_ok (X := X.suite a ((a, oe4) :: (X.pn ++ pins))) (v := .ref a) S4 hN hi hloc rfl (fun s5 S5 => ?_) (.inr hln)
          refine wpAny_mono ((hsu a oe4 cls d (X.pn ++ pins) hz4 ⟨_, hd4⟩).run [] s5 _ H' _ S5 (hyes rfl a na)) (fun f s6 hsp => ?_) (fun _ _ z => False.elim z)
          have end_ : ∀ {σ6 : L2.St} {H6 : Hp} {Q : Shared → Prop}, Inv (X.suite a ((a, oe4) :: (X.pn ++ pins))) [] σ6 H6 s6 → (∀ s7, Inv X pins (σ6.set i none) H6 s7 → Q s7) →
              wpAny (model X.prog X.w) X.A (do bindName X.env n .none; unbindBehindTheSuite X.env n pos') (fun _ s7 => Q s7) X.xe s6 := fun {σ6 H6 Q} S6 hq => gone_ok (S6.unsuite ok) hN hi hln hq
          cases f with
          | next =>
            obtain ⟨σ6, H6, S6, q6⟩ := hsp
            exact end_ S6 fun s7 J7 => ⟨_, _, J7, q6⟩
          | brk =>
            obtain ⟨σ6, H6, S6, q6⟩ := hsp
            exact end_ S6 fun s7 J7 => ⟨_, _, J7, q6⟩
          | cont =>
            obtain ⟨σ6, H6, S6, q6⟩ := hsp
            exact end_ S6 fun s7 J7 => ⟨_, _, J7, q6⟩
          | ret u =>
            obtain ⟨v6, σ6, H6, S6, r6, q6⟩ := hsp
            exact end_ S6 fun s7 J7 => ⟨_, _, _, J7, r6, q6⟩
        | false =>
          show wpAny _ X.A (handleBy (.ref a) X.env hds2) _ _ _
          exact ih (hno rfl)
    exact go hh w
  · cases f with
    | next =>
      obtain ⟨σ', H', J', q⟩ := hsp
      exact PySem.wpAny_execs_nil ⟨σ', H', J'.ofTry ok, q⟩
    | brk =>
      obtain ⟨σ', H', J', q⟩ := hsp
      exact ⟨σ', H', J'.ofTry ok, q⟩
    | cont =>
      obtain ⟨σ', H', J', q⟩ := hsp
      exact ⟨σ', H', J'.ofTry ok, q⟩
    | ret u =>
      obtain ⟨v, σ', H', J', r, q⟩ := hsp
      exact ⟨v, σ', H', J'.ofTry ok, r, q⟩
end
/-! ### an own error whose __init__ calls its base's, and that is told by a field -/
theorem pe_tveinit {X : Cx} {e : Expr} {es : List Expr} {ta : TA} {p1 p2 pos : Pos} {x : Str} {CB : Addr} {pl : Sem Bool} (hg : Gl X x) (hm : X.mg x = some (.ref CB)) (hr : PySem.W.readsIn X.K CB (.type "type") = true)
    (vV : PySem.W.findCls X.K (.ref CB) (.type "type") "__init__" = some (.val (.builtin "ValueError.__init__"))) (sg : PySem.W.specialIn X.K (.ref CB) "__getattribute__" = some (some (.builtin "type.__getattribute__"))) (ha : PA X (e :: es) ta)
    (hdb : (x == ("__debug__" : Str)) = false := by decide)
    (hc : eval (.Call (.Attribute (.Name x p1) "__init__" p2) (e :: es) [] pos) X.env = (do
      let ov ← eval (.Name x p1) X.env
      standAt p2.atName
      let (f, first) ← holding [ov] (getMethod ov "__init__" pl)
      callWith pos f first (backTo pos (starEach (e :: es) X.env)) (backToKw pos (keywordEach [] X.env))) := by rfl)
    (he : starEach (e :: es) X.env = (false, eval e X.env) :: starEach es X.env := by rfl) (hpl : (backTo pos (starEach es X.env)).any (·.1) = false := by rfl) :
    PE X (.Call (.Attribute (.Name x p1) "__init__" p2) (e :: es) [] pos) (tVeI X.K ta) := by
  refine ⟨fun pins s σ H Q I h => ?_⟩
  refine PySem.W.methodCall_KW (ld_glob I hg hm ?_ hdb) hc
  refine PySem.W.method_cls I.kIn sg (PySem.W.cls_value I.kIn hr vV rfl ?_)
  show wpAny _ _ (callWith pos (Value.builtin "ValueError.__init__") [] (backTo pos (starEach (e :: es) X.env)) []) _ _ _
  refine PyProof.Rows.callWith_method1 (thn (ha.run pos pins _ σ H _ (I.tok _) h) fun us s1 ⟨vs, H1, I1, r1, a, C, ws, ev, hl, T, ea, q⟩ => ?_) he hpl
  subst ev
  cases r1 with
  | @cons _ u0 _ ur ra rw' =>
    obtain rfl : u0 = Value.ref a := ra
    have hlen : ur.length ≤ sizeLine := by
      rw [← Paired.length rw', sizeLine_eq]
      omega
    exact oinit_ok T I1 ea hlen fun s' J => ⟨.non, H1, J, rfl, q⟩
/-- what __init__ of such an error is called with, and leaves -/
def sp_einit (K : PySem.W.Frag) (C : Addr) (f : Str) : Sp := fun vs H Q _ => ∃ (a : Addr) (v : V), vs = [.ref a, v] ∧ H a = some (exo a C none) ∧ ∀ dx, H dx = none → dx ≠ a → Q .non (upd (upd H dx (exd dx [(f, v)])) a (exo a C (some dx)))
theorem k_vei {K : PySem.W.Frag} {ta : TA} {σ : L2.St} {H : Hp} {Q : VK} (h : ta σ H fun vs H1 => ∃ (a C : Addr) (ws : List V), vs = .ref a :: ws ∧ ws.length ≤ 1000 ∧ OexC K C ∧ H1 a = some (exo a C none) ∧ Q .non H1) : tVeI K ta σ H Q := h
theorem k_ost {K : PySem.W.Frag} {f : Str} {to te : TE} {D : Ends} {σ : L2.St} {H : Hp} (h : te σ H fun y H1 => to σ H1 fun x H2 => ∃ a C : Addr, x = .ref a ∧ OexC K C ∧ PySem.W.findIn K (.ref C) f = some none ∧
  ((H2 a = some (exo a C none) ∧ ∀ dx, H2 dx = none → dx ≠ a → D.nx σ (upd (upd H2 dx (exd dx [(f, y)])) a (exo a C (some dx)))) ∨
    ∃ (dx : Addr) (fs : List (Str × V)), H2 a = some (exo a C (some dx)) ∧ H2 dx = some (exd dx fs) ∧ fs.length ≤ 900 ∧ D.nx σ (upd H2 dx (exd dx ((f, y) :: fs))))) : tOst K f to te D σ H := h
theorem k_mkO {C : Addr} {sp : Sp} {dvs : List V} {ta : TA} {σ : L2.St} {H : Hp} {Q : XK} (h : ta σ H fun vs H1 => vs.length ≤ 1000 ∧ ∀ a, H1 a = none → sp (.ref a :: (vs ++ dvs)) (upd H1 a (exo a C none))
  (fun v H2 => v = .non ∧ ∃ (d : Addr) (fs : List (Str × V)), H2 a = some (exo a C (some d)) ∧ H2 d = some (exd d fs) ∧ H1 d = none ∧ Q (.ref C) (some d) (upd (del H2 a) d (.xd fs))) (fun _ _ _ => False)) : tMkO C sp dvs ta σ H Q := h
theorem k_xf {a : Addr} {cls : Value} {d : Option Addr} {C : Addr} {f : Str} {te : TE} {σ : L2.St} {H : Hp} {Q : VK} (h : te σ H fun x H1 => x = .ref a ∧ cls = .ref C ∧ ∃ (dd : Addr) (fs : List (Str × V)) (v : V), d = some dd ∧ H1 dd = some (.xd fs) ∧ fs.lookup f = some v ∧ Q v H1) : tXf a cls d C f te σ H Q := h
/-! ### a call that an error may leave -/
section
variable {K : PySem.W.Frag} {σ : L2.St} {H : Hp} {Q : VK}
theorem k_callS {sp : Sp} {E : L2.St → XK} {t : TA} (h : t σ H fun vs H1 => sp vs H1 Q (E σ)) : tCallS sp E t σ H Q := h
end
/-! ### name = {k: v for ..} -/
theorem sw_trueD {kx vx : Expr} {gs : List Comprehension} {scope : Scope} {pos py : Pos} {y : Str} {n : Nat} {env : Env} (hk : env.scope.kind = .function) (hy : env.scope.names.lookup y = some .local) (hl : (py.line == pos.line) = true)
    (ha : (scope.names.any fun (m, c) => m == y && (c == .local || c == .cell)) = false) : swapsWith (.DictComp kx vx gs scope pos) (some (.Name y py)) n env = pure true := by
  have k1 : env.kindOf y = some .local := hy
  have k2 : env.blockKind = .function := by
    unfold Env.blockKind
    rw [hk]
    rfl
  unfold swapsWith
  simp only [k1, k2, ha, Expr.pos, hl]
  rfl
section
variable {X : Cx}
theorem ps_setDc {i : Nat} {y : Str} {py : Pos} {kx vx tg it : Expr} {ifs : List Expr} {scope : Scope} {own : List (Str × Nat)} {pos sp : Pos} {wi : TI} {g : TG} {tt : TT} {tk tv : TE} (hc : X.calm = true) (hN : X.N.Nodup)
    (hy : X.N[i]? = some y) (hyl : X.env.scope.names.lookup y = some .local) (hsw : swapsWith (.DictComp kx vx [⟨tg, it, ifs, 0⟩] scope pos) (some (.Name y py)) sp.line X.env = pure true)
    (hi : PI X tg it wi) (ok : BlkOk X.N X.env.scope scope own)
    (hg : ∀ (s : Shared) (H : Hp) (C : Addr) (cl : List (Str × Addr)) (fp : List Addr), PG (X.blk s H scope (compEnvC scope cl C X.env) fp) tg g)
    (ht : ∀ (s : Shared) (H : Hp) (C : Addr) (cl : List (Str × Addr)) (fp : List Addr), PTs (X.blk s H scope (compEnvC scope cl C X.env) fp) ifs tt)
    (hk : ∀ (s : Shared) (H : Hp) (C : Addr) (cl : List (Str × Addr)) (fp : List Addr), PE (X.blk s H scope (compEnvC scope cl C X.env) fp) kx tk)
    (hv : ∀ (s : Shared) (H : Hp) (C : Addr) (cl : List (Str × Addr)) (fp : List Addr), PE (X.blk s H scope (compEnvC scope cl C X.env) fp) vx tv)
    (hs : ∀ x, foldedSetIterable it X.env x = pure x := by intro _; rfl) :
    PS X (.Assign [.Name y py] (.DictComp kx vx [⟨tg, it, ifs, 0⟩] scope pos) sp) (tAsg (tDc wi g tt tk tv (own.map (·.2))) (gName i)) := by
  constructor
  intro pins s σ H D I h
  rw [exec_Assign_Name_used _ _ _ _ hsw]
  refine wpAny_bind (wpAny_standAt (wpAny_bind ?_))
  show wpAny _ X.A (do let _ ← comprehension (.DictComp kx vx [⟨tg, it, ifs, 0⟩] scope pos) scope X.env (firstIterPos [⟨tg, it, ifs, 0⟩] pos) newDict false (eval it X.env) (some (assign (.Name y py) X.env))) _ _ s
  have h' : tDc wi g tt tk tv (own.map (·.2)) σ H (fun x H1 => gName i x σ H1 D.nx) := h
  refine wpAny_bind (thn (dc_core (Qf := fun _ s' => SP X pins D .next s') hc hN I hi ok hg ht hk hv hs h' ?_) fun _ s' hq => wpAny_pure (wpAny_pure hq))
  intro L C s' m H' I' q hn f
  show wpAny _ _ (assign (.Name y py) X.env (.ref L)) _ _ _
  refine wpAny_assign_Name (store_ok2 (v := V.ref L) I' hN hy (.inl hyl) rfl ?_ (.inr hyl))
  rintro s2 I2 ⟨a, sb, ha⟩
  obtain ⟨f0, f1, f2, f3, f4, f5⟩ := f
  have ne : C ≠ a := by
    rcases ha with z | z
    · rw [z]; exact f1
    · exact fun e => f4 y a z e.symm
  exact ⟨m, hn.sameBut sb ne, fun h3 sb3 => ⟨_, H', I2.turned (t' := s2.toks) (fun b o hb e => (sb3.2 b hb).trans e) f0 f1 f3 f4 f5, q⟩⟩
/-- over a list that stays -/
theorem dc_lst {K : PySem.W.Frag} {a : Addr} {xs : List V} {g : TG} {tt : TT} {tk tv : TE} {vs : List Nat} {σ : L2.St} {H1 : Hp} {D : Addr} {Qd : Hp → Prop} (Pv : Nat → Hp → Prop) (h0 : Pv 0 (upd H1 D (.dK [])))
    (hl : ∀ i H, i ≤ xs.length → Pv i H → SqL K H a xs)
    (hs : ∀ i x H, xs[i]? = some x → Pv i H → g x (wipe σ vs) H fun σ2 H2 => wipe σ2 vs = wipe σ vs ∧ tt σ2 H2 fun b H3 =>
      if b = true then tk σ2 H3 fun y H4 => tv σ2 H4 fun z H5 => ∃ kvs k, y = kV k ∧ H5 D = some (.dK kvs) ∧ kvs.length < sizeLine ∧ Pv (i + 1) (upd H5 D (.dK (putK kvs k z))) else Pv (i + 1) H3) (hd : ∀ H, Pv xs.length H → Qd H) :
    ∃ W : Nat → Nat → Hp → Prop, (∃ m, W 0 m (upd H1 D (.dK []))) ∧ ∀ i m H, W i m H → ((Itl K a).stop i H ∧ Qd H) ∨
      ((Itl K a).go i H ∧ ∃ Nx : Hp → Prop, (∀ H', Nx H' → ∃ m', m' < m ∧ W (i + 1) m' H') ∧ ∀ x H', (Itl K a).yld i H x H' → g x (wipe σ vs) H' fun σ2 H2 => wipe σ2 vs = wipe σ vs ∧ tt σ2 H2 fun b H3 =>
        if b = true then tk σ2 H3 fun y H4 => tv σ2 H4 fun z H5 => ∃ kvs k, y = kV k ∧ H5 D = some (.dK kvs) ∧ kvs.length < sizeLine ∧ Nx (upd H5 D (.dK (putK kvs k z))) else Nx H3) := by
  refine ⟨fun i m H => m + i = xs.length ∧ Pv i H, ⟨xs.length, by simp, h0⟩, fun i m H ⟨em, hP⟩ => ?_⟩
  have sq := hl i H (by omega) hP
  by_cases c : i < xs.length
  · refine .inr ⟨⟨xs, xs[i], sq, List.getElem?_eq_getElem c⟩, Pv (i + 1), fun H' z => ⟨m - 1, by omega, by omega, z⟩, ?_⟩
    rintro x H' ⟨rfl, hx⟩
    exact hs i x _ (hx xs sq) hP
  · have e : i = xs.length := by omega
    exact .inl ⟨⟨xs, sq, by omega⟩, hd H (e ▸ hP)⟩
end
/-! ### rows by their codes; what is best so far, by stand -/
abbrev Wd := List Nat
def sOf (w : Wd) : Str := ⟨w.toArray⟩
theorem sOf_snoc (w : Wd) (c : Nat) : sOf w ++ ⟨#[c]⟩ = sOf (w ++ [c]) := by
  show Str.mk (w.toArray ++ #[c]) = _
  rw [List.append_toArray]
  rfl
theorem sOf_len (w : Wd) : (sOf w).length = w.length := by
  show w.toArray.size = _
  simp
theorem sOf_cps (w : Wd) : (sOf w).cps.toList = w := rfl
theorem sOf_inj {v w : Wd} (h : sOf v = sOf w) : v = w := by
  have := congrArg (fun s => s.cps.toList) h
  exact this
abbrev RF := Nat → Option (Int × Wd)
def better (x : Int × Wd) : Option (Int × Wd) → Bool
  | none => true
  | some y => decide (y.1 < x.1) || (decide (x.1 = y.1) && decide (x.2 < y.2))
def RF.put (f : RF) (k : Nat) (x : Int × Wd) : RF := fun j => if j = k then some x else f j
def turnL (sg : Int) (f acc : RF) (s : Stp) : RF := match f s.b with
  | none => acc
  | some y => if better (y.1 + sg * s.g, y.2 ++ [s.c]) (acc s.e) = true then acc.put s.e (y.1 + sg * s.g, y.2 ++ [s.c]) else acc
def longer (sg : Int) (f : RF) (ss : List Stp) : RF := ss.foldl (turnL sg f) fun _ => none
/-! ### dicts from stands to tuples -/
def ent2 (x : Int × Wd) : List V := [.int x.1, .str (sOf x.2)]
def E2 (f : RF) : Nat → Option (List V) := fun n => (f n).map ent2
def KvOk (K : PySem.W.Frag) (H : Hp) (kvs : List (Key × V)) (e : Nat → Option (List V)) : Prop :=
  (∀ p ∈ kvs, ∃ n : Nat, p.1 = .inl (n : Int)) ∧ ∀ n : Nat, (e n = none → valV kvs (.inl (n : Int)) = none) ∧ ∀ l, e n = some l → ∃ p, valV kvs (.inl (n : Int)) = some (.ref p) ∧ SqT K H p l
section
variable {K : PySem.W.Frag} {H H' : Hp} {kvs : List (Key × V)} {e : Nat → Option (List V)}
theorem KvOk.tups (h : KvOk K H kvs e) (t : Tups H H') : KvOk K H' kvs e := ⟨h.1, fun n => ⟨(h.2 n).1, fun l el => let ⟨p, q, z⟩ := (h.2 n).2 l el; ⟨p, q, t.sq z⟩⟩⟩
theorem KvOk.nil : KvOk K H [] fun _ => none := ⟨fun _ h => absurd h (by simp), fun n => ⟨fun _ => rfl, fun l h => by cases h⟩⟩
theorem KvOk.put {n : Nat} {p : Addr} {l : List V} (h : KvOk K H kvs e) (hp : SqT K H p l) : KvOk K H (putK kvs (.inl (n : Int)) (.ref p)) fun j => if j = n then some l else e j := by
  refine ⟨fun q hq => ?_, fun j => ?_⟩
  · unfold putK at hq
    split at hq
    · obtain ⟨r, hr, rfl⟩ := List.mem_map.mp hq
      split
      · rename_i z; exact ⟨n, z⟩
      · exact h.1 r hr
    · rcases List.mem_append.mp hq with hq | hq
      · exact h.1 q hq
      · have : q = (.inl (n : Int), .ref p) := by simpa using hq
        exact ⟨n, by rw [this]⟩
  · rw [valV_put]
    by_cases c : j = n
    · have c' : (Sum.inl (j : Int) : Key) = .inl (n : Int) := by rw [c]
      simp only [if_pos c, if_pos c']
      refine ⟨fun z => (by cases z), fun l' el => ?_⟩
      cases el
      exact ⟨p, rfl, hp⟩
    · have c' : ¬ (Sum.inl (j : Int) : Key) = .inl (n : Int) := fun z => c (by injection z with z; omega)
      simp only [if_neg c, if_neg c']
      exact h.2 j
theorem KvOk.congr {e' : Nat → Option (List V)} (h : KvOk K H kvs e) (q : ∀ n, e n = e' n) : KvOk K H kvs e' := (funext q : e = e') ▸ h
end
theorem E2_put (f : RF) (k : Nat) (x : Int × Wd) (n : Nat) : (if n = k then some (ent2 x) else E2 f n) = E2 (f.put k x) n := by
  unfold E2 RF.put
  by_cases c : n = k
  · rw [if_pos c, if_pos c]; rfl
  · rw [if_neg c, if_neg c]
theorem Same.mut {p : Addr} {H H' : Hp} {o : HO} (x : Same H H') (hp : H p = none) : Same H (upd H' p o) := fun b u h => by rw [upd_ne (ne_of_none h hp)]; exact x b u h
theorem Tups.dk {p : Addr} {H : Hp} {kvs : List (Key × V)} {o : HO} (h : H p = some (.dK kvs)) : Tups H (upd H p o) :=
  ⟨fun b xs e => by rw [upd_ne (fun z => by rw [z, h] at e; cases e)]; exact e, fun b _ xs e => by rw [upd_ne (fun z => by rw [z, h] at e; cases e)]; exact e⟩
theorem take_fold {α β : Type} (f : β → α → β) (z : β) {l : List α} {i : Nat} {x : α} (h : l[i]? = some x) : (l.take (i + 1)).foldl f z = f ((l.take i).foldl f z) x := by
  rw [List.take_add_one, h, List.foldl_append]
  rfl
/-! ### the parts read off a machine -/
section
variable {P : Program} {w : World} {K : PySem.W.Frag} {mg : Str → Option Value} {base : Heap}
theorem ok_Machine_stands (T : Txt K mg) : FnOk P w K mg base (L2.CX P w) 1 T.a_Machine_stands T.fd_Machine_stands ["self"] (getSp T.c_Machine "_stands") := by
  refine T.F_Machine_stands.okX sc_Machine_stands (fun vs H Q E h => ?_) (fun cdv A outer s H vs Q E hr h => ?_)
  · obtain ⟨a, dx, fs, v, rfl, _⟩ := h
    rfl
  · obtain ⟨a, dx, fs, v, rfl, ha, hl, k⟩ := h
    refine ⟨_, (PSs.nox (pss_one (ps_ret (pe_fld (pv 0) rfl)))), ?_⟩
    exact ⟨_, rfl, a, _, dx, fs, v, rfl, ha, T.cl_Machine, T.n__stands, hl, k⟩
theorem ok_Machine_steps (T : Txt K mg) : FnOk P w K mg base (L2.CX P w) 1 T.a_Machine_steps T.fd_Machine_steps ["self"] (getSp T.c_Machine "_steps") := by
  refine T.F_Machine_steps.okX sc_Machine_steps (fun vs H Q E h => ?_) (fun cdv A outer s H vs Q E hr h => ?_)
  · obtain ⟨a, dx, fs, v, rfl, _⟩ := h
    rfl
  · obtain ⟨a, dx, fs, v, rfl, ha, hl, k⟩ := h
    refine ⟨_, (PSs.nox (pss_one (ps_ret (pe_fld (pv 0) rfl)))), ?_⟩
    exact ⟨_, rfl, a, _, dx, fs, v, rfl, ha, T.cl_Machine, T.n__steps, hl, k⟩
end
/-! ### which stands have a better row; which stands letters lead to -/
inductive Reach (ss : List Stp) (l : List Nat) : Nat → Prop
  | base {n : Nat} : n ∈ l → Reach ss l n
  | step {s : Stp} : s ∈ ss → Reach ss l s.b → Reach ss l s.e
def fkv (F : List Nat) : List (Key × V) := F.map fun (n : Nat) => ((.inl (n : Int) : Key), V.bl true)
theorem key_eq (a b : Nat) : ((Sum.inl (a : Int) : Key) = .inl (b : Int)) ↔ a = b := ⟨fun z => by injection z with z; omega, fun z => by rw [z]⟩
theorem valV_fkv (n : Nat) : ∀ F : List Nat, valV (fkv F) (.inl (n : Int)) = if n ∈ F then some (.bl true) else none
  | [] => rfl
  | a :: F => by
    have ih := valV_fkv n F
    by_cases c : a = n
    · rw [if_pos (by rw [c]; exact List.mem_cons_self)]
      exact valV_pos (p := ((.inl (a : Int) : Key), V.bl true)) ((key_eq a n).mpr c)
    · have e : valV (fkv (a :: F)) (.inl (n : Int)) = valV (fkv F) (.inl (n : Int)) := valV_neg (p := ((.inl (a : Int) : Key), V.bl true)) fun z => c ((key_eq a n).mp z)
      rw [e, ih]
      by_cases d : n ∈ F
      · rw [if_pos d, if_pos (List.mem_cons_of_mem _ d)]
      · rw [if_neg d, if_neg (fun z => by rcases List.mem_cons.mp z with z | z; exact c z.symm; exact d z)]
def addN (F : List Nat) (n : Nat) : List Nat := if n ∈ F then F else F ++ [n]
theorem addN_mem {F : List Nat} {n k : Nat} : k ∈ addN F n ↔ k ∈ F ∨ k = n := by
  unfold addN
  by_cases c : n ∈ F
  · rw [if_pos c]
    exact ⟨.inl, fun z => by rcases z with z | rfl <;> assumption⟩
  · rw [if_neg c, List.mem_append, List.mem_singleton]
theorem addN_nodup {F : List Nat} {n : Nat} (h : F.Nodup) : (addN F n).Nodup := by
  unfold addN
  by_cases c : n ∈ F
  · rw [if_pos c]; exact h
  · rw [if_neg c]
    exact List.nodup_append.mpr ⟨h, by simp, fun a ha b hb e => by rw [List.mem_singleton] at hb; rw [e, hb] at ha; exact c ha⟩
theorem putK_fkv (F : List Nat) (n : Nat) : putK (fkv F) (.inl (n : Int)) (.bl true) = fkv (addN F n) := by
  by_cases c : n ∈ F
  · unfold addN putK
    have h := valV_any (.inl (n : Int) : Key) (fkv F)
    rw [valV_fkv, if_pos c] at h
    rw [h, if_pos c, if_pos (show (some (V.bl true)).isSome = true from rfl)]
    unfold fkv
    rw [List.map_map]
    refine List.map_congr_left fun a _ => ?_
    show (if (Sum.inl (a : Int) : Key) = .inl (n : Int) then ((Sum.inl (a : Int) : Key), V.bl true) else ((Sum.inl (a : Int) : Key), V.bl true)) = _
    split <;> rfl
  · rw [putK_new _ (by rw [valV_fkv, if_neg c])]
    unfold addN fkv
    rw [if_neg c, List.map_append]
    rfl
theorem nats_snoc (l : List Nat) (n : Nat) : nats (l ++ [n]) = nats l ++ [.int (n : Nat)] := by unfold nats; rw [List.map_append]; rfl
theorem nats_at {l : List Nat} {i : Nat} {x : V} (h : (nats l)[i]? = some x) : ∃ n, l[i]? = some n ∧ x = .int (n : Nat) := by
  unfold nats at h
  rw [List.getElem?_map] at h
  cases e : l[i]? with
  | none => rw [e] at h; cases h
  | some n => rw [e] at h; exact ⟨n, rfl, (Option.some.inj h).symm⟩
theorem nodup_small {F : List Nat} {n : Nat} (h : F.Nodup) (b : ∀ k ∈ F, k < n) : F.length ≤ n := by
  induction n generalizing F with
  | zero =>
    cases F with
    | nil => exact Nat.le_refl _
    | cons a F => exact absurd (b a List.mem_cons_self) (Nat.not_lt_zero _)
  | succ n ih =>
    by_cases c : n ∈ F
    · have e1 := ih (F := F.erase n) (h.erase n) fun k hk => by
        have hk' := (List.Nodup.mem_erase_iff h).mp hk
        have := b k hk'.2
        have := hk'.1
        omega
      rw [List.length_erase_of_mem c] at e1
      omega
    · have := ih h fun k hk => by
        have := b k hk
        have : k ≠ n := fun z => c (z ▸ hk)
        omega
      omega
def sp_led (K : PySem.W.Frag) : Sp := fun vs H Q _ => ∃ (t p : Addr) (N : Nat) (ss : List Stp) (l : List Nat), vs = [.ref t, .ref p] ∧ StSq K H t ss ∧ SsOk N ss ∧ H p = some (.lst (nats l)) ∧ (∀ n ∈ l, n < N) ∧ l.length ≤ 300 ∧
  ∀ q (l' : List Nat) H', Same H H' → H q = none → H' q = some (.lst (nats l')) → (∀ n, n ∈ l' ↔ Reach ss l n) → l'.Pairwise (· < ·) → Q (.ref q) H'
/-- the stands found and those that wait -/
structure Led (N : Nat) (ss : List Stp) (l F Wt : List Nat) : Prop where
  nd : F.Nodup
  bd : ∀ n ∈ F, n < N
  re : ∀ n ∈ F, Reach ss l n
  sub : ∀ n ∈ Wt, n ∈ F
  bas : ∀ n ∈ l, n ∈ F
/-- all but those that wait (and it, from the step i on) are closed -/
def Closed (ss : List Stp) (F Wt : List Nat) : Prop := ∀ s ∈ ss, s.b ∈ F → s.b ∉ Wt → s.e ∈ F
section
variable {P : Program} {w : World} {K : PySem.W.Frag} {mg : Str → Option Value} {base : Heap}
theorem ok_led_to (T : Txt K mg) : FnOk P w K mg base (L2.CX P w) 3 T.a_led_to T.fd_led_to ["steps", "begins"] (sp_led K) := by
  refine T.F_led_to.okX sc_led_to (fun vs H Q E h => ?_) (fun cdv A outer s H vs Q E hr h => ?_)
  · obtain ⟨t, p, N, ss, l, rfl, _⟩ := h
    rfl
  · obtain ⟨t, p, N, ss, l, rfl, ⟨us, ht, hs⟩, o, hp, hl, ll, k⟩ := h
    refine ⟨_, (PSs.nox (pss_cons (ps_setDc (i := 2) (own := [("stand", 4)]) (g := (gName 4)) (tt := tYes) rfl sc_led_to.nd rfl rfl (sw_trueD rfl rfl rfl (by decide +kernel)) (pi_list (pv 1)) (blkOk_by (own := [("stand", 4)]) (N := ["steps", "begins", "found", "waiting", "stand", "begun", "_", "end"]) (sc := defScope s_led_to) (by decide +kernel)) (fun _ _ _ _ _ => (pg_name (i := 4) sc_led_to.nd rfl (Or.inl rfl))) (fun _ _ _ _ _ => pts_nil) (fun _ _ _ _ _ => (pv 4)) (fun _ _ _ _ _ => pe_bl))
  (pss_cons (ps_set (i := 3) sc_led_to.nd rfl (Or.inl rfl) (pe_callTy call_list_of (by rfl) T.z_list PySem.Pv.boot_list (pa_cons (pv 1) pa_nil)))
  (pss_cons (ps_while PassesOwn.never (pt_truth (pv 3) (fun _ => rfl))
  (pss_cons (ps_set (i := 4) sc_led_to.nd rfl (Or.inl rfl) (pe_bm0 PySem.F.plainAttrs_list PySem.F.slot_list_pop PySem.F.type_list_pop mt_pop (pv 3)))
  (pss_one (ps_for PassesOwn.never rfl (pi_sq (pv 0)) (pg_tup rfl (pgs_cons (pg_name (i := 5) sc_led_to.nd rfl (Or.inl rfl)) (pgs_cons (pg_name (i := 6) sc_led_to.nd rfl (Or.inl rfl)) (pgs_cons (pg_name (i := 7) sc_led_to.nd rfl (Or.inl rfl)) (pgs_cons (pg_name (i := 6) sc_led_to.nd rfl (Or.inl rfl)) pgs_nil)))))
  (pss_one (ps_if (PW.pt (pw_and (pt_cmpR op_eq (pv 5) (pv 4) (nomark _)) (pw_and1 (pt_cmp (pc_dnotin (hu_of hr) (pv 7) (pv 2)) (by rfl)))))
  (pss_cons (ps_dput (hu_of hr) (pv 2) (pv 7) pe_bl rfl)
  (pss_one (ps_expr (pe_bm PySem.F.plainAttrs_list PySem.F.slot_list_append PySem.F.type_list_append mt_append (pv 3) (pa_cons (pv 7) pa_nil)))))
  pss_nil))))))
  (pss_one (ps_ret (pe_callB (call_sortedDI rfl) (by rfl) T.z_sorted (by decide +kernel) (pa_cons (pv 2) pa_nil)))))))), ?_⟩
    walk_at "begin"
    walk_at "go"
    refine ⟨p, rfl, ⟨_, SqL.of hp⟩, fun D hD => ?_⟩
    refine dc_lst (xs := nats l) (fun i H' => Same H H' ∧ ∃ F, H' D = some (.dK (fkv F)) ∧ F.length ≤ i ∧ F.Nodup ∧ (∀ n, n ∈ F ↔ n ∈ l.take i)) ⟨Same.new hD, [], upd_same, Nat.le_refl _, .nil, fun n => by simp⟩
      (fun i H' _ ⟨z, _⟩ => z.seq (SqL.of hp)) ?_ ?_
    · rintro i y H1 hy ⟨z, F, eF, lF, nF, mF⟩
      obtain ⟨n, hn, rfl⟩ := nats_at hy
      walk_at "go"
      refine ⟨rfl, ?_⟩
      walk_at "go"
      refine iteT ?_
      walk_at "go"
      have il := (List.getElem?_eq_some_iff.mp hn).1
      refine ⟨_, .inl (n : Int), rfl, eF, ?_, ?_⟩
      · have : (fkv F).length < 1000 := by unfold fkv; rw [List.length_map]; omega
        exact Nat.lt_trans this (by decide)
      · refine ⟨Same.mut z hD, addN F n, by rw [upd_same, putK_fkv], ?_, addN_nodup nF, fun q => ?_⟩
        · unfold addN
          split
          · omega
          · rw [List.length_append, List.length_singleton]; omega
        · rw [addN_mem, mF q, List.take_add_one, hn, List.mem_append]
          simp
    · rintro H1 ⟨z, F, eF, lF, nF, mF⟩
      have tl : l.take (nats l).length = l := by unfold nats; rw [List.length_map, List.take_length]
      rw [tl] at mF
      walk_at "go"
      refine ⟨p, _, rfl, .inl (z.seq (SqL.of hp)), fun B hB => ?_⟩
      have nDB : D ≠ B := ne_of_none eF hB
      have hB0 : H B = none := by
        cases q : H B with
        | none => rfl
        | some ob => rw [z _ _ q] at hB; cases hB
      have L0 : Led N ss l F l := ⟨nF, fun n h => hl n ((mF n).mp h), fun n h => .base ((mF n).mp h), fun n h => (mF n).mpr h, fun n h => (mF n).mpr h⟩
      have C0 : Closed ss F l := fun st _ h1 h2 => absurd ((mF _).mp h1) h2
      walk_at "go"
      refine k_whl (fun q σ H' => ∃ F Wt a4 a5 a6 a7, q = 2 * (64 - F.length) + Wt.length ∧ Same H H' ∧ H' D = some (.dK (fkv F)) ∧ H' B = some (.lst (nats Wt)) ∧ Led N ss l F Wt ∧ Closed ss F Wt ∧ q ≤ 500 ∧
        σ = [some (.ref t), some (.ref p), some (.ref D), some (.ref B), a4, a5, a6, a7]) ⟨_, F, l, none, none, none, none, rfl, Same.mut z hB0, by rw [upd_ne nDB]; exact eF, upd_same, L0, C0, by omega, rfl⟩ ?_
        (fun σ H R R' h ⟨v, e, c, t, q⟩ => ⟨v, e, c, t, h _ _ q⟩)
      rintro q σ H2 ⟨F, Wt, a4, a5, a6, a7, rfl, z, eF, eB, L, C, lW, rfl⟩
      clear mF nF lF L0 C0
      refine k_var rfl ⟨_, .inl ⟨_, SqL.of eB, rfl⟩, ?_⟩
      rcases List.eq_nil_or_concat Wt with rfl | ⟨W', st, eW⟩
      · refine iteF ?_
        walk_at "go"
        have nk : (fkv F).map (·.1) = (F.map fun n : Nat => (n : Int)).map Sum.inl := by unfold fkv; rw [List.map_map, List.map_map]; rfl
        have f8 := nodup_small L.nd L.bd
        refine ⟨D, fkv F, F.map fun n : Nat => (n : Int), rfl, .inl eF, nk, by rw [List.length_map]; have := o.n64; omega, fun ys q perm up hq => ?_⟩
        -- the sorted keys are stands again
        obtain ⟨F', rfl⟩ : ∃ F' : List Nat, ys = F'.map fun n : Nat => (n : Int) := by
          have all : ∀ y ∈ ys, ∃ n : Nat, y = (n : Int) := fun y hy => by
            have := perm.mem_iff.mp hy
            obtain ⟨n, _, rfl⟩ := List.mem_map.mp this
            exact ⟨n, rfl⟩
          clear perm up hq
          induction ys with
          | nil => exact ⟨[], rfl⟩
          | cons y ys ih =>
            obtain ⟨n, rfl⟩ := all y List.mem_cons_self
            obtain ⟨F', e⟩ := ih fun y hy => all y (List.mem_cons_of_mem _ hy)
            exact ⟨n :: F', by rw [e]; rfl⟩
        have mem : ∀ n, n ∈ F' ↔ n ∈ F := fun n => by
          have := perm.mem_iff (a := (n : Int))
          constructor
          · intro h
            have h2 := this.mp (List.mem_map.mpr ⟨n, h, rfl⟩)
            obtain ⟨n', h3, e⟩ := List.mem_map.mp h2
            have : n' = n := by exact_mod_cast e
            rw [← this]; exact h3
          · intro h
            have h2 := this.mpr (List.mem_map.mpr ⟨n, h, rfl⟩)
            obtain ⟨n', h3, e⟩ := List.mem_map.mp h2
            have : n' = n := by exact_mod_cast e
            rw [← this]; exact h3
        have inj : ∀ a b : Nat, (a : Int) = (b : Int) → a = b := fun a b e => by exact_mod_cast e
        have nd' : (F'.map fun n : Nat => (n : Int)).Nodup := perm.nodup_iff.mpr (List.Pairwise.map _ (fun a b h e => h (inj a b e)) L.nd)
        have hq0 : H q = none := by
          cases e : H q with
          | none => rfl
          | some ob => rw [z _ _ e] at hq; cases hq
        refine k q F' _ (z.trans (Same.new hq)) hq0 ?_ (fun n => ?_) ?_
        · rw [upd_same]
          unfold nats
          rw [List.map_map]
          rfl
        · rw [mem n]
          refine ⟨L.re n, fun h => ?_⟩
          induction h with
          | base h => exact L.bas _ h
          | step h _ ih => exact C _ h ih (by simp)
        · have up' : (F'.map fun n : Nat => (n : Int)).Pairwise (· < ·) := by
            have := List.Pairwise.and up nd'
            exact this.imp fun ⟨h1, h2⟩ => by omega
          rw [List.pairwise_map] at up'
          exact up'.imp fun h => by omega
      · rw [List.concat_eq_append] at eW
        subst eW
        have ne : nats (W' ++ [st]) = nats W' ++ [.int (st : Nat)] := nats_snoc W' st
        rw [ne] at eB ⊢
        have ql : (W' ++ [st]).length = W'.length + 1 := by rw [List.length_append]; rfl
        rw [ql] at lW ⊢
        obtain ⟨q0, hq0⟩ : ∃ q0, q0 = 2 * (64 - F.length) + (W'.length + 1) := ⟨_, rfl⟩
        rw [← hq0] at lW ⊢
        refine k_yes (by simp) ?_
        walk_at "go"
        refine ⟨.inl ⟨rfl, _, SqL.of eB⟩, B, _, .int (st : Nat), rfl, rfl, eB, by simp, ?_⟩
        rw [List.dropLast_concat]
        have z3 : Same H (upd H2 B (.lst (nats W'))) := Same.mut z hB0
        have t3 := same_tups z3
        have stF : st ∈ F := L.sub _ (by simp)
        walk_at "go"
        refine for_sq (xs := us) rfl ht (fun i σ H' => ∃ F Wt a5 a6 a7, 2 * (64 - F.length) + Wt.length + 1 ≤ q0 ∧ Same H H' ∧ H' D = some (.dK (fkv F)) ∧ H' B = some (.lst (nats Wt)) ∧ Led N ss l F Wt ∧ st ∈ F ∧
          (∀ s ∈ ss, s.b ∈ F → s.b ∉ Wt → s.b ≠ st → s.e ∈ F) ∧ (∀ s ∈ ss.take i, s.b = st → s.e ∈ F) ∧
          σ = [some (.ref t), some (.ref p), some (.ref D), some (.ref B), some (.int (st : Nat)), a5, a6, a7])
          ⟨F, W', _, _, _, by omega, z3, by rw [upd_ne nDB]; exact eF, upd_same, ⟨L.nd, L.bd, L.re, fun n h => L.sub n (by simp [h]), L.bas⟩, stF, fun s hs h1 h2 h3 => C s hs h1 (by simp [h2, h3]), fun s h => by simp at h, rfl⟩
          (fun i σ H' ⟨_, _, _, _, _, _, z, _⟩ => z) ?_ ?_
        · clear eF eB L C z z3 t3 stF ql hq0 ne
          rintro i y σ H3 hy ⟨F, Wt, a5, a6, a7, le, z, eF, eB, L, stF, C1, C2, rfl⟩
          have il : i < ss.length := by rw [← hs.1]; exact (List.getElem?_eq_some_iff.mp hy).1
          have ei : ss[i]? = some (ss[i]'il) := List.getElem?_eq_getElem il
          obtain ⟨q, eq, hq⟩ := hs.2 i _ ei
          rw [hy] at eq
          cases eq
          have ok1 := o.ok _ (List.getElem_mem il)
          have im : ss[i]'il ∈ ss := List.getElem_mem il
          have tk : ∀ s, s ∈ ss.take (i + 1) ↔ s ∈ ss.take i ∨ s = ss[i]'il := fun s => by rw [List.take_add_one, ei, List.mem_append]; simp
          generalize ss[i]'il = s0 at hq ok1 im tk
          have dg : DGet H3 D (.int (s0.e : Nat)) (valV (fkv F) (.inl (s0.e : Int))) := DGet.k (k := .inl (s0.e : Int)) eF
          refine k_gt ((same_tups z).sq hq) rfl ?_
          unfold stpV
          walk_at "go"
          refine k_ite (fun c => ?_) (fun c => ?_)
          · have c' : s0.b = st := by
              injection c with c
              omega
            walk_at "go"
            refine ⟨D, _, rfl, dg, ?_⟩
            walk_at "go"
            rw [valV_fkv]
            by_cases d : s0.e ∈ F
            · rw [if_pos d]
              refine iteF ?_
              walk_at "go"
              exact ⟨F, Wt, _, _, _, le, z, eF, eB, L, stF, C1, fun s h e => by
                rcases (tk s).mp h with h | rfl
                · exact C2 s h e
                · exact d, rfl⟩
            · rw [if_neg d]
              refine iteT ?_
              walk_at "go"
              have ad : addN F s0.e = F ++ [s0.e] := if_neg d
              have f8 : (fkv F).length < sizeLine := by
                have := nodup_small L.nd L.bd
                have := o.n64
                have : (fkv F).length < 1000 := by unfold fkv; rw [List.length_map]; omega
                exact Nat.lt_trans this (by decide)
              have w8 : (nats Wt).length < sizeLine := by
                have : (nats Wt).length < 1000 := by unfold nats; rw [List.length_map]; omega
                exact Nat.lt_trans this (by decide)
              refine ⟨D, _, rfl, DPut.k (k := .inl (s0.e : Int)) eF f8, ?_⟩
              rw [putK_fkv, ad]
              have eB3 : (upd H3 D (.dK (fkv (F ++ [s0.e])))) B = some (.lst (nats Wt)) := by rw [upd_ne nDB.symm]; exact eB
              walk_at "go"
              refine ⟨.inl ⟨rfl, _, SqL.of eB3⟩, ?_⟩
              walk_at "go"
              refine k_append eB3 w8 ?_
              rw [← nats_snoc]
              have nd2 : (F ++ [s0.e]).Nodup := by rw [← ad]; exact addN_nodup L.nd
              have bd2 : ∀ n ∈ F ++ [s0.e], n < N := fun n h => by
                rcases List.mem_append.mp h with h | h
                · exact L.bd n h
                · rw [List.mem_singleton.mp h]; exact ok1.e
              refine ⟨F ++ [s0.e], Wt ++ [s0.e], _, _, _, ?_, Same.mut (Same.mut z hD) hB0, by rw [upd_ne nDB, upd_same], upd_same, ⟨nd2, bd2, ?_, ?_, fun n h => List.mem_append_left _ (L.bas n h)⟩, List.mem_append_left _ stF, ?_, ?_, rfl⟩
              · have := nodup_small nd2 bd2
                have := o.n64
                rw [List.length_append, List.length_append, List.length_singleton] at *
                omega
              · intro n h
                rcases List.mem_append.mp h with h | h
                · exact L.re n h
                · rw [List.mem_singleton.mp h]
                  exact .step im (L.re _ (by rw [c']; exact stF))
              · intro n h
                rcases List.mem_append.mp h with h | h
                · exact List.mem_append_left _ (L.sub n h)
                · exact List.mem_append_right _ h
              · intro s hs h1 h2 h3
                rcases List.mem_append.mp h1 with h1 | h1
                · exact List.mem_append_left _ (C1 s hs h1 (fun z => h2 (List.mem_append_left _ z)) h3)
                · exact absurd (List.mem_append_right _ h1) h2
              · intro s h e
                rcases (tk s).mp h with h | rfl
                · exact List.mem_append_left _ (C2 s h e)
                · exact List.mem_append_right _ (List.mem_singleton.mpr rfl)
          · refine iteF ?_
            walk_at "go"
            refine ⟨F, Wt, _, _, _, le, z, eF, eB, L, stF, C1, fun s h e => ?_, rfl⟩
            rcases (tk s).mp h with h | rfl
            · exact C2 s h e
            · exact absurd (show V.int (s.b : Nat) = V.int (st : Nat) by rw [e]) c
        · rintro σ H3 ⟨F, Wt, a5, a6, a7, le, z, eF, eB, L, stF, C1, C2, rfl⟩
          rw [hs.1, List.take_length] at C2
          refine ⟨_, ?_, F, Wt, _, _, _, _, rfl, z, eF, eB, L, fun s hs h1 h2 => ?_, by omega, rfl⟩
          · omega
          · by_cases c : s.b = st
            · exact C2 s hs c
            · exact C1 s hs h1 h2 c
end
/-! ### a machine is one -/
def sp_check_machine (C : Addr) : Sp := fun vs H Q _ => ∃ x dx fs, vs = [.ref x] ∧ H x = some (.ins C dx fs) ∧ Q .non H
section
variable {P : Program} {w : World} {K : PySem.W.Frag} {mg : Str → Option Value} {base : Heap}
theorem ty_Machine (T : Txt K mg) {H : Hp} {x dx : Addr} {fs : List (Str × V)} (h : H x = some (.ins T.c_Machine dx fs)) : TyX K H (.ref x) (.ref T.c_Machine) := .base (.ins h T.cl_Machine T.i1_Machine T.i2_Machine T.i3_Machine T.i4_Machine)
theorem kit_self {C : Addr} : PySem.W.kitOne K (.ref C) (.ref C) = some true := by
  unfold PySem.W.kitOne
  rw [if_pos (by simp)]
theorem ok_check_machine (T : Txt K mg) : FnOk P w K mg base (L2.CX P w) 1 T.a_check_machine T.fd_check_machine ["value"] (sp_check_machine T.c_Machine) := by
  refine T.F_check_machine.okX sc_check_machine (fun vs H Q E h => ?_) (fun cdv A outer s H vs Q E hr h => ?_)
  · obtain ⟨x, dx, fs, rfl, _⟩ := h
    rfl
  · obtain ⟨x, dx, fs, rfl, hx, k⟩ := h
    refine ⟨_, (PSs.nox (pss_one (ps_if (pt_not (pt_val (pe_callB call_isi (by rfl) T.z_isinstance (by decide +kernel) (pa_cons (pv 0) (pa_cons (pe_glob (v := .ref T.c_Machine) (by rfl) T.m_Machine rfl) pa_nil)))))
  (pss_one ps_never)
  pss_nil))), ?_⟩
    walk_at "begin"
    walk_at "go"
    refine k_isi (.own _) (ty_Machine T hx) kit_self ?_
    walk_at "go"
    refine iteF ?_
    walk_at "go"
    exact k
end
/-! ### f'..{x}..' of an int or None -/
def tFmtN (te : TE) : TE := fun σ H Q => te σ H fun x H1 => (x = .non ∧ Q (.str "None") H1) ∨ ∃ i : Int, x = .int i ∧ i.natAbs.log2 < 1920 ∧ Q (.str (toString i)) H1
theorem pe_fmtN {X : Cx} {e : Expr} {te : TE} {pos : Pos} (he : PE X e te) : PE X (.FormattedValue e (-1) none pos) (tFmtN te) := by
  refine ⟨fun pins s σ H Q I h => ?_⟩
  refine PySem.wpAny_FormattedValue_plain (thn (he.run pins s σ H _ I h) fun v s1 hv => ?_)
  obtain ⟨x, H1, I1, r1, q⟩ := hv
  rcases q with ⟨rfl, q⟩ | ⟨i, rfl, hz, q⟩
  · cases (show v = Value.none from r1)
    exact PySem.wpAny_formatField_none ⟨.str "None", H1, I1.tok _, ⟨_, rfl⟩, q⟩
  · obtain ⟨t, rfl⟩ := r1
    exact PySem.wpAny_formatField_int hz ⟨.str (toString i), H1, I1.tok _, ⟨_, rfl⟩, q⟩
theorem k_fmtN {te : TE} {σ : L2.St} {H : Hp} {Q : VK} (h : te σ H fun x H1 => (x = .non ∧ Q (.str "None") H1) ∨ ∃ i : Int, x = .int i ∧ i.natAbs.log2 < 1920 ∧ Q (.str (toString i)) H1) : tFmtN te σ H Q := h
/-! ### dicts from stands to integers -/
abbrev LF := Nat → Option Int
def KvI (kvs : List (Key × V)) (f : LF) : Prop := (∀ p ∈ kvs, ∃ n : Nat, p.1 = .inl (n : Int)) ∧ ∀ n : Nat, valV kvs (.inl (n : Int)) = (f n).map V.int
theorem KvI.put {kvs : List (Key × V)} {f : LF} (h : KvI kvs f) (n : Nat) (v : Int) : KvI (putK kvs (.inl (n : Int)) (.int v)) (fun j => if j = n then some v else f j) := by
  refine ⟨fun q hq => ?_, fun j => ?_⟩
  · unfold putK at hq
    split at hq
    · obtain ⟨r, hr, rfl⟩ := List.mem_map.mp hq
      split
      · rename_i z; exact ⟨n, z⟩
      · exact h.1 r hr
    · rcases List.mem_append.mp hq with hq | hq
      · exact h.1 q hq
      · have : q = (.inl (n : Int), .int v) := by simpa using hq
        exact ⟨n, by rw [this]⟩
  · rw [valV_put]
    by_cases c : j = n
    · have c' : (Sum.inl (j : Int) : Key) = .inl (n : Int) := by rw [c]
      simp only [if_pos c, if_pos c']
      rfl
    · have c' : ¬ (Sum.inl (j : Int) : Key) = .inl (n : Int) := fun z => c (by injection z with z; omega)
      simp only [if_neg c, if_neg c']
      exact h.2 j
theorem KvI.key {kvs : List (Key × V)} {f : LF} (h : KvI kvs f) {k : Key} {v : V} (hk : (k, v) ∈ kvs) : ∃ (n : Nat) (u : Int), k = .inl (n : Int) ∧ f n = some u := by
  obtain ⟨n, rfl⟩ : ∃ n : Nat, k = .inl (n : Int) := h.1 _ hk
  cases e : f n with
  | some u => exact ⟨n, u, rfl, e⟩
  | none =>
    have q := h.2 n
    rw [e] at q
    have a := valV_any (.inl (n : Int) : Key) kvs
    rw [q] at a
    have : kvs.any (fun kv => decide (kv.1 = (.inl (n : Int) : Key))) = true := List.any_eq_true.mpr ⟨_, hk, decide_eq_true rfl⟩
    rw [this] at a
    cases a
theorem KvI.has {kvs : List (Key × V)} {f : LF} (h : KvI kvs f) {n : Nat} {u : Int} (e : f n = some u) : ∃ (i : Nat) (v : V), kvs[i]? = some ((Sum.inl (n : Int) : Key), v) := by
  have q := h.2 n
  rw [e] at q
  have a := valV_any (.inl (n : Int) : Key) kvs
  rw [q] at a
  obtain ⟨kv, hm, hd⟩ := List.any_eq_true.mp (a.trans rfl)
  obtain ⟨j, hj, ej⟩ := List.getElem_of_mem hm
  have hd' : kv.1 = .inl (n : Int) := of_decide_eq_true hd
  refine ⟨j, kv.2, ?_⟩
  rw [List.getElem?_eq_getElem hj, ej, ← hd']
theorem putK_nodup {kvs : List (Key × V)} (k : Key) (v : V) (h : (kvs.map (·.1)).Nodup) : ((putK kvs k v).map (·.1)).Nodup := by
  unfold putK
  split
  · rename_i c
    have : (kvs.map fun kv => if kv.1 = k then (kv.1, v) else kv).map (·.1) = kvs.map (·.1) := by
      rw [List.map_map]
      refine List.map_congr_left fun a _ => ?_
      show (if a.1 = k then (a.1, v) else a).1 = a.1
      split
      · rfl
      · rfl
    first
      | rw [this]; exact h
      | (show ((kvs.map _).map _).Nodup; rw [this]; exact h)
  · rename_i c
    rw [List.map_append]
    refine List.nodup_append.mpr ⟨h, by simp, fun a ha b hb e => ?_⟩
    have hb' : b = k := by simpa using hb
    obtain ⟨kv, hm, rfl⟩ := List.mem_map.mp ha
    exact c (List.any_eq_true.mpr ⟨kv, hm, decide_eq_true (by rw [e, hb'])⟩)
theorem KvI.len {kvs : List (Key × V)} {f : LF} {N : Nat} (h : KvI kvs f) (nd : (kvs.map (·.1)).Nodup) (hb : ∀ n u, f n = some u → n < N) : kvs.length ≤ N := by
  have all : ∀ p ∈ kvs, ∃ n : Nat, p.1 = .inl (n : Int) ∧ n < N := fun p hp => by
    obtain ⟨n, u, e, fe⟩ := h.key (k := p.1) (v := p.2) hp
    exact ⟨n, e, hb _ _ fe⟩
  obtain ⟨l, el, hl⟩ : ∃ l : List Nat, kvs.map (·.1) = l.map (fun n : Nat => (.inl (n : Int) : Key)) ∧ ∀ n ∈ l, n < N := by
    clear nd h
    induction kvs with
    | nil => exact ⟨[], rfl, fun n hn => absurd hn (by simp)⟩
    | cons a r ih =>
      obtain ⟨n, en, hn⟩ := all a List.mem_cons_self
      obtain ⟨l, el, hl⟩ := ih fun p hp => all p (List.mem_cons_of_mem _ hp)
      exact ⟨n :: l, by rw [List.map_cons, List.map_cons, el, en], fun k hk => by
        rcases List.mem_cons.mp hk with rfl | hk
        · exact hn
        · exact hl k hk⟩
  have e1 : kvs.length = l.length := by
    have := congrArg List.length el
    rwa [List.length_map, List.length_map] at this
  rw [e1]
  rw [el] at nd
  refine nodup_small ?_ hl
  have : ∀ l : List Nat, (l.map (fun n : Nat => (.inl (n : Int) : Key))).Nodup → l.Nodup := fun l => by
    induction l with
    | nil => exact fun _ => .nil
    | cons a r ih =>
      intro q
      rw [List.map_cons, List.nodup_cons] at q
      rw [List.nodup_cons]
      exact ⟨fun z => q.1 (List.mem_map.mpr ⟨a, z, rfl⟩), ih q.2⟩
  exact this l nd
/-! ### lists of naturals; behind a raise -/
theorem exc_same {H : Hp} {a d C : Addr} {fs : List (Str × V)} {o : HO} (ha : H a = none) (hd : H d = none) : Same H (upd (del (upd (upd (upd H a (exo a C none)) d o) a (exo a C (some d))) a) d (.xd fs)) := fun b ob e => by
  rw [upd_ne (ne_of_none e hd), del_ne (ne_of_none e ha), upd_ne (ne_of_none e ha), upd_ne (ne_of_none e hd), upd_ne (ne_of_none e ha)]
  exact e
theorem inV_nats (n : Nat) : ∀ l : List Nat, inV (.int (n : Nat)) (nats l) = decide (n ∈ l)
  | [] => rfl
  | a :: l => by
    have ih := inV_nats n l
    unfold inV nats at ih ⊢
    rw [List.map_cons, List.any_cons, ih]
    have e : eqV (.int (a : Nat)) (.int (n : Nat)) = decide (n = a) := by
      show ((((a : Nat) : Int)) == ((n : Nat) : Int)) = decide (n = a)
      rw [Bool.eq_iff_iff, beq_iff_eq, decide_eq_true_iff]
      omega
    rw [e]
    by_cases c : n = a
    · subst c
      simp
    · simp [c]
theorem flat_nats : ∀ l : List Nat, (nats l).all flatV = true
  | [] => rfl
  | a :: l => by
    show (flatV (.int (a : Nat)) && (nats l).all flatV) = true
    rw [flat_nats l]
    rfl
/-! ### the reached stands of a machine (as in 30_reached, which k26 has no other use for) -/
def sp_reached (K : PySem.W.Frag) (C : Addr) : Sp := fun vs H Q _ => ∃ (x : Addr) (m : MD), vs = [.ref x] ∧ MAt K C H x m ∧ m.Ok ∧
  ∀ q (l' : List Nat) H', Same H H' → H q = none → H' q = some (.lst (nats l')) → (∀ n, n ∈ l' ↔ Reach m.ss [0] n) → l'.Pairwise (· < ·) → Q (.ref q) H'
/-! ### the program's reached stands -/
section
variable {P : Program} {w : World} {K : PySem.W.Frag} {mg : Str → Option Value} {base : Heap}
theorem ok_reached (T : Txt K mg) : FnOk P w K mg base (L2.CX P w) 4 T.a_reached T.fd_reached ["machine"] (sp_reached K T.c_Machine) := by
  refine T.F_reached.okX sc_reached (fun vs H Q E h => ?_) (fun cdv A outer s H vs Q E hr h => ?_)
  · obtain ⟨x, m, rfl, _⟩ := h
    rfl
  · obtain ⟨x, m, rfl, hm, o, k⟩ := h
    obtain ⟨dx, t, u, hx, hp0⟩ := id hm
    refine ⟨_, (PSs.nox (pss_cons (ps_expr (pe_call (ok_check_machine T) (hr.mono (by decide)) (by rfl) T.m_check_machine T.k_check_machine T.b_check_machine .nil passL (pa_cons (pv 0) pa_nil)))
  (pss_one (ps_ret (pe_call (ok_led_to T) (hr.mono (by decide)) (by rfl) T.m_led_to T.k_led_to T.b_led_to .nil passL (pa_cons (pe_prop (pv 0) T.cl_Machine T.p_steps (ok_Machine_steps T) (hr.mono (by decide)) T.b_Machine_steps .nil passL rfl) (pa_cons (pe_lst (pa_cons pe_int pa_nil)) pa_nil))))))), ?_⟩
    walk_at "begin"
    walk_at "go"
    refine ⟨x, dx, _, rfl, hx, ?_⟩
    walk_at "go"
    refine ⟨x, dx, _, rfl, hx, x, dx, _, .ref t, rfl, hx, rfl, ?_⟩
    walk_at "go"
    refine ⟨(by decide : 1 ≤ sizeLine), fun p hp => ?_⟩
    walk_at "go"
    refine ⟨t, p, m.n, m.ss, [0], rfl, .of ((Tups.new hp).stAt hp0.1), o.sok, upd_same, fun n hn => by rw [List.mem_singleton.mp hn]; exact o.n1, by decide, fun q l' H' z hq eq h1 h2 => k q l' H' ((Same.new hp).trans z) ?_ eq h1 h2⟩
    cases e : H q with
    | none => rfl
    | some ob => rw [Same.new hp _ _ e] at hq; cases hq
end
/-! ### more than twelve steps; the rest begun (see NOTES) -/
def sp_steps_mends (K : PySem.W.Frag) (C B : Addr) : Sp := fun vs H Q E => ∃ (x : Addr) (m : MD), vs = [.ref x] ∧ MAt K C H x m ∧ m.Ok ∧
  ((m.ss.length ≤ 12 ∧ Q .non H) ∨ (12 < m.ss.length ∧ ∀ d H', Same H H' → H' d = some (.xd [("most", .int 12)]) → E (.ref B) (some d) H'))
section
variable {P : Program} {w : World} {K : PySem.W.Frag} {mg : Str → Option Value} {base : Heap}
theorem ok_TooMany_init (T : Txt K mg) : FnOk P w K mg base (L2.CX P w) 1 T.a_TooMany_init T.fd_TooMany_init ["self", "most"] (fun vs H Q E => (∃ a, vs = [.ref a, .int 12]) ∧ sp_einit K T.c_TooMany "most" vs H Q E) := by
  refine T.F_TooMany_init.okX sc_TooMany_init (fun vs H Q E h => ?_) (fun cdv A outer s H vs Q E hr h => ?_)
  · obtain ⟨_, a, v, rfl, _⟩ := h
    rfl
  · obtain ⟨hv, a, v, rfl, ea, k⟩ := h
    obtain ⟨a', hv⟩ := hv
    cases hv
    refine ⟨_, (PSs.nox (pss_cons (ps_expr (pe_tveinit (by rfl) T.m_TallyError T.rd_TallyError T.fv_TallyError T.sg_TallyError (pa_cons (pv 0) (pa_cons (pe_joined (.cons pe_str (.cons (pe_fmtN (pv 1)) .nil))) pa_nil))))
  (pss_one (ps_ost (pv 0) (pv 1))))), ?_⟩
    walk_at "begin"
    walk_at "go"
    refine k_vei ?_
    walk_at "go"
    have fin : ∀ m : Str, (V.ref a :: [V.str m]).length ≤ 1000 → tOst K (Str.ofString "most") (tVar 0) (tVar 1) { nx := fun x H' => Q V.non H', rt := Q } [some (V.ref a), some (V.int 12)] H := fun _ _ => by
      refine k_ost ?_
      walk_at "go"
      refine ⟨a, T.c_TooMany, rfl, T.o_TooMany, T.no_TooMany_most, .inl ⟨ea, fun dx hd ne => ?_⟩⟩
      walk_at "go"
      exact k dx hd ne
    have l0 : (Str.empty ++ (Str.ofString "more steps than ")).length = 16 := by decide +kernel
    refine ⟨_, rfl, by rw [l0]; decide, ?_⟩
    show tFmtN _ _ _ _
    refine k_fmtN ?_
    walk_at "go"
    refine .inr ⟨12, rfl, by decide, _, rfl, ?_, ?_⟩
    · rw [strLen_append, l0]
      have := PyProof.Rows.toString_length_le (v := 12) (k := 10) (by decide) (by decide) (by decide)
      exact Nat.le_trans (Nat.add_le_add_left this 16) (by decide)
    simp only [tJs]
    walk_at "go"
    exact ⟨a, T.c_TooMany, _, rfl, by show 1 ≤ 1000; decide, T.o_TooMany, ea, fin Str.empty (by show 2 ≤ 1000; decide)⟩
theorem ok_check_steps_mends_bad (T : Txt K mg) : FnOk P w K mg base (L2.CX P w) 4 T.a_check_steps_mends T.fd_check_steps_mends ["machine"] (sp_steps_mends K T.c_Machine T.c_TooMany) := by
  refine T.F_check_steps_mends.okX sc_check_steps_mends (fun vs H Q E h => ?_) (fun cdv A outer s H vs Q E hr h => ?_)
  · obtain ⟨x, m, rfl, _⟩ := h
    rfl
  · obtain ⟨x, m, rfl, hm, o, k⟩ := h
    obtain ⟨dx, t, u, hx, hp0⟩ := id hm
    refine ⟨_, (pss_one (ps_if (pt_cmpR op_gt (pe_callB call_len_seq (by rfl) T.z_len PySem.boot_len (pa_cons (pe_prop (pv 0) T.cl_Machine T.p_steps (ok_Machine_steps T) (hr.mono (by decide)) T.b_Machine_steps .nil passL rfl) pa_nil)) (pe_glob (by rfl) T.m_MOST_STEPS T.r_MOST_STEPS) (nomark _))
  (pss_one (ps_raise rfl (takes_of rfl rfl rfl rfl) (pmk_oex T.o_TooMany T.ie_TooMany T.ti_TooMany (ok_TooMany_init T) (hr.mono (by decide)) T.b_TooMany_init .nil passL (by rfl) T.m_TooMany (pa_cons (pe_glob (by rfl) T.m_MOST_STEPS T.r_MOST_STEPS) pa_nil))))
  pss_nil)), ?_⟩
    walk_at "begin"
    walk_at "go"
    refine ⟨x, dx, _, rfl, hx, x, dx, _, .ref t, rfl, hx, rfl, ?_⟩
    walk_at "go"
    obtain ⟨us, hs, hu⟩ := id hp0.1
    have e : us.length = m.ss.length := hu.1
    refine ⟨t, us, rfl, .inr hs, ?_⟩
    walk_at "go"
    rcases k with ⟨hl, k⟩ | ⟨hl, k⟩
    · rw [decide_eq_false (show ¬ ((12 : Int) < (us.length : Int)) by omega)]
      refine iteF ?_
      walk_at "go"
      exact k
    · rw [decide_eq_true (show (12 : Int) < (us.length : Int) by omega)]
      refine iteT ?_
      walk_at "go"
      refine k_mkO ?_
      walk_at "go"
      refine ⟨(by decide : 1 ≤ 1000), fun a ha => ⟨⟨a, rfl⟩, a, _, rfl, upd_same, fun dx hd ne => ?_⟩⟩
      have hd' : H dx = none := by rw [upd_ne ne] at hd; exact hd
      exact ⟨rfl, dx, _, upd_same, by rw [upd_ne ne]; exact upd_same, hd', k _ _ (exc_same ha hd') upd_same⟩
end
/-! ### mends refuses more than twelve steps -/
def sp_mends_many (K : PySem.W.Frag) (C B : Addr) : Sp := fun vs H _ E => ∃ (x : Addr) (m : MD), vs = [.ref x] ∧ MAt K C H x m ∧ m.Ok ∧ 12 < m.ss.length ∧ ∀ d H', Same H H' → H' d = some (.xd [("most", .int 12)]) → E (.ref B) (some d) H'
section
variable {P : Program} {w : World} {K : PySem.W.Frag} {mg : Str → Option Value} {base : Heap}
theorem ok_mends_many (T : Txt K mg) : FnOk P w K mg base (L2.CX P w) 9 T.a_mends T.fd_mends ["machine"] (sp_mends_many K T.c_Machine T.c_TooMany) := by
  refine T.F_mends.okX sc_mends (fun vs H Q E h => ?_) (fun cdv A outer s H vs Q E hr h => ?_)
  · obtain ⟨x, m, rfl, _⟩ := h
    rfl
  · obtain ⟨x, m, rfl, hm, o, hl, k⟩ := h
    obtain ⟨dx, t, u, hx, hp0⟩ := id hm
    refine ⟨_, (pss_cons (ps_expr (pe_call (ok_check_machine T) (hr.mono (by decide)) (by rfl) T.m_check_machine T.k_check_machine T.b_check_machine .nil passL (pa_cons (pv 0) pa_nil)))
  (pss_cons (ps_expr (pe_callS (ok_check_steps_mends_bad T) (hr.mono (by decide)) (by rfl) T.m_check_steps_mends T.k_check_steps_mends T.b_check_steps_mends (fun σ => passAt (takes_of rfl rfl rfl rfl) σ) (pa_cons (pv 0) pa_nil)))
  pss_any)), ?_⟩
    walk_at "begin"
    walk_at "go"
    refine ⟨x, dx, _, rfl, hx, ?_⟩
    walk_at "go"
    refine k_callS ?_
    walk_at "go"
    exact ⟨x, m, rfl, hm, o, .inr ⟨hl, k⟩⟩
end
/-! ### mended refuses what is no set of places -/
def OddSet (K : PySem.W.Frag) (H : Hp) (n : Int) (v : V) : Prop := (∃ ty, TyX K H v ty ∧ PySem.W.kitOne K ty (.type "tuple") = some false) ∨
  ∃ t xs, v = .ref t ∧ SqT K H t xs ∧ (∀ x ∈ xs, (∃ j, x = .int j) ∨ (NotInt K H x ∧ ∀ j, x ≠ .int j)) ∧ ascV n 0 xs = false
def sp_mended_odd (K : PySem.W.Frag) (C B : Addr) : Sp := fun vs H _ E => ∃ (x : Addr) (m : MD) (v : V), vs = [.ref x, v] ∧ MAt K C H x m ∧ m.Ok ∧ m.ss.length ≤ 12 ∧ OddSet K H (m.ss.length : Nat) v ∧ E (.ref B) none H
section
variable {P : Program} {w : World} {K : PySem.W.Frag} {mg : Str → Option Value} {base : Heap}
theorem ok_mended_odd (T : Txt K mg) : FnOk P w K mg base (L2.CX P w) 9 T.a_mended T.fd_mended ["machine", "some"] (sp_mended_odd K T.c_Machine T.c_BadSet) := by
  refine T.F_mended.okX sc_mended (fun vs H Q E h => ?_) (fun cdv A outer s H vs Q E hr h => ?_)
  · obtain ⟨x, m, v, rfl, _⟩ := h
    rfl
  · obtain ⟨x, m, v, rfl, hm, o, hl, bad, k⟩ := h
    obtain ⟨dx, t, u, hx, hp0⟩ := id hm
    refine ⟨_, (pss_cons (ps_expr (pe_call (ok_check_machine T) (hr.mono (by decide)) (by rfl) T.m_check_machine T.k_check_machine T.b_check_machine .nil passL (pa_cons (pv 0) pa_nil)))
  (pss_cons (ps_expr (pe_callS (ok_check_steps_mends_bad T) (hr.mono (by decide)) (by rfl) T.m_check_steps_mends T.k_check_steps_mends T.b_check_steps_mends (fun σ => passAt (takes_of rfl rfl rfl rfl) σ) (pa_cons (pv 0) pa_nil)))
  (pss_cons (ps_if (pt_not (pt_val (pe_call (ok_is_ascending T) (hr.mono (by decide)) (by rfl) T.m_is_ascending T.k_is_ascending T.b_is_ascending .nil passL (pa_cons (pv 1) (pa_cons (pe_callB call_len_seq (by rfl) T.z_len PySem.boot_len (pa_cons (pe_prop (pv 0) T.cl_Machine T.p_steps (ok_Machine_steps T) (hr.mono (by decide)) T.b_Machine_steps .nil passL rfl) pa_nil)) pa_nil)))))
  (pss_one (ps_raise rfl (takes_of rfl rfl rfl rfl) (pmk_own PySem.F.excBase_ValueError T.x_BadSet T.m_BadSet T.k_BadSet (raises_own T.b_BadSet T.t_BadSet) (by exact rfl))))
  pss_nil)
  pss_any))), ?_⟩
    walk_at "begin"
    walk_at "go"
    refine ⟨x, dx, _, rfl, hx, ?_⟩
    walk_at "go"
    refine k_callS ?_
    walk_at "go"
    refine ⟨x, m, rfl, hm, o, .inl ⟨hl, ?_⟩⟩
    walk_at "go"
    refine ⟨x, dx, _, rfl, hx, x, dx, _, .ref t, rfl, hx, rfl, ?_⟩
    walk_at "go"
    obtain ⟨us, hs, hu⟩ := id hp0.1
    have e : us.length = m.ss.length := hu.1
    refine ⟨t, us, rfl, .inr hs, ?_⟩
    walk_at "go"
    refine ⟨v, _, rfl, ?_⟩
    rcases bad with ⟨ty, h1, h2⟩ | ⟨t', xs, rfl, ht, hx', e2⟩
    · refine .inl ⟨ty, h1, h2, ?_⟩
      walk_at "go"
      refine iteT ?_
      walk_at "go"
      exact k
    · refine .inr ⟨t', xs, rfl, ht, hx', ?_⟩
      rw [e, e2]
      walk_at "go"
      refine iteT ?_
      walk_at "go"
      exact k
end
/-! ### enumerate over a tuple in a comprehension: L2.lc_it takes it by this Walk -/
theorem walk_enumT {K : PySem.W.Frag} {a : Addr} {xs : List V} : Walk (Iet K a) xs.length (fun H => SqT K H a xs) (fun i H v H' => ∃ p x, v = .ref p ∧ H p = none ∧ H' = upd H p (.tup [.int (i : Nat), x]) ∧ xs[i]? = some x) where
  goes := fun i H c sq => ⟨xs, xs[i], sq, List.getElem?_eq_getElem c⟩
  stops := fun H sq => ⟨xs, sq, by simp⟩
  yields := fun i H v H' c sq y => by
    obtain ⟨p, x, rfl, hp, rfl, hx⟩ := y
    exact ⟨p, x, rfl, hp, rfl, hx xs sq⟩
/-! ### d.setdefault -/
theorem k_dsetd {td ty tx : TE} {σ : L2.St} {H : Hp} {Q : VK} (h : td σ H fun x H1 => ∃ a, x = .ref a ∧ IsD H1 a ∧ ty σ H1 fun y H2 => tx σ H2 fun z H3 => ∃ (kvs : List (Key × V)) (k : Key), H3 a = some (.dK kvs) ∧ y = kV k ∧ kvs.length < sizeLine ∧
  (∀ v, valV kvs k = some v → Q v H3) ∧ (valV kvs k = none → Q z (upd H3 a (.dK (putK kvs k z))))) : tDSetd td ty tx σ H Q := h
/-! ### the places of steps on loops -/
def OnLoop (m : MD) (s : Stp) : Prop := Reach m.ss [0] s.b ∧ Reach m.ss [s.e] s.b
structure PlacesOf (m : MD) (ps : List Nat) : Prop where
  mem : ∀ p, p ∈ ps ↔ ∃ s, m.ss[p]? = some s ∧ OnLoop m s
  up : ps.Pairwise (· < ·)
theorem PlacesOf.lt {m : MD} {ps : List Nat} (h : PlacesOf m ps) : ∀ p ∈ ps, p < m.ss.length := fun p hp => let ⟨_, e, _⟩ := (h.mem p).mp hp; (List.getElem?_eq_some_iff.mp e).1
theorem PlacesOf.len {m : MD} {ps : List Nat} (h : PlacesOf m ps) : ps.length ≤ m.ss.length := nodup_small (h.up.imp fun {a b} q => Nat.ne_of_lt q) h.lt
def sp_places (K : PySem.W.Frag) (C : Addr) : Sp := fun vs H Q _ => ∃ (x : Addr) (m : MD), vs = [.ref x] ∧ MAt K C H x m ∧ m.Ok ∧
  ∀ q (ps : List Nat) H', Same H H' → H q = none → H' q = some (.lst (nats ps)) → PlacesOf m ps → Q (.ref q) H'
section
variable {P : Program} {w : World} {K : PySem.W.Frag} {mg : Str → Option Value} {base : Heap}
theorem ok_places_on_loops (T : Txt K mg) : FnOk P w K mg base (L2.CX P w) 6 T.a_places_on_loops T.fd_places_on_loops ["machine"] (sp_places K T.c_Machine) := by
  refine T.F_places_on_loops.okX sc_places_on_loops (fun vs H Q E h => ?_) (fun cdv A outer s H vs Q E hr h => ?_)
  · obtain ⟨x, m, rfl, _⟩ := h
    rfl
  · obtain ⟨x, m, rfl, hm, o, k⟩ := h
    obtain ⟨dx, t, u, hx, hp0⟩ := id hm
    refine ⟨_, (PSs.nox (pss_cons (ps_set (i := 1) sc_places_on_loops.nd rfl (Or.inr rfl) (pe_call (ok_reached T) (hr.mono (by decide)) (by rfl) T.m_reached T.k_reached T.b_reached .nil passL (pa_cons (pv 0) pa_nil)))
  (pss_one (ps_ret (pe_lc (own := [("place", 2), ("begun", 3), ("_", 4), ("end", 5), ("_", 4)]) (g := (gTup K 2 (gCons (gName 2) (gCons (gTup K 4 (gCons (gName 3) (gCons (gName 4) (gCons (gName 5) (gCons (gName 4) gNil))))) gNil)))) rfl sc_places_on_loops.nd (pi_enumT (by rfl) T.z_enumerate (pa_cons (pe_prop (pv 0) T.cl_Machine T.p_steps (ok_Machine_steps T) (hr.mono (by decide)) T.b_Machine_steps .nil passL rfl) pa_nil)) (blkOk_by (own := [("place", 2), ("begun", 3), ("_", 4), ("end", 5), ("_", 4)]) (N := ["machine", "stands", "place", "begun", "_", "end"]) (sc := defScope s_places_on_loops) (by decide +kernel)) (fun _ _ _ _ _ => (pg_tup rfl (pgs_cons (pg_name (i := 2) sc_places_on_loops.nd rfl (Or.inl rfl)) (pgs_cons (pg_tup rfl (pgs_cons (pg_name (i := 3) sc_places_on_loops.nd rfl (Or.inl rfl)) (pgs_cons (pg_name (i := 4) sc_places_on_loops.nd rfl (Or.inl rfl)) (pgs_cons (pg_name (i := 5) sc_places_on_loops.nd rfl (Or.inl rfl)) (pgs_cons (pg_name (i := 4) sc_places_on_loops.nd rfl (Or.inl rfl)) pgs_nil))))) pgs_nil)))) (fun _ _ _ _ _ => (pts_one (PW.pt (pw_and (pt_cmpR (show OpR _ _ (rIn K false) from op_in_seq) (pv 3) (pv 1) (by rfl)) (pw_and1 (pt_cmpR (show OpR _ _ (rIn K false) from op_in_seq) (pv 3) (pe_call (ok_led_to T) (hr.mono (by decide)) (by rfl) T.m_led_to T.k_led_to T.b_led_to .nil passL (pa_cons (pe_prop (pv 0) T.cl_Machine T.p_steps (ok_Machine_steps T) (hr.mono (by decide)) T.b_Machine_steps .nil passL rfl) (pa_cons (pe_lst (pa_cons (pv 5) pa_nil)) pa_nil))) (by rfl))))))) (fun _ _ _ _ _ => (pv 2))))))), ?_⟩
    walk_at "begin"
    walk_at "go"
    refine ⟨x, m, rfl, hm, o, fun S l H1 z1 hS eS reach asc => ?_⟩
    walk_at "go"
    unfold iEnumT
    walk_at "go"
    refine ⟨x, dx, _, rfl, z1 _ _ hx, x, dx, _, .ref t, rfl, z1 _ _ hx, rfl, ?_⟩
    walk_at "go"
    obtain ⟨us, hs, hu⟩ := id ((same_tups z1).parts hp0).1
    refine ⟨t, us, rfl, hs, fun D hD => ?_⟩
    refine lc_it walk_enumT (fun i H' => Same H1 H' ∧ ∃ ps : List Nat, H' D = some (.lst (nats ps)) ∧ ps.length ≤ i ∧ (∀ p, p ∈ ps ↔ p < i ∧ ∃ s, m.ss[p]? = some s ∧ OnLoop m s) ∧ ps.Pairwise (· < ·)) ⟨Same.new hD, [], upd_same, Nat.le_refl _, fun p => ⟨fun hp => absurd hp (by simp), fun hp => absurd hp.1 (Nat.not_lt_zero _)⟩, .nil⟩ (fun i H' _ ⟨z, _⟩ => (same_tups z).sq hs) ?_ ?_
    · rintro i y H2 H3 hi ⟨z, ps, eD, lp, bp, up⟩ ⟨p, w', rfl, hp, rfl, hw⟩
      have il : i < m.ss.length := by rw [← hu.1]; exact hi
      have ei : m.ss[i]? = some (m.ss[i]'il) := List.getElem?_eq_getElem il
      obtain ⟨pw, eq, hq⟩ := hu.2 i _ ei
      rw [hw] at eq
      cases eq
      have o0 := o.ok _ (List.getElem_mem il)
      generalize m.ss[i]'il = s0 at hq o0 ei
      have z2 : Same H1 (upd H2 p (.tup [.int (i : Nat), .ref pw])) := z.trans (Same.new hp)
      refine k_gt (SqT.of upd_same) rfl ?_
      walk_at "go"
      refine k_gt ((same_tups z2).sq hq) rfl ?_
      unfold stpV
      walk_at "go"
      refine ⟨rfl, ?_⟩
      walk_at "go"
      have skip : ∀ H3, ¬ OnLoop m s0 → Same (upd H2 p (.tup [.int (i : Nat), .ref pw])) H3 → H3 D = some (.lst (nats ps)) → Same H1 H3 ∧ ∃ ps, H3 D = some (.lst (nats ps)) ∧ ps.length ≤ i + 1 ∧ (∀ p, p ∈ ps ↔ p < i + 1 ∧ ∃ s, m.ss[p]? = some s ∧ OnLoop m s) ∧ ps.Pairwise (· < ·) := fun H3 no z3 e3 => ⟨z2.trans z3, ps, e3, by omega, fun p => by
        rw [bp p]
        refine ⟨fun ⟨h1, h2⟩ => ⟨Nat.lt_succ_of_lt h1, h2⟩, fun ⟨h1, s, es, hs⟩ => ⟨?_, s, es, hs⟩⟩
        rcases Nat.lt_succ_iff_lt_or_eq.mp h1 with h1 | rfl
        · exact h1
        · rw [ei] at es; cases es; exact absurd hs no, up⟩
      have eD2 : (upd H2 p (.tup [.int (i : Nat), .ref pw])) D = some (.lst (nats ps)) := by rw [upd_ne (ne_of_none eD hp)]; exact eD
      refine ⟨S, nats l, rfl, .inl (SqL.of (z2 _ _ eS)), rfl, flat_nats _, ?_⟩
      rw [inV_nats]
      walk_at "go"
      refine k_ite (fun c0 => ?_) (fun c => ?_)
      · walk_at "go"
        refine ⟨x, dx, _, rfl, z2 _ _ (z1 _ _ hx), x, dx, _, .ref t, rfl, z2 _ _ (z1 _ _ hx), rfl, ?_⟩
        walk_at "go"
        refine ⟨(by decide : 1 ≤ sizeLine), fun B hB => ?_⟩
        walk_at "go"
        refine ⟨t, B, m.n, m.ss, [s0.e], rfl, .of (((same_tups z2).trans (Tups.new hB)).stAt ⟨us, hs, hu⟩), o.sok, upd_same, fun n hn => by rw [List.mem_singleton.mp hn]; exact o0.e, (by show 1 ≤ 300; decide), fun q l2 H4 z4 hq eq2 mem2 _ => ?_⟩
        walk_at "go"
        have z5 := (Same.new hB).trans z4
        refine ⟨q, nats l2, rfl, .inl (SqL.of eq2), rfl, flat_nats _, ?_⟩
        rw [inV_nats]
        walk_at "go"
        refine k_ite (fun c => ?_) (fun c => ?_)
        · walk_at "go"
          have on : OnLoop m s0 := ⟨(reach _).mp c0, (mem2 _).mp c⟩
          refine ⟨nats ps, z5 _ _ eD2, ?_, Same.mut (z2.trans z5) hD, ps ++ [i], by rw [upd_same, nats_snoc], by rw [List.length_append, List.length_singleton]; omega, fun p => ?_, ?_⟩
          · have := o.sok.len
            unfold nats
            rw [List.length_map]
            exact Nat.lt_of_le_of_lt (show ps.length ≤ 300 by omega) (by decide)
          · rw [List.mem_append, List.mem_singleton, bp p]
            refine ⟨fun h => ?_, fun ⟨h1, h2⟩ => ?_⟩
            · rcases h with ⟨h1, h2⟩ | rfl
              · exact ⟨Nat.lt_succ_of_lt h1, h2⟩
              · exact ⟨Nat.lt_succ_self _, s0, ei, on⟩
            · rcases Nat.lt_succ_iff_lt_or_eq.mp h1 with h1 | h1
              · exact .inl ⟨h1, h2⟩
              · exact .inr h1
          · refine List.pairwise_append.mpr ⟨up, List.pairwise_singleton _ _, fun a ha b hb => ?_⟩
            rw [List.mem_singleton.mp hb]
            exact ((bp a).mp ha).1
        · walk_at "go"
          exact skip _ (fun z => c ((mem2 _).mpr z.2)) z5 (z5 _ _ eD2)
      · walk_at "go"
        exact skip _ (fun z => c ((reach _).mpr z.1)) (Same.refl _) eD2
    · rintro H2 ⟨z, ps, eD, lp, bp, up⟩
      refine k D ps H2 (z1.trans z) ?_ eD ⟨fun p => by
        rw [bp p]
        exact ⟨fun h => h.2, fun h => ⟨let ⟨_, e, _⟩ := h; by rw [hu.1]; exact (List.getElem?_eq_some_iff.mp e).1, h⟩⟩, up⟩
      cases e : H D with
      | none => rfl
      | some ob => rw [z1 _ _ e] at hD; cases hD
end
/-! ### numbers on the stands, spread over steps: what _spread leaves, exactly -/
def putL (f : LF) (n : Nat) (v : Int) : LF := fun j => if j = n then some v else f j
def spT (f : LF) (s : Stp) : LF := match f s.b with
  | some x => (match f s.e with | some _ => f | none => putL f s.e (x + s.g))
  | none => (match f s.e with | some y => putL f s.b (y - s.g) | none => f)
def spR (ss : List Stp) (f : LF) : LF := ss.foldl spT f
def spI (ss : List Stp) : Nat → LF → LF
  | 0, f => f
  | n + 1, f => spR ss (spI ss n f)
/-- a dict of stands below N with integers -/
structure NumD (N : Nat) (kvs : List (Key × V)) (f : LF) : Prop where
  kv : KvI kvs f
  nd : (kvs.map (·.1)).Nodup
  bd : ∀ n u, f n = some u → n < N
theorem NumD.put {N : Nat} {kvs : List (Key × V)} {f : LF} (h : NumD N kvs f) {n : Nat} (hn : n < N) (v : Int) : NumD N (putK kvs (.inl (n : Int)) (.int v)) (putL f n v) :=
  ⟨h.kv.put n v, putK_nodup _ _ h.nd, fun k u e => by
    unfold putL at e
    split at e
    · rename_i c; rw [c]; exact hn
    · exact h.bd k u e⟩
theorem NumD.len {N : Nat} {kvs : List (Key × V)} {f : LF} (h : NumD N kvs f) : kvs.length ≤ N := h.kv.len h.nd h.bd
theorem NumD.small {N : Nat} {kvs : List (Key × V)} {f : LF} (h : NumD N kvs f) (n : N ≤ 63) : kvs.length < sizeLine := Nat.lt_of_le_of_lt (Nat.le_trans h.len n) (by decide)
theorem Keep.tupsD {a : Addr} {H H' : Hp} {kvs : List (Key × V)} (k : Keep a H H') (ha : H a = some (.dK kvs)) : Tups H H' := ⟨fun b _ e => k _ _ (fun z => by rw [z, ha] at e; cases e) e, fun b _ _ e => k _ _ (fun z => by rw [z, ha] at e; cases e) e⟩
def sp_spread (K : PySem.W.Frag) : Sp := fun vs H Q _ => ∃ (D p : Addr) (us : List V) (ss : List Stp) (N : Nat) (kvs : List (Key × V)) (f : LF), vs = [.ref D, .ref p] ∧ H p = some (.lst us) ∧ StpsAt K H us ss ∧ SsOk N ss ∧ H D = some (.dK kvs) ∧ NumD N kvs f ∧
  ∀ kvs' H', Keep D H H' → H' D = some (.dK kvs') → NumD N kvs' (spI ss ss.length f) → Q .non H'
section
variable {P : Program} {w : World} {K : PySem.W.Frag} {mg : Str → Option Value} {base : Heap}
theorem ok_spread (T : Txt K mg) : FnOk P w K mg base (L2.CX P w) 1 T.a_spread T.fd_spread ["numbers", "steps"] (sp_spread K) := by
  refine T.F_spread.okX sc_spread (fun vs H Q E h => ?_) (fun cdv A outer s H vs Q E hr h => ?_)
  · obtain ⟨D, p, us, ss, N, kvs, f, rfl, _⟩ := h
    rfl
  · obtain ⟨D, p, us, ss, N, kvs, f, rfl, hp, hs, o, hD, nd, k⟩ := h
    have npD : p ≠ D := fun e => by rw [e, hD] at hp; cases hp
    have lu := hs.1
    have l300 := o.len
    refine ⟨_, (PSs.nox (pss_one (ps_for PassesOwn.never rfl (pi_range1 (by rfl) T.z_range (pa_cons (pe_callB call_len_seq (by rfl) T.z_len PySem.boot_len (pa_cons (pv 1) pa_nil)) pa_nil)) (pg_name (i := 2) sc_spread.nd rfl (Or.inl rfl))
  (pss_one (ps_for PassesOwn.never rfl (pi_list (pv 1)) (pg_tup rfl (pgs_cons (pg_name (i := 3) sc_spread.nd rfl (Or.inl rfl)) (pgs_cons (pg_name (i := 2) sc_spread.nd rfl (Or.inl rfl)) (pgs_cons (pg_name (i := 4) sc_spread.nd rfl (Or.inl rfl)) (pgs_cons (pg_name (i := 5) sc_spread.nd rfl (Or.inl rfl)) pgs_nil)))))
  (pss_one (ps_if (pt_cmp (pc_din (hu_of hr) (pv 3) (pv 0)) (by rfl))
  (pss_one (ps_expr (pe_dsetd (pv 0) (pv 4) (pe_op op_add (pe_dget (hu_of hr) (pv 0) (pv 3) (fun _ _ => rfl)) (pv 5)) ⟨by rfl, by rfl, by rfl, by rfl⟩)))
  (pss_one (ps_if (pt_cmp (pc_din (hu_of hr) (pv 4) (pv 0)) (by rfl))
  (pss_one (ps_dput (hu_of hr) (pv 0) (pv 3) (pe_op op_sub (pe_dget (hu_of hr) (pv 0) (pv 4) (fun _ _ => rfl)) (pv 5)) rfl))
  pss_nil))))))))), ?_⟩
    walk_at "begin"
    walk_at "go"
    refine ⟨p, us, rfl, .inl (SqL.of hp), ?_⟩
    walk_at "go"
    refine k_rg (by omega) (by omega) ?_
    refine for_range (lo := 0) (n := ((us.length : Nat) : Int).toNat) (fun i σ H' => ∃ kvs' a2 a3 a4 a5, Keep D H H' ∧ H' D = some (.dK kvs') ∧ NumD N kvs' (spI ss i f) ∧ σ = [some (.ref D), some (.ref p), a2, a3, a4, a5]) ⟨kvs, _, _, _, _, Keep.refl _ _, hD, nd, rfl⟩ ?_ ?_
    · rintro i σ H1 hi ⟨kvs1, a2, a3, a4, a5, K1, eD1, nd1, rfl⟩
      walk_at "go"
      refine ⟨p, rfl, ⟨_, SqL.of (K1 _ _ npD hp)⟩, for_list (xs := us) (fun j σ H' => ∃ kvs' a2 a3 a4 a5, Keep D H H' ∧ H' D = some (.dK kvs') ∧ NumD N kvs' ((ss.take j).foldl spT (spI ss i f)) ∧ σ = [some (.ref D), some (.ref p), a2, a3, a4, a5])
        ⟨kvs1, _, _, _, _, K1, eD1, nd1, rfl⟩ (fun j σ H' _ ⟨_, _, _, _, _, K2, _⟩ => SqL.of (K2 _ _ npD hp)) ?_ ?_⟩
      · rintro j y σ H2 hy ⟨kvs2, a2, a3, a4, a5, K2, eD2, nd2, rfl⟩
        have il : j < ss.length := by rw [← hs.1]; exact (List.getElem?_eq_some_iff.mp hy).1
        have ei : ss[j]? = some (ss[j]'il) := List.getElem?_eq_getElem il
        obtain ⟨q, eq, hq⟩ := hs.2 j _ ei
        rw [hy] at eq
        cases eq
        have ok1 := o.ok _ (List.getElem_mem il)
        rw [take_fold _ _ ei]
        generalize ss[j]'il = s0 at hq ok1 ⊢
        generalize (ss.take j).foldl spT (spI ss i f) = g at nd2 ⊢
        refine k_gt ((K2.tupsD hD).sq hq) rfl ?_
        unfold stpV
        have small := nd2.small o.n64
        have dg : ∀ n : Nat, DGet H2 D (.int (n : Nat)) (valV kvs2 (.inl (n : Int))) := fun n => DGet.k (k := .inl (n : Int)) eD2
        walk_at "go"
        refine ⟨D, _, rfl, dg s0.b, ?_⟩
        walk_at "go"
        rw [nd2.kv.2 s0.b]
        cases eb : g s0.b with
        | some x =>
          have et : spT g s0 = (match g s0.e with | some _ => g | none => putL g s0.e (x + s0.g)) := by unfold spT; rw [eb]
          rw [et]
          refine iteT ?_
          walk_at "go"
          refine k_drop (k_dsetd ?_)
          walk_at "go"
          refine ⟨D, rfl, .inl ⟨_, .inl eD2⟩, ?_⟩
          walk_at "go"
          have dgb := dg s0.b
          rw [nd2.kv.2 s0.b, eb] at dgb
          refine ⟨D, _, rfl, dgb, ?_⟩
          walk_at "go"
          refine ⟨kvs2, .inl (s0.e : Int), eD2, rfl, small, fun v hv => ?_, fun hn => ?_⟩
          · rw [nd2.kv.2 s0.e] at hv
            cases ee : g s0.e with
            | none => rw [ee] at hv; cases hv
            | some y => exact ⟨kvs2, _, _, _, _, K2, eD2, nd2, rfl⟩
          · rw [nd2.kv.2 s0.e] at hn
            cases ee : g s0.e with
            | some y => rw [ee] at hn; cases hn
            | none => exact ⟨_, _, _, _, _, K2.trans Keep.at_, upd_same, nd2.put ok1.e _, rfl⟩
        | none =>
          have et : spT g s0 = (match g s0.e with | some y => putL g s0.b (y - s0.g) | none => g) := by unfold spT; rw [eb]
          rw [et]
          refine iteF ?_
          walk_at "go"
          refine ⟨D, _, rfl, dg s0.e, ?_⟩
          walk_at "go"
          rw [nd2.kv.2 s0.e]
          have dge := dg s0.e
          rw [nd2.kv.2 s0.e] at dge
          cases ee : g s0.e with
          | some y =>
            rw [ee] at dge
            refine iteT ?_
            walk_at "go"
            refine ⟨D, _, rfl, dge, ?_⟩
            walk_at "go"
            refine ⟨D, _, rfl, DPut.k (k := .inl (s0.b : Int)) eD2 small, ?_⟩
            exact ⟨_, _, _, _, _, K2.trans Keep.at_, upd_same, nd2.put ok1.b _, rfl⟩
          | none =>
            refine iteF ?_
            walk_at "go"
            exact ⟨kvs2, _, _, _, _, K2, eD2, nd2, rfl⟩
      · rintro σ H2 ⟨kvs2, a2, a3, a4, a5, K2, eD2, nd2, rfl⟩
        rw [hs.1, List.take_length] at nd2
        exact ⟨kvs2, _, _, _, _, K2, eD2, nd2, rfl⟩
    · rintro σ H2 ⟨kvs2, a2, a3, a4, a5, K2, eD2, nd2, rfl⟩
      rw [show (((us.length : Nat) : Int)).toNat = ss.length from hs.1] at nd2
      exact k kvs2 H2 K2 eD2 nd2
end
/-! ### what _numbers tells, exactly -/
def numG (ss : List Stp) : Nat → LF
  | 0 => fun _ => none
  | i + 1 => match numG ss i i with
    | some _ => numG ss i
    | none => spI ss ss.length (putL (numG ss i) i 0)
def fitB (f : LF) (s : Stp) : Bool := decide ((f s.e).getD 0 - (f s.b).getD 0 = s.g)
theorem spT_ext {f : LF} {s : Stp} {n : Nat} {x : Int} (h : f n = some x) : spT f s n = some x := by
  unfold spT
  cases eb : f s.b with
  | some y =>
    cases ee : f s.e with
    | some z => exact h
    | none =>
      show putL f s.e (y + s.g) n = some x
      unfold putL
      rw [if_neg (fun z => by rw [z, ee] at h; cases h)]
      exact h
  | none =>
    cases ee : f s.e with
    | none => exact h
    | some z =>
      show putL f s.b (z - s.g) n = some x
      unfold putL
      rw [if_neg (fun z => by rw [z, eb] at h; cases h)]
      exact h
theorem spR_ext {ss : List Stp} {f : LF} {n : Nat} {x : Int} (h : f n = some x) : spR ss f n = some x := by
  unfold spR
  induction ss generalizing f with
  | nil => exact h
  | cons s ss ih => exact ih (spT_ext h)
theorem spI_ext {ss : List Stp} {f : LF} {n : Nat} {x : Int} (h : f n = some x) : ∀ k, spI ss k f n = some x
  | 0 => h
  | k + 1 => spR_ext (spI_ext h k)
theorem numG_has {ss : List Stp} : ∀ {i n : Nat}, n < i → ∃ x, numG ss i n = some x
  | 0, n, h => absurd h (Nat.not_lt_zero _)
  | i + 1, n, h => by
    unfold numG
    cases e : numG ss i i with
    | some x =>
      by_cases c : n = i
      · rw [c]; exact ⟨x, e⟩
      · exact numG_has (by omega)
    | none =>
      by_cases c : n = i
      · exact ⟨0, spI_ext (by unfold putL; rw [if_pos c]) _⟩
      · obtain ⟨x, ex⟩ := numG_has (ss := ss) (show n < i by omega)
        exact ⟨x, spI_ext (by unfold putL; rw [if_neg c]; exact ex) _⟩
theorem Keep.same0 {a : Addr} {H H' : Hp} (x : Keep a H H') (h : H a = none) : Same H H' := fun b o e => x b o (ne_of_none e h) e
theorem dec_int (a b : Int) : decide (V.int a = V.int b) = decide (a = b) := decide_eq_decide.mpr ⟨fun h => by injection h, fun h => by rw [h]⟩
def sp_numbers (K : PySem.W.Frag) : Sp := fun vs H Q _ => ∃ (p : Addr) (us : List V) (ss : List Stp) (N : Nat), vs = [.int (N : Nat), .ref p] ∧ H p = some (.lst us) ∧ StpsAt K H us ss ∧ SsOk N ss ∧
  (ss.all (fitB (numG ss N)) = true → ∀ D kvs H', Same H H' → H D = none → H' D = some (.dK kvs) → NumD N kvs (numG ss N) → Q (.ref D) H') ∧ (ss.all (fitB (numG ss N)) = false → ∀ H', Same H H' → Q .non H')
section
variable {P : Program} {w : World} {K : PySem.W.Frag} {mg : Str → Option Value} {base : Heap}
theorem ok_numbers (T : Txt K mg) : FnOk P w K mg base (L2.CX P w) 2 T.a_numbers T.fd_numbers ["many", "steps"] (sp_numbers K) := by
  refine T.F_numbers.okX sc_numbers (fun vs H Q E h => ?_) (fun cdv A outer s H vs Q E hr h => ?_)
  · obtain ⟨p, us, ss, N, rfl, _⟩ := h
    rfl
  · obtain ⟨p, us, ss, N, rfl, hp, hs, o, k1, k2⟩ := h
    have lu := hs.1
    have l300 := o.len
    have n64 := o.n64
    refine ⟨_, (PSs.nox (pss_cons (ps_set (i := 2) sc_numbers.nd rfl (Or.inr rfl) pe_dnewK)
  (pss_cons (ps_for PassesOwn.never rfl (pi_range1 (by rfl) T.z_range (pa_cons (pv 0) pa_nil)) (pg_name (i := 3) sc_numbers.nd rfl (Or.inl rfl))
  (pss_one (ps_if (pt_cmp (pc_dnotin (hu_of hr) (pv 3) (pv 2)) (by rfl))
  (pss_cons (ps_dput (hu_of hr) (pv 2) (pv 3) pe_int rfl)
  (pss_one (ps_expr (pe_call (ok_spread T) (hr.mono (by decide)) (by rfl) T.m_spread T.k_spread T.b_spread .nil passL (pa_cons (pv 2) (pa_cons (pv 1) pa_nil))))))
  pss_nil)))
  (pss_one (ps_ret (pe_ifExp (pt_val (pe_callB (cr_all rfl) (by rfl) T.z_all (by decide +kernel) (pa_cons (pe_lc (own := [("begun", 4), ("_", 5), ("end", 6), ("gain", 7)]) (g := (gTup K 4 (gCons (gName 4) (gCons (gName 5) (gCons (gName 6) (gCons (gName 7) gNil)))))) (tt := tYes) rfl sc_numbers.nd (pi_list (pv 1)) (blkOk_by (own := [("begun", 4), ("_", 5), ("end", 6), ("gain", 7)]) (N := ["many", "steps", "numbers", "stand", "begun", "_", "end", "gain"]) (sc := defScope s_numbers) (by decide +kernel)) (fun _ _ _ _ _ => (pg_tup rfl (pgs_cons (pg_name (i := 4) sc_numbers.nd rfl (Or.inl rfl)) (pgs_cons (pg_name (i := 5) sc_numbers.nd rfl (Or.inl rfl)) (pgs_cons (pg_name (i := 6) sc_numbers.nd rfl (Or.inl rfl)) (pgs_cons (pg_name (i := 7) sc_numbers.nd rfl (Or.inl rfl)) pgs_nil)))))) (fun _ _ _ _ _ => pts_nil) (fun _ _ _ _ _ => (pe_cmpR op_eq (pe_op op_sub (pe_dget (hu_of hr) (pv 2) (pv 6) (fun _ _ => rfl)) (pe_dget (hu_of hr) (pv 2) (pv 4) (fun _ _ => rfl))) (pv 7) (nomark _)))) pa_nil))) (pv 2) pe_non)))))), ?_⟩
    walk_at "begin"
    walk_at "go"
    intro D hD
    have npD : p ≠ D := ne_of_none hp hD
    walk_at "go"
    refine k_rg (by omega) (by omega) ?_
    refine for_range (lo := 0) (n := ((N : Nat) : Int).toNat) (fun i σ H' => ∃ kvs a3, Same H H' ∧ H' D = some (.dK kvs) ∧ NumD N kvs (numG ss i) ∧ σ = [some (.int (N : Nat)), some (.ref p), some (.ref D), a3, none, none, none, none])
      ⟨[], _, Same.new hD, upd_same, ⟨⟨fun q hq => absurd hq (by simp), fun n => rfl⟩, by simp, fun n u e => by cases e⟩, rfl⟩ ?_ ?_
    · rintro i σ H1 hi ⟨kvs, a3, z1, eD, nd, rfl⟩
      have iN : i < N := hi
      have z0 : (0 + (i : Nat) : Int) = ((i : Nat) : Int) := by omega
      rw [z0]
      have small := nd.small n64
      walk_at "go"
      refine ⟨D, _, rfl, DGet.k (k := .inl (i : Int)) eD, ?_⟩
      walk_at "go"
      rw [nd.kv.2 i]
      cases e : numG ss i i with
      | some x =>
        refine iteF ?_
        walk_at "go"
        refine ⟨kvs, _, z1, eD, ?_, rfl⟩
        have : numG ss (i + 1) = numG ss i := by
          show (match numG ss i i with | some _ => numG ss i | none => _) = _
          rw [e]
        rw [this]
        exact nd
      | none =>
        refine iteT ?_
        walk_at "go"
        refine ⟨D, _, rfl, DPut.k (k := .inl (i : Int)) eD small, ?_⟩
        walk_at "go"
        have K1 : Keep D H (upd H1 D (.dK (putK kvs (.inl (i : Int)) (.int 0)))) := (Keep.of_same z1).trans Keep.at_
        have zz := K1.same0 hD
        refine ⟨D, p, us, ss, N, _, _, rfl, zz _ _ hp, (same_tups zz).steps hs, o, upd_same, nd.put iN 0, fun kvs' H' K2 e2 nd2 => ?_⟩
        walk_at "go"
        refine ⟨kvs', _, (K1.trans K2).same0 hD, e2, ?_, rfl⟩
        have : numG ss (i + 1) = spI ss ss.length (putL (numG ss i) i 0) := by
          show (match numG ss i i with | some _ => numG ss i | none => _) = _
          rw [e]
        rw [this]
        exact nd2
    · rintro σ H1 ⟨kvs, a3, z1, eD, nd, rfl⟩
      rw [show (((N : Nat) : Int)).toNat = N from rfl] at nd
      walk_at "go"
      refine ⟨p, rfl, ⟨_, SqL.of (z1 _ _ hp)⟩, fun L hL => ?_⟩
      have hL0 := free_of z1 hL
      refine lc_list (xs := us) (fun i H' => Same H1 H' ∧ H' L = some (.lst ((ss.take i).map fun s => V.bl (fitB (numG ss N) s)))) ⟨Same.new hL, upd_same⟩ (fun _ H' _ ⟨z, _⟩ => SqL.of (z _ _ (z1 _ _ hp))) ?_ ?_
      · rintro j y H2 hy ⟨z2, eL⟩
        have il : j < ss.length := by rw [← hs.1]; exact (List.getElem?_eq_some_iff.mp hy).1
        have ei : ss[j]? = some (ss[j]'il) := List.getElem?_eq_getElem il
        obtain ⟨q, eq, hq⟩ := hs.2 j _ ei
        rw [hy] at eq
        cases eq
        have ok1 := o.ok _ (List.getElem_mem il)
        have tk : (ss.take (j + 1)).map (fun s => V.bl (fitB (numG ss N) s)) = (ss.take j).map (fun s => V.bl (fitB (numG ss N) s)) ++ [V.bl (fitB (numG ss N) (ss[j]'il))] := by rw [List.take_add_one, ei, List.map_append]; rfl
        rw [tk]
        generalize ss[j]'il = s0 at hq ok1 ⊢
        have lt : ((ss.take j).map (fun s => V.bl (fitB (numG ss N) s))).length < sizeLine := by
          rw [List.length_map, List.length_take]
          exact Nat.lt_of_le_of_lt (show _ ≤ 300 by omega) (by decide)
        generalize (ss.take j).map (fun s => V.bl (fitB (numG ss N) s)) = bs at eL lt ⊢
        obtain ⟨x, ex⟩ := numG_has (ss := ss) ok1.b
        obtain ⟨y, ey⟩ := numG_has (ss := ss) ok1.e
        have dgb : DGet H2 D (.int (s0.b : Nat)) (valV kvs (.inl (s0.b : Int))) := DGet.k (k := .inl (s0.b : Int)) (z2 _ _ eD)
        have dge : DGet H2 D (.int (s0.e : Nat)) (valV kvs (.inl (s0.e : Int))) := DGet.k (k := .inl (s0.e : Int)) (z2 _ _ eD)
        rw [nd.kv.2, ex] at dgb
        rw [nd.kv.2, ey] at dge
        refine k_gt ((same_tups (z1.trans z2)).sq hq) rfl ?_
        unfold stpV
        walk_at "go"
        refine ⟨rfl, ?_⟩
        walk_at "go"
        refine iteT ?_
        walk_at "go"
        refine ⟨D, _, rfl, dge, ?_⟩
        walk_at "go"
        refine ⟨D, _, rfl, dgb, ?_⟩
        walk_at "go"
        refine ⟨bs, eL, lt, Same.mut z2 hL, ?_⟩
        rw [upd_same, dec_int]
        have : fitB (numG ss N) s0 = decide (y - x = s0.g) := by unfold fitB; rw [ex, ey]; rfl
        rw [this]
      · rintro H2 ⟨z2, eL⟩
        rw [hs.1, List.take_length] at eL
        have em : (ss.map fun s => V.bl (fitB (numG ss N) s)) = (ss.map (fitB (numG ss N))).map V.bl := by rw [List.map_map]; rfl
        rw [em] at eL
        walk_at "go"
        refine ⟨L, _, rfl, SqL.of eL, ?_⟩
        walk_at "go"
        have ea : (ss.map (fitB (numG ss N))).all id = ss.all (fitB (numG ss N)) := by rw [List.all_map]; rfl
        rw [ea]
        refine k_bool (fun c => ?_) (fun c => ?_)
        · walk_at "go"
          exact k1 c D kvs H2 (z1.trans z2) hD (z2 _ _ eD) nd
        · walk_at "go"
          exact k2 c H2 (z1.trans z2)
end
/-! ### the steps at some places, but for those of a set -/
def subS (ss : List Stp) (ps qs : List Nat) : List Stp := (ps.filter fun p => decide (p ∉ qs)).filterMap fun p => ss[p]?
theorem subS_take {ss : List Stp} {ps qs : List Nat} {i p : Nat} (h : ps[i]? = some p) : subS ss (ps.take (i + 1)) qs = subS ss (ps.take i) qs ++ (if p ∈ qs then [] else (ss[p]?).toList) := by
  unfold subS
  rw [List.take_add_one, h, List.filter_append, List.filterMap_append]
  congr 1
  by_cases c : p ∈ qs
  · rw [if_pos c]
    simp [c]
  · rw [if_neg c]
    cases e : ss[p]? with
    | none => simp [c, e]
    | some s => simp [c, e]
theorem subS_mem {ss : List Stp} {ps qs : List Nat} {s : Stp} : s ∈ subS ss ps qs ↔ ∃ p ∈ ps, p ∉ qs ∧ ss[p]? = some s := by
  unfold subS
  rw [List.mem_filterMap]
  constructor
  · rintro ⟨p, hp, e⟩
    rw [List.mem_filter] at hp
    exact ⟨p, hp.1, of_decide_eq_true hp.2, e⟩
  · rintro ⟨p, h1, h2, e⟩
    exact ⟨p, List.mem_filter.mpr ⟨h1, decide_eq_true h2⟩, e⟩
theorem subS_len {ss : List Stp} {ps qs : List Nat} : (subS ss ps qs).length ≤ ps.length := Nat.le_trans (List.length_filterMap_le ..) (List.length_filter_le ..)
theorem subS_ok {m : MD} (o : m.Ok) {ps qs : List Nat} (l : ps.length ≤ 300) : SsOk m.n (subS m.ss ps qs) := ⟨o.n1, by have := o.n8; omega, fun s h => by
  obtain ⟨p, _, _, e⟩ := subS_mem.mp h
  exact o.sok.ok s (List.mem_of_getElem? e), Nat.le_trans subS_len l⟩
def sp_without (K : PySem.W.Frag) (C : Addr) : Sp := fun vs H Q _ => ∃ (x pp t : Addr) (m : MD) (ps qs : List Nat), vs = [.ref x, .ref pp, .ref t] ∧ MAt K C H x m ∧ m.Ok ∧ H pp = some (.lst (nats ps)) ∧ SqT K H t (nats qs) ∧ (∀ p ∈ ps, p < m.ss.length) ∧ ps.length ≤ 300 ∧
  ((subS m.ss ps qs).all (fitB (numG (subS m.ss ps qs) m.n)) = true → ∀ D kvs H', Same H H' → H D = none → H' D = some (.dK kvs) → NumD m.n kvs (numG (subS m.ss ps qs) m.n) → Q (.ref D) H') ∧
  ((subS m.ss ps qs).all (fitB (numG (subS m.ss ps qs) m.n)) = false → ∀ H', Same H H' → Q .non H')
section
variable {P : Program} {w : World} {K : PySem.W.Frag} {mg : Str → Option Value} {base : Heap}
theorem ok_numbers_without (T : Txt K mg) : FnOk P w K mg base (L2.CX P w) 3 T.a_numbers_without T.fd_numbers_without ["machine", "places", "some"] (sp_without K T.c_Machine) := by
  refine T.F_numbers_without.okX sc_numbers_without (fun vs H Q E h => ?_) (fun cdv A outer s H vs Q E hr h => ?_)
  · obtain ⟨x, pp, t, m, ps, qs, rfl, _⟩ := h
    rfl
  · obtain ⟨x, pp, t, m, ps, qs, rfl, hm, o, hpp, ht, bp, lp, k1, k2⟩ := h
    obtain ⟨dx, tt, u, hx, hp0⟩ := id hm
    refine ⟨_, (PSs.nox (pss_one (ps_ret (pe_call (ok_numbers T) (hr.mono (by decide)) (by rfl) T.m_numbers T.k_numbers T.b_numbers .nil passL (pa_cons (pe_prop (pv 0) T.cl_Machine T.p_stands (ok_Machine_stands T) (hr.mono (by decide)) T.b_Machine_stands .nil passL rfl) (pa_cons (pe_lc (own := [("place", 3)]) (g := (gName 3)) rfl sc_numbers_without.nd (pi_list (pv 1)) (blkOk_by (own := [("place", 3)]) (N := ["machine", "places", "some", "place"]) (sc := defScope s_numbers_without) (by decide +kernel)) (fun _ _ _ _ _ => (pg_name (i := 3) sc_numbers_without.nd rfl (Or.inl rfl))) (fun _ _ _ _ _ => (pts_one (pt_cmpR (show OpR _ _ (rIn K true) from op_notIn_seq) (pv 3) (pv 2) (by rfl)))) (fun _ _ _ _ _ => (pe_ix (show IxR _ (rIxT K) from ix_tup) (pe_prop (pv 0) T.cl_Machine T.p_steps (ok_Machine_steps T) (hr.mono (by decide)) T.b_Machine_steps .nil passL rfl) (pv 3) (fun _ _ => rfl)))) pa_nil)))))), ?_⟩
    walk_at "begin"
    walk_at "go"
    refine ⟨x, dx, _, rfl, hx, x, dx, _, .int (m.n : Nat), rfl, hx, rfl, ?_⟩
    walk_at "go"
    refine ⟨pp, rfl, ⟨_, SqL.of hpp⟩, fun L hL => ?_⟩
    obtain ⟨us, hs, hu⟩ := id hp0.1
    refine lc_list (xs := nats ps) (fun i H' => Same H H' ∧ ∃ vs, H' L = some (.lst vs) ∧ StpsAt K H vs (subS m.ss (ps.take i) qs)) ⟨Same.new hL, [], upd_same, rfl, fun i s e => by simp [subS] at e⟩ (fun _ H' _ ⟨z, _⟩ => SqL.of (z _ _ hpp)) ?_ ?_
    · rintro j y H2 hy ⟨z2, vs, eL, hv⟩
      obtain ⟨n, en, rfl⟩ := nats_at hy
      have hn : n ∈ ps := List.mem_of_getElem? en
      have il := bp n hn
      rw [subS_take en]
      walk_at "go"
      refine ⟨rfl, ?_⟩
      walk_at "go"
      refine k_in (.inr ((same_tups z2).sq ht)) rfl (flat_nats _) ?_
      rw [inV_nats]
      walk_at "go"
      refine k_iteN (fun c => ?_) (fun c => ?_)
      · rw [if_pos c, List.append_nil]
        exact ⟨z2, vs, eL, hv⟩
      · rw [if_neg c]
        have ei : m.ss[n]? = some (m.ss[n]'il) := List.getElem?_eq_getElem il
        obtain ⟨q, eq, hq⟩ := hu.2 n _ ei
        walk_at "go"
        refine ⟨x, dx, _, rfl, z2 _ _ hx, x, dx, _, .ref tt, rfl, z2 _ _ hx, rfl, ?_⟩
        walk_at "go"
        refine k_ixT ((same_tups z2).sq hs) (v := .ref q) (at_of (j := n) (by omega) eq) ?_
        refine ⟨vs, eL, ?_, Same.mut z2 hL, vs ++ [.ref q], upd_same, ?_⟩
        · rw [hv.1]
          have := subS_len (ss := m.ss) (ps := ps.take j) (qs := qs)
          rw [List.length_take] at this
          exact Nat.lt_of_le_of_lt (show _ ≤ 300 by omega) (by decide)
        · rw [ei]
          exact hv.snoc hq
    · rintro H2 ⟨z2, vs, eL, hv⟩
      have : (nats ps).length = ps.length := by unfold nats; rw [List.length_map]
      rw [this, List.take_length] at hv
      walk_at "go"
      refine ⟨L, vs, _, m.n, rfl, eL, (same_tups z2).steps hv, subS_ok o lp, fun c D kvs H' z3 hD eD nd => k1 c D kvs H' (z2.trans z3) (free_of z2 hD) eD nd, fun c H' z3 => k2 c H' (z2.trans z3)⟩
end
/-! ### mended, where it comes through -/
theorem FnOk.imp {P : Program} {w : World} {K : PySem.W.Frag} {mg : Str → Option Value} {base : Heap} {CX : CXT} {k : Nat} {f : Addr} {fd : FuncData} {ps : List Str} {sp sp' : Sp} (F : FnOk P w K mg base CX k f fd ps sp) (i : ∀ vs H Q E, sp' vs H Q E → sp vs H Q E) :
    FnOk P w K mg base CX k f fd ps sp' :=
  ⟨fun vs H Q E q => F.len vs H Q E (i _ _ _ _ q), fun A outer s H args us vs Q E hr he hb hv hs => F.run A outer s H args us vs Q E hr he hb hv (i _ _ _ _ hs)⟩
def mendS (ss : List Stp) (f : LF) (qs : List Nat) : List Stp := ss.mapIdx fun i s => if i ∈ qs then { s with g := (f s.e).getD 0 - (f s.b).getD 0 } else s
theorem mendS_at {ss : List Stp} {f : LF} {qs : List Nat} {i : Nat} {s : Stp} (h : ss[i]? = some s) : (mendS ss f qs)[i]? = some (if i ∈ qs then { s with g := (f s.e).getD 0 - (f s.b).getD 0 } else s) := by
  unfold mendS
  rw [List.getElem?_mapIdx, h]
  rfl
theorem mendS_len {ss : List Stp} {f : LF} {qs : List Nat} : (mendS ss f qs).length = ss.length := by unfold mendS; exact List.length_mapIdx
def sp_mended_ok (K : PySem.W.Frag) (C : Addr) : Sp := fun vs H Q _ => ∃ (x t : Addr) (m : MD) (qs : List Nat), vs = [.ref x, .ref t] ∧ MAt K C H x m ∧ m.Ok ∧ m.ss.length ≤ 12 ∧ SqT K H t (nats qs) ∧ (∀ q ∈ qs, q < m.ss.length) ∧ qs.Pairwise (· < ·) ∧
  ∀ ps, PlacesOf m ps →
    ((subS m.ss ps qs).all (fitB (numG (subS m.ss ps qs) m.n)) = true → ∀ r H', Same H H' → H r = none → StAt K H' r (mendS m.ss (numG (subS m.ss ps qs) m.n) qs) → Q (.ref r) H') ∧
    ((subS m.ss ps qs).all (fitB (numG (subS m.ss ps qs) m.n)) = false → ∀ H', Same H H' → Q .non H')
section
variable {P : Program} {w : World} {K : PySem.W.Frag} {mg : Str → Option Value} {base : Heap}
theorem ok_check_steps_mends (T : Txt K mg) : FnOk P w K mg base (L2.CX P w) 4 T.a_check_steps_mends T.fd_check_steps_mends ["machine"] (fun vs H Q _ => ∃ (x : Addr) (m : MD), vs = [.ref x] ∧ MAt K T.c_Machine H x m ∧ m.Ok ∧ m.ss.length ≤ 12 ∧ Q .non H) :=
  (ok_check_steps_mends_bad T).imp fun _ _ _ _ ⟨x, m, e, hm, o, l, q⟩ => ⟨x, m, e, hm, o, .inl ⟨l, q⟩⟩
theorem ok_mended_ok (T : Txt K mg) : FnOk P w K mg base (L2.CX P w) 9 T.a_mended T.fd_mended ["machine", "some"] (sp_mended_ok K T.c_Machine) := by
  refine T.F_mended.okX sc_mended (fun vs H Q E h => ?_) (fun cdv A outer s H vs Q E hr h => ?_)
  · obtain ⟨x, t, m, qs, rfl, _⟩ := h
    rfl
  · obtain ⟨x, t, m, qs, rfl, hm, o, l12, ht, bq, uq, k⟩ := h
    obtain ⟨dx, tt, u, hx, hp0⟩ := id hm
    obtain ⟨us, hs, hu⟩ := id hp0.1
    have elen : us.length = m.ss.length := hu.1
    refine ⟨_, (PSs.nox (pss_cons (ps_expr (pe_call (ok_check_machine T) (hr.mono (by decide)) (by rfl) T.m_check_machine T.k_check_machine T.b_check_machine .nil passL (pa_cons (pv 0) pa_nil)))
  (pss_cons (ps_expr (pe_call (ok_check_steps_mends T) (hr.mono (by decide)) (by rfl) T.m_check_steps_mends T.k_check_steps_mends T.b_check_steps_mends .nil passL (pa_cons (pv 0) pa_nil)))
  (pss_cons (ps_if (pt_not (pt_val (pe_call (ok_is_ascending T) (hr.mono (by decide)) (by rfl) T.m_is_ascending T.k_is_ascending T.b_is_ascending .nil passL (pa_cons (pv 1) (pa_cons (pe_callB call_len_seq (by rfl) T.z_len PySem.boot_len (pa_cons (pe_prop (pv 0) T.cl_Machine T.p_steps (ok_Machine_steps T) (hr.mono (by decide)) T.b_Machine_steps .nil passL rfl) pa_nil)) pa_nil)))))
  (pss_one ps_never)
  pss_nil)
  (pss_cons (ps_set (i := 2) sc_mended.nd rfl (Or.inr rfl) (pe_call (ok_numbers_without T) (hr.mono (by decide)) (by rfl) T.m_numbers_without T.k_numbers_without T.b_numbers_without .nil passL (pa_cons (pv 0) (pa_cons (pe_call (ok_places_on_loops T) (hr.mono (by decide)) (by rfl) T.m_places_on_loops T.k_places_on_loops T.b_places_on_loops .nil passL (pa_cons (pv 0) pa_nil)) (pa_cons (pv 1) pa_nil)))))
  (pss_cons (ps_if (pt_cmp (pc_isN (pv 2)))
  (pss_one (ps_ret pe_non))
  pss_nil)
  (pss_one (ps_ret (pe_callTy call_tuple_of (by rfl) T.z_tuple PySem.Pv.boot_tuple (pa_cons (pe_lc (own := [("place", 3), ("begun", 4), ("letter", 5), ("end", 6), ("gain", 7)]) (g := (gTup K 2 (gCons (gName 3) (gCons (gTup K 4 (gCons (gName 4) (gCons (gName 5) (gCons (gName 6) (gCons (gName 7) gNil))))) gNil)))) (tt := tYes) rfl sc_mended.nd (pi_enumT (by rfl) T.z_enumerate (pa_cons (pe_prop (pv 0) T.cl_Machine T.p_steps (ok_Machine_steps T) (hr.mono (by decide)) T.b_Machine_steps .nil passL rfl) pa_nil)) (blkOk_by (own := [("place", 3), ("begun", 4), ("letter", 5), ("end", 6), ("gain", 7)]) (N := ["machine", "some", "numbers", "place", "begun", "letter", "end", "gain"]) (sc := defScope s_mended) (by decide +kernel)) (fun _ _ _ _ _ => (pg_tup rfl (pgs_cons (pg_name (i := 3) sc_mended.nd rfl (Or.inl rfl)) (pgs_cons (pg_tup rfl (pgs_cons (pg_name (i := 4) sc_mended.nd rfl (Or.inl rfl)) (pgs_cons (pg_name (i := 5) sc_mended.nd rfl (Or.inl rfl)) (pgs_cons (pg_name (i := 6) sc_mended.nd rfl (Or.inl rfl)) (pgs_cons (pg_name (i := 7) sc_mended.nd rfl (Or.inl rfl)) pgs_nil))))) pgs_nil)))) (fun _ _ _ _ _ => pts_nil) (fun _ _ _ _ _ => (pe_tup (pa_cons (pv 4) (pa_cons (pv 5) (pa_cons (pv 6) (pa_cons (pe_ifExp (pt_cmpR (show OpR _ _ (rIn K false) from op_in_seq) (pv 3) (pv 1) (by rfl)) (pe_op op_sub (pe_dget (hu_of hr) (pv 2) (pv 6) (fun _ _ => rfl)) (pe_dget (hu_of hr) (pv 2) (pv 4) (fun _ _ => rfl))) (pv 7)) pa_nil))))))) pa_nil)))))))))), ?_⟩
    walk_at "begin"
    walk_at "go"
    refine ⟨x, dx, _, rfl, hx, ?_⟩
    walk_at "go"
    refine ⟨x, m, rfl, hm, o, l12, ?_⟩
    walk_at "go"
    refine ⟨x, dx, _, rfl, hx, x, dx, _, .ref tt, rfl, hx, rfl, ?_⟩
    walk_at "go"
    refine ⟨tt, us, rfl, .inr hs, ?_⟩
    walk_at "go"
    refine ⟨_, _, rfl, .inr ⟨t, _, rfl, ht, fun x h => ?_, ?_⟩⟩
    · obtain ⟨e, _, rfl⟩ := List.mem_map.mp h
      exact .inl ⟨_, rfl⟩
    rw [elen, show ascV (m.ss.length : Nat) 0 (nats qs) = true from ascV_nats (l := 0) bq uq (fun _ _ => Nat.zero_le _)]
    walk_at "go"
    refine iteF ?_
    walk_at "go"
    refine ⟨x, m, rfl, hm, o, fun pp ps H1 z1 hpp epp pl => ?_⟩
    obtain ⟨ka, kb⟩ := k ps pl
    have hm1 := hm.same z1
    walk_at "go"
    refine ⟨x, pp, t, m, ps, qs, rfl, hm1, o, epp, (same_tups z1).sq ht, pl.lt, Nat.le_trans pl.len (by have := o.len; omega), fun c D kvs H2 z2 hD eD nd => ?_, fun c H2 z2 => ?_⟩
    · walk_at "go"
      refine k_no (decide_eq_false (fun z => by cases z)) ?_
      walk_at "go"
      unfold iEnumT
      walk_at "go"
      have z12 := z1.trans z2
      have hx2 := z12 _ _ hx
      have hs2 := (same_tups z12).sq hs
      refine ⟨x, dx, _, rfl, hx2, x, dx, _, .ref tt, rfl, hx2, rfl, ?_⟩
      walk_at "go"
      refine ⟨tt, us, rfl, hs2, fun L hL => ?_⟩
      obtain ⟨f, ef⟩ : ∃ f, f = numG (subS m.ss ps qs) m.n := ⟨_, rfl⟩
      rw [← ef] at nd ka c
      refine lc_it walk_enumT (fun i H' => Same H2 H' ∧ ∃ vs, H' L = some (.lst vs) ∧ StpsAt K H' vs ((mendS m.ss f qs).take i)) ⟨Same.new hL, [], upd_same, by simp, fun i s e => by simp at e⟩ (fun i H' _ ⟨z, _⟩ => (same_tups z).sq hs2) ?_ ?_
      · rintro i y H3 H4 hi ⟨z, vs, eL, hv⟩ ⟨p, w', rfl, hp, rfl, hw⟩
        have il : i < m.ss.length := by rw [← elen]; exact hi
        have ei : m.ss[i]? = some (m.ss[i]'il) := List.getElem?_eq_getElem il
        obtain ⟨pw, eq, hq⟩ := hu.2 i _ ei
        rw [hw] at eq
        cases eq
        have o0 := o.ok _ (List.getElem_mem il)
        have em := mendS_at (f := f) (qs := qs) ei
        have tk : (mendS m.ss f qs).take (i + 1) = (mendS m.ss f qs).take i ++ [if i ∈ qs then { (m.ss[i]'il) with g := (f (m.ss[i]'il).e).getD 0 - (f (m.ss[i]'il).b).getD 0 } else m.ss[i]'il] := by rw [List.take_add_one, em]; rfl
        rw [tk]
        generalize m.ss[i]'il = s0 at hq o0 ⊢
        have z3 : Same H2 (upd H3 p (.tup [.int (i : Nat), .ref pw])) := z.trans (Same.new hp)
        have eL3 : (upd H3 p (.tup [.int (i : Nat), .ref pw])) L = some (.lst vs) := by rw [upd_ne (ne_of_none eL hp)]; exact eL
        have hv3 := (Tups.new (o := .tup [.int (i : Nat), .ref pw]) hp).steps hv
        have lt : vs.length < sizeLine := by
          rw [hv.1, List.length_take]
          exact Nat.lt_of_le_of_lt (show _ ≤ 12 by rw [mendS_len]; omega) (by decide)
        refine k_gt (SqT.of upd_same) rfl ?_
        walk_at "go"
        refine k_gt ((same_tups (z12.trans z3)).sq hq) rfl ?_
        unfold stpV
        walk_at "go"
        refine ⟨rfl, ?_⟩
        walk_at "go"
        refine iteT ?_
        generalize upd H3 p (.tup [.int (i : Nat), .ref pw]) = H4 at z3 eL3 hv3 ⊢
        walk_at "go"
        have fin : ∀ g : Int, (if i ∈ qs then { s0 with g := (f s0.e).getD 0 - (f s0.b).getD 0 } else s0) = { s0 with g := g } → 4 ≤ sizeLine ∧ ∀ q, H4 q = none → ∃ acc, (upd H4 q (.tup [.int (s0.b : Nat), .str ⟨#[s0.c]⟩, .int (s0.e : Nat), .int g])) L = some (.lst acc) ∧ acc.length < sizeLine ∧
            Same H2 (upd (upd H4 q (.tup [.int (s0.b : Nat), .str ⟨#[s0.c]⟩, .int (s0.e : Nat), .int g])) L (.lst (acc ++ [.ref q]))) ∧ ∃ vs', (upd (upd H4 q (.tup [.int (s0.b : Nat), .str ⟨#[s0.c]⟩, .int (s0.e : Nat), .int g])) L (.lst (acc ++ [.ref q]))) L = some (.lst vs') ∧
              StpsAt K (upd (upd H4 q (.tup [.int (s0.b : Nat), .str ⟨#[s0.c]⟩, .int (s0.e : Nat), .int g])) L (.lst (acc ++ [.ref q]))) vs' ((mendS m.ss f qs).take i ++ [if i ∈ qs then { s0 with g := (f s0.e).getD 0 - (f s0.b).getD 0 } else s0]) := fun g eg => by
          refine ⟨by decide, fun q hq4 => ?_⟩
          have eL5 : (upd H4 q (.tup [.int (s0.b : Nat), .str ⟨#[s0.c]⟩, .int (s0.e : Nat), .int g])) L = some (.lst vs) := by rw [upd_ne (ne_of_none eL3 hq4)]; exact eL3
          refine ⟨vs, eL5, lt, Same.mut (z3.trans (Same.new hq4)) hL, vs ++ [.ref q], upd_same, ?_⟩
          rw [eg]
          exact (Tups.lst eL5).steps (((Tups.new hq4).steps hv3).snoc (SqT.of upd_same))
        refine k_in (.inr ((same_tups (z12.trans z3)).sq ht)) rfl (flat_nats _) ?_
        rw [inV_nats]
        walk_at "go"
        refine k_ite (fun c => ?_) (fun c => ?_)
        · have nh : ∀ n, n < m.n → ∃ v, f n = some v := fun n hn => by rw [ef]; exact numG_has hn
          obtain ⟨xb, exb⟩ := nh _ o0.b
          obtain ⟨xe, exe⟩ := nh _ o0.e
          have dgb : DGet H4 D (.int (s0.b : Nat)) (valV kvs (.inl (s0.b : Int))) := DGet.k (k := .inl (s0.b : Int)) (z3 _ _ eD)
          have dge : DGet H4 D (.int (s0.e : Nat)) (valV kvs (.inl (s0.e : Int))) := DGet.k (k := .inl (s0.e : Int)) (z3 _ _ eD)
          rw [nd.kv.2, exb] at dgb
          rw [nd.kv.2, exe] at dge
          walk_at "go"
          refine ⟨D, _, rfl, dge, ?_⟩
          walk_at "go"
          refine ⟨D, _, rfl, dgb, ?_⟩
          walk_at "go"
          exact fin (xe - xb) (by rw [if_pos c, exb, exe]; rfl)
        · walk_at "go"
          exact fin s0.g (by rw [if_neg c])
      · rintro H3 ⟨z, vs, eL, hv⟩
        rw [elen, ← mendS_len (f := f) (qs := qs), List.take_length] at hv
        walk_at "go"
        refine ⟨L, vs, rfl, .inl ⟨SqL.of eL, fun r hr => ?_⟩⟩
        walk_at "go"
        have zz := z12.trans z
        exact ka c r _ (zz.trans (Same.new hr)) (free_of zz hr) ⟨vs, SqT.of upd_same, (Tups.new hr).steps hv⟩
    · walk_at "go"
      refine k_yes (decide_eq_true rfl) ?_
      walk_at "go"
      exact kb c H2 (z1.trans z2)
end
/-! ### mended refuses more than twelve steps, too; all its ways -/
def sp_mended_many (K : PySem.W.Frag) (C B : Addr) : Sp := fun vs H _ E => ∃ (x : Addr) (m : MD) (v : V), vs = [.ref x, v] ∧ MAt K C H x m ∧ m.Ok ∧ 12 < m.ss.length ∧ ∀ d H', Same H H' → H' d = some (.xd [("most", .int 12)]) → E (.ref B) (some d) H'
section
variable {P : Program} {w : World} {K : PySem.W.Frag} {mg : Str → Option Value} {base : Heap}
theorem ok_mended_many (T : Txt K mg) : FnOk P w K mg base (L2.CX P w) 9 T.a_mended T.fd_mended ["machine", "some"] (sp_mended_many K T.c_Machine T.c_TooMany) := by
  refine T.F_mended.okX sc_mended (fun vs H Q E h => ?_) (fun cdv A outer s H vs Q E hr h => ?_)
  · obtain ⟨x, m, v, rfl, _⟩ := h
    rfl
  · obtain ⟨x, m, v, rfl, hm, o, hl, k⟩ := h
    obtain ⟨dx, t, u, hx, hp0⟩ := id hm
    refine ⟨_, (pss_cons (ps_expr (pe_call (ok_check_machine T) (hr.mono (by decide)) (by rfl) T.m_check_machine T.k_check_machine T.b_check_machine .nil passL (pa_cons (pv 0) pa_nil)))
  (pss_cons (ps_expr (pe_callS (ok_check_steps_mends_bad T) (hr.mono (by decide)) (by rfl) T.m_check_steps_mends T.k_check_steps_mends T.b_check_steps_mends (fun σ => passAt (takes_of rfl rfl rfl rfl) σ) (pa_cons (pv 0) pa_nil)))
  (pss_cons (ps_if (pt_not (pt_val (pe_call (ok_is_ascending T) (hr.mono (by decide)) (by rfl) T.m_is_ascending T.k_is_ascending T.b_is_ascending .nil passL (pa_cons (pv 1) (pa_cons (pe_callB call_len_seq (by rfl) T.z_len PySem.boot_len (pa_cons (pe_prop (pv 0) T.cl_Machine T.p_steps (ok_Machine_steps T) (hr.mono (by decide)) T.b_Machine_steps .nil passL rfl) pa_nil)) pa_nil)))))
  (pss_one (ps_raise rfl (takes_of rfl rfl rfl rfl) (pmk_own PySem.F.excBase_ValueError T.x_BadSet T.m_BadSet T.k_BadSet (raises_own T.b_BadSet T.t_BadSet) (by exact rfl))))
  pss_nil)
  pss_any))), ?_⟩
    walk_at "begin"
    walk_at "go"
    refine ⟨x, dx, _, rfl, hx, ?_⟩
    walk_at "go"
    refine k_callS ?_
    walk_at "go"
    exact ⟨x, m, rfl, hm, o, .inr ⟨hl, k⟩⟩
def sp_mended_all (K : PySem.W.Frag) (C B S : Addr) : Sp := fun vs H Q E => sp_mended_many K C B vs H Q E ∨ sp_mended_odd K C S vs H Q E ∨ sp_mended_ok K C vs H Q E
theorem ok_mended_bad (T : Txt K mg) : FnOk P w K mg base (L2.CX P w) 9 T.a_mended T.fd_mended ["machine", "some"] (sp_mended_all K T.c_Machine T.c_TooMany T.c_BadSet) := FnOk.or (ok_mended_many T) (FnOk.or (ok_mended_odd T) (ok_mended_ok T))
theorem ok_mends_bad (T : Txt K mg) : FnOk P w K mg base (L2.CX P w) 9 T.a_mends T.fd_mends ["machine"] (sp_mends_many K T.c_Machine T.c_TooMany) := ok_mends_many T
/-- what the law's own try is called with -/
def sp_ref (K : PySem.W.Frag) (C : Addr) : Sp := fun vs H Q _ => ∃ (i : Int) (x : Addr) (m : MD) (v : V), vs = [.int i, .ref x, v] ∧ MAt K C H x m ∧ m.Ok ∧
  ((12 < m.ss.length ∧ ∀ p H', Same H H' → H' p = some (.lst [.int 12]) → Q (.ref p) H') ∨
   (i = 1 ∧ m.ss.length ≤ 12 ∧ OddSet K H (m.ss.length : Nat) v ∧ ∀ H', Same H H' → Q (.str "set") H') ∨
   (i = 1 ∧ m.ss.length ≤ 12 ∧ (∃ t, v = .ref t ∧ SqT K H t []) ∧ ∀ H', Same H H' → Q .non H'))
theorem ok_law_refused (T : Txt K mg) : FnOk P w K mg base (L2.CX P w) 11 T.a_law_refused T.fd_law_refused ["_law_kind", "_law_machine", "_law_some"] (sp_ref K T.c_Machine) := by
  refine T.F_law_refused.okX sc_law_refused (fun vs H Q E h => ?_) (fun cdv A outer s H vs Q E hr h => ?_)
  · obtain ⟨i, x, m, v, rfl, _⟩ := h
    rfl
  · obtain ⟨i, x, m, v, rfl, hm, o, h⟩ := h
    refine ⟨_, (PSs.nox (pss_cons (ps_set (i := 3) sc_law_refused.nd rfl (Or.inl rfl) pe_non)
  (pss_cons (ps_try_manyA rfl rfl takes0 (fun W pn xe tk _ => (pss_one (ps_if (pt_cmpR op_eq (pv 0) pe_int (nomark _))
  (pss_one (ps_expr (pe_callS (ok_mends_bad T) (hr.mono (by decide)) (by rfl) T.m_mends T.k_mends T.b_mends (fun σ => passAt tk σ) (pa_cons (pv 1) pa_nil))))
  (pss_one (ps_expr (pe_callS (ok_mended_bad T) (hr.mono (by decide)) (by rfl) T.m_mended T.k_mended T.b_mended (fun σ => passAt tk σ) (pa_cons (pv 1) (pa_cons (pv 2) pa_nil)))))))) (.consA (i := 4) sc_law_refused.nd rfl rfl ⟨rfl, by decide, .inl T.m_TooMany⟩ (fun a oe cls d pn hz hf => (pss_one (ps_set (i := 3) sc_law_refused.nd rfl (Or.inl rfl) (pe_lst (pa_cons (pe_xf T.xf_TooMany T.no_TooMany_most hz hf (pv 4)) pa_nil))))) (.cons ⟨rfl, by decide, .inl T.m_BadSet⟩ (fun a oe cls d pn hz hf => (pss_one (ps_set (i := 3) sc_law_refused.nd rfl (Or.inl rfl) pe_str))) .nil)))
  (pss_one (ps_ret (pv 3)))))), ?_⟩
    walk_at "begin"
    walk_at "go"
    rcases h with ⟨l, k⟩ | ⟨rfl, l, bad, k⟩ | ⟨rfl, l, ⟨t, rfl, ht⟩, k⟩
    · refine k_ite (fun c => ?_) (fun c => ?_)
      · walk_at "go"
        refine k_callS ?_
        walk_at "go"
        refine ⟨x, m, rfl, hm, o, l, fun d H6 z6 ed => ⟨true, T.e_TooMany, fun _ b hb => ?_, fun q => nomatch q⟩⟩
        dsimp only
        walk_at "go"
        refine k_xf ?_
        walk_at "go"
        refine ⟨rfl, rfl, d, _, _, rfl, ed, rfl, ?_⟩
        walk_at "go"
        refine ⟨(by decide : 1 ≤ sizeLine), fun q hq => ?_⟩
        walk_at "go"
        exact k q _ (z6.trans (Same.new hq)) upd_same
      · walk_at "go"
        refine k_callS ?_
        walk_at "go"
        refine .inl ⟨x, m, v, rfl, hm, o, l, fun d H6 z6 ed => ⟨true, T.e_TooMany, fun _ b hb => ?_, fun q => nomatch q⟩⟩
        dsimp only
        walk_at "go"
        refine k_xf ?_
        walk_at "go"
        refine ⟨rfl, rfl, d, _, _, rfl, ed, rfl, ?_⟩
        walk_at "go"
        refine ⟨(by decide : 1 ≤ sizeLine), fun q hq => ?_⟩
        walk_at "go"
        exact k q _ (z6.trans (Same.new hq)) upd_same
    · refine iteF ?_
      walk_at "go"
      refine k_callS ?_
      walk_at "go"
      refine .inr (.inl ⟨x, m, v, rfl, hm, o, l, bad, ⟨false, T.er_BadSet_TooMany, (fun q => nomatch q), fun _ => ⟨true, T.e_BadSet, fun _ b hb => ?_, fun q => nomatch q⟩⟩⟩)
      dsimp only
      walk_at "go"
      exact k _ (Same.refl _)
    · refine iteF ?_
      walk_at "go"
      refine k_callS ?_
      walk_at "go"
      refine .inr (.inr ⟨x, t, m, [], rfl, hm, o, l, ht, (fun q hq => by cases hq), .nil, fun ps pl => ⟨fun c r H' z hr' st => ?_, fun c H' z => ?_⟩⟩)
      · walk_at "go"
        exact k _ z
      · walk_at "go"
        exact k _ z
end
/-! ### tuples sliced and joined, the whole one among them -/
theorem k_slT {K : PySem.W.Frag} {H : Hp} {Q : VK} {a : Addr} {xs : List V} {lo hi : Option Int} (h : SqT K H a xs) (q : ∀ r H', Same H H' → SqT K H' r (cutV xs lo hi) → Q (.ref r) H') : rSlA K (.ref a) lo hi H Q := by
  refine ⟨a, xs, rfl, h, fun e => q a H (Same.refl _) ?_, fun _ p hp => q p _ (Same.new hp) (SqT.of upd_same)⟩
  have : cutV xs lo hi = xs := by
    unfold cutV
    rw [e.1, e.2, List.drop_zero, Nat.sub_zero, List.take_length]
  rw [this]
  exact h
theorem k_catT {K : PySem.W.Frag} {H : Hp} {Q : VK} {a b : Addr} {xs ys : List V} (ha : SqT K H a xs) (hb : SqT K H b ys) (l : xs.length + ys.length ≤ sizeLine) (q : ∀ r H', Same H H' → SqT K H' r (xs ++ ys) → Q (.ref r) H') : rCatA K (.ref a) (.ref b) H Q := by
  refine ⟨a, b, xs, ys, rfl, rfl, ha, hb, l, fun e => q b H (Same.refl _) (by rw [e]; exact hb), fun _ e => q a H (Same.refl _) (by rw [e, List.append_nil]; exact ha), fun _ _ p hp => q p _ (Same.new hp) (SqT.of upd_same)⟩
theorem cutV_drop (xs : List V) (k : Nat) : cutV xs (some ((k : Nat) : Int)) none = xs.drop k := by
  unfold cutV
  rw [HT.sIx_none, HT.sIx_nat]
  rcases Nat.le_total k xs.length with h | h
  · rw [Nat.min_eq_left h, List.take_of_length_le (by rw [List.length_drop]; exact Nat.le_refl _)]
  · rw [Nat.min_eq_right h, Nat.sub_self, List.take_zero, List.drop_eq_nil_of_le h]
theorem cutV_take (xs : List V) (k : Nat) : cutV xs none (some ((k : Nat) : Int)) = xs.take k := by
  unfold cutV
  rw [HT.sIx_none, HT.sIx_nat, List.drop_zero, Nat.sub_zero]
  rcases Nat.le_total k xs.length with h | h
  · rw [Nat.min_eq_left h]
  · rw [Nat.min_eq_right h, List.take_length, List.take_of_length_le h]
/-! ### the law -/
structure Drawn (i : Nat) (ss : List Stp) : Prop where
  ok : ∀ s ∈ ss, s.Ok 4
  up : ss.Pairwise Stp.lt
  lt : ∀ s ∈ ss, s.b < i
  len : ss.length = 4 * i
theorem Drawn.md {ss : List Stp} (h : Drawn 4 ss) (k : Nat) : (MD.mk 4 (ss.take k) []).Ok :=
  ⟨(by decide : 1 ≤ 4), (by decide : 4 ≤ 8), fun s hs => h.ok s (List.mem_of_mem_take hs), h.up.sublist (List.take_sublist ..), by
    show (ss.take k).length ≤ 32
    rw [List.length_take, h.len]; omega, (fun e he => by cases he), .nil, (by decide : 0 ≤ 8)⟩
theorem StpsAt.take {K : PySem.W.Frag} {H : Hp} {vs : List V} {ss : List Stp} (h : StpsAt K H vs ss) (k : Nat) : StpsAt K H (vs.take k) (ss.take k) := by
  refine ⟨by rw [List.length_take, List.length_take, h.1], fun i s e => ?_⟩
  rw [List.getElem?_take] at e
  split at e
  · rename_i c
    obtain ⟨p, a, b⟩ := h.2 i s e
    exact ⟨p, by rw [List.getElem?_take, if_pos c]; exact a, b⟩
  · cases e
theorem StpsAt.app {K : PySem.W.Frag} {H : Hp} {vs ws : List V} {ss ts : List Stp} (h : StpsAt K H vs ss) (g : StpsAt K H ws ts) : StpsAt K H (vs ++ ws) (ss ++ ts) := by
  refine ⟨by rw [List.length_append, List.length_append, h.1, g.1], fun i s e => ?_⟩
  by_cases c : i < ss.length
  · rw [List.getElem?_append_left c] at e
    obtain ⟨r, e1, q1⟩ := h.2 i s e
    exact ⟨r, by rw [List.getElem?_append_left (by rw [h.1]; exact c)]; exact e1, q1⟩
  · rw [List.getElem?_append_right (by omega)] at e
    obtain ⟨r, e1, q1⟩ := g.2 _ s e
    exact ⟨r, by rw [List.getElem?_append_right (by rw [h.1]; omega), h.1]; exact e1, q1⟩
/-- the steps of the stand i by the first j letters -/
structure Line (i j : Nat) (ss : List Stp) : Prop where
  ok : ∀ s ∈ ss, s.Ok 4
  up : ss.Pairwise Stp.lt
  at_ : ∀ s ∈ ss, s.b = i ∧ s.c < 97 + j
  len : ss.length = j
theorem Line.snoc {i j : Nat} {ss : List Stp} (h : Line i j ss) (i4 : i < 4) (j4 : j < 4) {e : Nat} (e4 : e < 4) {g : Int} (g1 : -2 ≤ g) (g2 : g ≤ 2) : Line i (j + 1) (ss ++ [⟨i, 97 + j, e, g⟩]) := by
  refine ⟨fun s hs => ?_, List.pairwise_append.mpr ⟨h.up, List.pairwise_singleton _ _, fun a ha b hb => ?_⟩, fun s hs => ?_, by rw [List.length_append, h.len]; rfl⟩
  · rcases List.mem_append.mp hs with hs | hs
    · exact h.ok s hs
    · rw [List.mem_singleton.mp hs]
      exact ⟨i4, by show 97 ≤ 97 + j; omega, by show 97 + j ≤ 100; omega, e4, by show _ ≤ g; omega, by show g ≤ _; omega⟩
  · rw [List.mem_singleton.mp hb]
    have := h.at_ a ha
    exact .inr ⟨this.1, this.2⟩
  · rcases List.mem_append.mp hs with hs | hs
    · have := h.at_ s hs; exact ⟨this.1, by omega⟩
    · rw [List.mem_singleton.mp hs]
      exact ⟨rfl, by show 97 + j < 97 + (j + 1); omega⟩
theorem Drawn.app {i : Nat} {ss ts : List Stp} (h : Drawn i ss) (g : Line i 4 ts) : Drawn (i + 1) (ss ++ ts) := by
  refine ⟨fun s hs => ?_, List.pairwise_append.mpr ⟨h.up, g.up, fun a ha b hb => ?_⟩, fun s hs => ?_, by rw [List.length_append, h.len, g.len]; omega⟩
  · rcases List.mem_append.mp hs with hs | hs
    · exact h.ok s hs
    · exact g.ok s hs
  · have := h.lt a ha
    have := (g.at_ b hb).1
    exact .inl (by omega)
  · rcases List.mem_append.mp hs with hs | hs
    · have := h.lt s hs; omega
    · have := (g.at_ s hs).1; omega
theorem abcd_at4 {j c : Nat} (h : (Str.ofString "abcd").cps[j]? = some c) : c = 97 + j ∧ j < 4 := by
  have e : (Str.ofString "abcd").cps = ([97, 98, 99, 100] : List Nat).toArray := by decide +kernel
  rw [e, List.getElem?_toArray] at h
  match j, h with
  | 0, h => simp at h; omega
  | 1, h => simp at h; omega
  | 2, h => simp at h; omega
  | 3, h => simp at h; omega
  | n + 4, h => simp at h
theorem ni_non {K : PySem.W.Frag} {H : Hp} : NotInt K H .non := .inr ⟨_, .base .non, kit_ty (b := "int") (r := false) (by decide +kernel)⟩
theorem ni_str {K : PySem.W.Frag} {H : Hp} {z : Str} : NotInt K H (.str z) := .inr ⟨_, .base (.str _), kit_ty (b := "int") (r := false) (by decide +kernel)⟩
theorem k_sliceL {H : Hp} {Q : VK} {a : Addr} {xs : List V} {lo hi : Option Int} (h : H a = some (.lst xs)) (q : ∀ p, H p = none → Q (.ref p) (upd H p (.lst (cutV xs lo hi)))) : rSlL K (.ref a) lo hi H Q := ⟨a, xs, rfl, SqL.of h, q⟩
theorem mach_made {K : PySem.W.Frag} {C l p1 q e x dx : Addr} {us : List V} {ss : List Stp} {k : Nat} {H5 H8 : Hp} (hs : StpsAt K H5 us ss) (hp1 : H5 p1 = none) (hq : (upd H5 p1 (.lst (us.take k))) q = none) (he : (upd (upd H5 p1 (.lst (us.take k))) q (.tup (us.take k))) e = none)
    (e8 : H8 = upd (upd (upd H5 p1 (.lst (us.take k))) q (.tup (us.take k))) e (.tup [])) (hx : H8 x = none) (hdx : H8 dx = none) (ne : dx ≠ x) :
    PartsAt K (upd (upd H8 dx (.own x)) x (.ins C dx [])) q e ⟨4, ss.take k, []⟩ ∧ ∀ H10, Keep x (upd (upd H8 dx (.own x)) x (.ins C dx [])) H10 → H10 x = some (.ins C dx (mfs 4 q e)) → Same H5 H10 ∧ MAt K C H10 x ⟨4, ss.take k, []⟩ := by
  have z3 : Same H5 H8 := by rw [e8]; exact ((Same.new hp1).trans (Same.new hq)).trans (Same.new he)
  have q8 : SqT K H8 q (us.take k) := by rw [e8]; exact SqT.of (Same.new he _ _ upd_same)
  have e8' : SqT K H8 e [] := by rw [e8]; exact SqT.of upd_same
  have z4 : Same H8 (upd (upd H8 dx (.own x)) x (.ins C dx [])) := (Same.new hdx).trans (Same.new (by rw [upd_ne ne.symm]; exact hx))
  have P8 : PartsAt K H8 q e ⟨4, ss.take k, []⟩ := ⟨⟨us.take k, q8, (same_tups z3).steps (hs.take k)⟩, e8'⟩
  refine ⟨(same_tups z4).parts P8, fun H10 k10 e10 => ?_⟩
  have z5 : Same H8 H10 := fun b ob e => k10 b ob (ne_of_none e hx) (z4 _ _ e)
  exact ⟨z3.trans z5, dx, q, e, e10, (same_tups z5).parts P8⟩
def sp_law (K : PySem.W.Frag) : Sp := fun vs H Q _ => ∃ (sc : Addr) (ns : List Int), vs = [.ref sc] ∧ ScAt K H sc (ns.map V.int) ∧ ns.length ≤ 63 ∧ ∀ H', Q (.bl true) H'
section
variable {P : Program} {w : World} {K : PySem.W.Frag} {mg : Str → Option Value} {base : Heap}
theorem ok_law (T : Txt K mg) : FnOk P w K mg base (L2.CX P w) 20 T.a_law T.fd_law ["_law_script"] (sp_law K) := by
  refine T.F_law.okX sc_law (fun vs H Q E h => ?_) (fun cdv A outer s H vs Q E hr h => ?_)
  · obtain ⟨sc, ns, rfl, _⟩ := h
    rfl
  · obtain ⟨sc, ns, rfl, hsc, hns, k⟩ := h
    refine ⟨_, (PSs.nox (pss_cons (ps_set (i := 1) sc_law.nd rfl (Or.inr rfl) (pe_lst (pa_cons (pv 0) (pa_cons pe_int (pa_cons pe_int (pa_cons pe_int pa_nil))))))
  (pss_cons (ps_for PassesOwn.never rfl (pi_range1 (by rfl) T.z_range (pa_cons pe_int pa_nil)) (pg_name (i := 2) sc_law.nd rfl (Or.inl rfl))
  (pss_cons (ps_set (i := 3) sc_law.nd rfl (Or.inl rfl) (pe_lst pa_nil))
  (pss_cons (ps_for PassesOwn.never rfl (pi_range1 (by rfl) T.z_range (pa_cons pe_int pa_nil)) (pg_name (i := 4) sc_law.nd rfl (Or.inr rfl))
  (pss_one (ps_set (i := 3) sc_law.nd rfl (Or.inl rfl) (pe_op op_cat (pv 3) (pe_lc (own := [("_law_letter", 8)]) (g := (gName 8)) (tt := tYes) rfl sc_law.nd (pi_str pe_str) (blkOk_by (own := [("_law_letter", 8)]) (N := ["_law_script", "_law_row", "_law_turn", "_law_steps", "_law_begun", "_law_many", "_law_machine", "_law_bad", "_law_letter"]) (sc := defScope s_law) (by decide +kernel)) (fun _ _ _ _ _ => (pg_name (i := 8) sc_law.nd rfl (Or.inl rfl))) (fun _ _ _ _ _ => pts_nil) (fun _ _ _ _ _ => (pe_tup (pa_cons (pv 4) (pa_cons (pv 8) (pa_cons (pe_call (ok_law_taken T) (hr.mono (by decide)) (by rfl) T.m_law_taken T.k_law_taken T.b_law_taken .nil passL (pa_cons (pv 1) (pa_cons pe_int pa_nil))) (pa_cons (pe_op op_sub (pe_call (ok_law_taken T) (hr.mono (by decide)) (by rfl) T.m_law_taken T.k_law_taken T.b_law_taken .nil passL (pa_cons (pv 1) (pa_cons pe_int pa_nil))) pe_int) pa_nil)))))))))))
  (pss_cons (ps_set (i := 5) sc_law.nd rfl (Or.inl rfl) (pe_op op_add pe_int (pe_call (ok_law_taken T) (hr.mono (by decide)) (by rfl) T.m_law_taken T.k_law_taken T.b_law_taken .nil passL (pa_cons (pv 1) (pa_cons pe_int pa_nil)))))
  (pss_cons (ps_if (pt_cmpR (op_neD hr.units) (pe_call (ok_law_refused T) (hr.mono (by decide)) (by rfl) T.m_law_refused T.k_law_refused T.b_law_refused .nil passL (pa_cons (pe_call (ok_law_taken T) (hr.mono (by decide)) (by rfl) T.m_law_taken T.k_law_taken T.b_law_taken .nil passL (pa_cons (pv 1) (pa_cons pe_int pa_nil))) (pa_cons (pe_make T.mk_Machine (ok_Machine_init T) (hr.mono (by decide)) (by rfl) T.m_Machine T.b_Machine_init .nil passL (pa_cons pe_int (pa_cons (pe_callTy call_tuple_of (by rfl) T.z_tuple PySem.Pv.boot_tuple (pa_cons (pe_slice sl_list (pv 3) po_none (po_some (pv 5))) pa_nil)) (pa_cons (pe_tup pa_nil) pa_nil)))) (pa_cons pe_non pa_nil)))) (pe_lst (pa_cons pe_int pa_nil)) (nomark _))
  (pss_one (ps_ret pe_bl))
  pss_nil)
  (pss_cons (ps_set (i := 5) sc_law.nd rfl (Or.inl rfl) (pe_op op_add pe_int (pe_call (ok_law_taken T) (hr.mono (by decide)) (by rfl) T.m_law_taken T.k_law_taken T.b_law_taken .nil passL (pa_cons (pv 1) (pa_cons pe_int pa_nil)))))
  (pss_cons (ps_set (i := 6) sc_law.nd rfl (Or.inl rfl) (pe_make T.mk_Machine (ok_Machine_init T) (hr.mono (by decide)) (by rfl) T.m_Machine T.b_Machine_init .nil passL (pa_cons pe_int (pa_cons (pe_callTy call_tuple_of (by rfl) T.z_tuple PySem.Pv.boot_tuple (pa_cons (pe_slice sl_list (pv 3) po_none (po_some (pv 5))) pa_nil)) (pa_cons (pe_tup pa_nil) pa_nil)))))
  (pss_cons (ps_set (i := 7) sc_law.nd rfl (Or.inl rfl) (pe_ix ix_list (pe_lst (pa_cons pe_non (pa_cons pe_int (pa_cons (pe_lst (pa_cons pe_int pa_nil)) (pa_cons (pe_tup (pa_cons (pv 5) pa_nil)) (pa_cons (pe_tup (pa_cons (pe_un un_neg pe_int) pa_nil)) (pa_cons (pe_tup (pa_cons pe_int (pa_cons pe_int pa_nil))) (pa_cons (pe_tup (pa_cons pe_bl pa_nil)) (pa_cons (pe_tup (pa_cons pe_str pa_nil)) (pa_cons (pe_tup (pa_cons pe_int (pa_cons (pv 5) pa_nil))) (pa_cons (pe_tup (pa_cons pe_int (pa_cons pe_non pa_nil))) (pa_cons pe_dnewK pa_nil)))))))))))) (pe_call (ok_law_taken T) (hr.mono (by decide)) (by rfl) T.m_law_taken T.k_law_taken T.b_law_taken .nil passL (pa_cons (pv 1) (pa_cons pe_int pa_nil))) (fun _ _ => rfl)))
  (pss_one (ps_if (PW.pt (pw_or (pt_cmpR op_ne (pe_call (ok_law_refused T) (hr.mono (by decide)) (by rfl) T.m_law_refused T.k_law_refused T.b_law_refused .nil passL (pa_cons pe_int (pa_cons (pv 6) (pa_cons (pv 7) pa_nil)))) pe_str (nomark _)) (pw_or1 (pt_cmp (pc_notN (pe_call (ok_law_refused T) (hr.mono (by decide)) (by rfl) T.m_law_refused T.k_law_refused T.b_law_refused .nil passL (pa_cons pe_int (pa_cons (pv 6) (pa_cons (pe_tup pa_nil) pa_nil)))))))))
  (pss_one (ps_ret pe_bl))
  pss_nil))))))))))
  (pss_one (ps_ret pe_bl))))), ?_⟩
    walk_at "begin"
    walk_at "go"
    refine ⟨(by decide : 4 ≤ sizeLine), fun a ha => ?_⟩
    have R1 : RowOk K (upd H a (.lst [.ref sc, .int 0, .int 226, .int 0])) a := ⟨sc, ns, 0, 226, 0, upd_same, hsc.same (Same.new ha), hns, by decide, by decide, by decide⟩
    generalize upd H a (.lst [.ref sc, .int 0, .int 226, .int 0]) = H1 at R1 ⊢
    walk_at "go"
    refine k_rg (by decide) (by decide) ?_
    refine for_range (lo := 0) (n := 4) (fun i σ H' => ∃ b2 b3 b4 b5 b6 b7, RowOk K H' a ∧ σ = [some (.ref sc), some (.ref a), b2, b3, b4, b5, b6, b7, none]) ⟨_, _, _, _, _, _, R1, rfl⟩ ?_ ?_
    · rintro it σ H2 hi ⟨b2, b3, b4, b5, b6, b7, R2, rfl⟩
      walk_at "go"
      refine ⟨(by decide : 0 ≤ sizeLine), fun l0 hl0 => ?_⟩
      walk_at "go"
      refine k_rg (by decide) (by decide) ?_
      refine for_range (lo := 0) (n := 4) (fun i σ H' => ∃ l us ss b4, l ≠ a ∧ RowOk K H' a ∧ H' l = some (.lst us) ∧ StpsAt K H' us ss ∧ Drawn i ss ∧ σ = [some (.ref sc), some (.ref a), some (.int (0 + (it : Nat))), some (.ref l), b4, b5, b6, b7, none])
        ⟨l0, [], [], _, (R2.ne hl0).symm, R2.same (Same.new hl0), upd_same, ⟨rfl, fun i s e => by simp at e⟩, ⟨(fun s h => by cases h), .nil, (fun s h => by cases h), rfl⟩, rfl⟩ ?_ ?_
      · rintro i σ H3 i4 ⟨l, us, ss, b4, nla, R3, el, hs, dr, rfl⟩
        walk_at "go"
        have z0 : (0 + (i : Nat) : Int) = ((i : Nat) : Int) := by omega
        rw [z0]
        refine ⟨_, rfl, fun D hD => ?_⟩
        have nDa := R3.ne hD
        have nDl : l ≠ D := ne_of_none el hD
        refine lc_it walk_str (fun j H' => ∃ vs ts, RowOk K H' a ∧ H' l = some (.lst us) ∧ StpsAt K H' us ss ∧ H' D = some (.lst vs) ∧ StpsAt K H' vs ts ∧ Line i j ts)
          ⟨[], [], R3.same (Same.new hD), by rw [upd_ne nDl]; exact el, (Tups.new hD).steps hs, upd_same, ⟨rfl, fun i s e => by simp at e⟩, ⟨(fun s h => by cases h), .nil, (fun s h => by cases h), rfl⟩⟩ (fun _ _ _ _ => trivial) ?_ ?_
        · rintro j y H4 H4' hj ⟨vs, ts, R4, el4, hs4, eD4, ht4, ln⟩ ⟨rfl, c, hc, rfl⟩
          obtain ⟨rfl, j4⟩ := abcd_at4 hc
          walk_at "go"
          refine ⟨rfl, ?_⟩
          walk_at "go"
          refine iteT ?_
          walk_at "go"
          refine ⟨a, 4, rfl, by decide, by decide, R4, fun x H5 x0 x4 R5 K5 => ?_⟩
          obtain ⟨lr4, er4⟩ := R4.lst
          obtain ⟨e, rfl⟩ := Int.eq_ofNat_of_zero_le x0
          walk_at "go"
          refine ⟨a, 5, rfl, by decide, by decide, R5, fun g H6 g0 g5 R6 K6 => ?_⟩
          walk_at "go"
          have K46 := K5.trans K6
          have t6 := K46.tups er4
          have el6 := K46 _ _ nla el4
          have eD6 := K46 _ _ nDa.symm eD4
          refine ⟨(by decide : 4 ≤ sizeLine), fun q hq => ?_⟩
          have nDq : D ≠ q := ne_of_none eD6 hq
          have eD7 : (upd H6 q (.tup [.int (i : Nat), .str ⟨#[97 + j]⟩, .int (e : Nat), .int (g - 2)])) D = some (.lst vs) := by rw [upd_ne nDq]; exact eD6
          have el7 : (upd H6 q (.tup [.int (i : Nat), .str ⟨#[97 + j]⟩, .int (e : Nat), .int (g - 2)])) l = some (.lst us) := by rw [upd_ne (ne_of_none el6 hq)]; exact el6
          have R7 := R6.same (Same.new (o := .tup [.int (i : Nat), .str ⟨#[97 + j]⟩, .int (e : Nat), .int (g - 2)]) hq)
          have t7 : Tups H6 (upd H6 q (.tup [.int (i : Nat), .str ⟨#[97 + j]⟩, .int (e : Nat), .int (g - 2)])) := Tups.new hq
          have hq7 := SqT.of (K := K) (upd_same (H := H6) (a := q) (o := .tup [.int (i : Nat), .str ⟨#[97 + j]⟩, .int (e : Nat), .int (g - 2)]))
          generalize upd H6 q (.tup [.int (i : Nat), .str ⟨#[97 + j]⟩, .int (e : Nat), .int (g - 2)]) = H7 at eD7 el7 R7 t7 hq7 ⊢
          have t4 := t6.trans t7
          refine ⟨vs, eD7, by rw [ht4.1, ln.len]; exact Nat.lt_trans j4 (by decide), vs ++ [.ref q], ts ++ [⟨i, 97 + j, e, g - 2⟩], R7.keep nDa eD7 Keep.at_, by rw [upd_ne nDl]; exact el7, (Tups.lst eD7).steps (t4.steps hs4), upd_same, (Tups.lst eD7).steps ((t4.steps ht4).snoc hq7), ln.snoc i4 j4 (by omega) (by omega) (by omega)⟩
        · rintro H4 ⟨vs, ts, R4, el4, hs4, eD4, ht4, ln⟩
          walk_at "go"
          have ln' : Line i 4 ts := ln
          refine ⟨l, D, us, vs, rfl, rfl, el4, eD4, ?_, fun p hp => ?_⟩
          · rw [hs4.1, ht4.1, dr.len, ln'.len]
            exact Nat.le_trans (show 4 * i + 4 ≤ 16 by omega) (by decide)
          walk_at "go"
          exact ⟨p, us ++ vs, ss ++ ts, _, (R4.ne hp).symm, R4.same (Same.new hp), upd_same, (Tups.new hp).steps (hs4.app ht4), dr.app ln', rfl⟩
      · rintro σ H3 ⟨l, us, ss, b4, nla, R3, el, hs, dr, rfl⟩
        have lus : us.length = 16 := by rw [hs.1, dr.len]
        -- a machine of the first so many steps
        walk_at "go"
        refine ⟨a, 4, rfl, by decide, by decide, R3, fun x H4 x0 x4 R4 K4 => ?_⟩
        obtain ⟨lr3, er3⟩ := R3.lst
        have el4 := K4 _ _ nla el
        have hs4 := (K4.tups er3).steps hs
        walk_at "go"
        refine ⟨a, 2, rfl, by decide, by decide, R4, fun y H5 y0 y2 R5 K5 => ?_⟩
        obtain ⟨lr4, er4⟩ := R4.lst
        have el5 := K5 _ _ nla el4
        have hs5 := (K5.tups er4).steps hs4
        clear K4 K5 er3 er4 R4 R3 el el4 hs hs4
        walk_at "go"
        obtain ⟨n, rfl⟩ := Int.eq_ofNat_of_zero_le x0
        have n4 : n < 4 := by omega
        have en : (13 + (n : Int)) = ((13 + n : Nat) : Int) := by omega
        rw [en]
        refine k_sliceL el5 fun p1 hp1 => ?_
        rw [cutV_take]
        walk_at "go"
        refine ⟨p1, _, rfl, .inl ⟨SqL.of upd_same, fun q hq => ?_⟩⟩
        walk_at "go"
        refine ⟨(by decide : 0 ≤ sizeLine), fun e he => ?_⟩
        walk_at "go"
        intro x dx hx hdx ne
        obtain ⟨M1, M2⟩ := mach_made (C := T.c_Machine) (l := l) hs5 hp1 hq he rfl hx hdx ne
        refine ⟨x, dx, q, e, MD.mk 4 (ss.take (13 + n)) [], rfl, upd_same, M1, dr.md _, fun H6 k6 e6 => ⟨rfl, ?_⟩⟩
        obtain ⟨z6, hm6⟩ := M2 H6 k6 e6
        clear M1 M2 k6 e6 hx hdx ne he hq hp1
        walk_at "go"
        refine ⟨y, x, _, .non, rfl, hm6, dr.md _, .inl ⟨?_, fun p H7 z7 e7 => ?_⟩⟩
        · show 12 < (ss.take (13 + n)).length
          rw [List.length_take, dr.len]; omega
        walk_at "go"
        refine ⟨(by decide : 1 ≤ sizeLine), fun b hb => ?_⟩
        have zb := Same.new (o := .lst [V.int 12]) hb
        refine k_neD (Dp.lst (SqL.of (zb _ _ e7)) (.cons (.int _) .nil)) (Dp.lst (SqL.of upd_same) (.cons (.int _) .nil)) rfl rfl ?_
        rw [SeqAt.eqv_refl _ rfl]
        walk_at "go"
        refine iteF ?_
        have z58 := (z6.trans z7).trans zb
        have R8 := R5.same z58
        have el8 := z58 _ _ el5
        have hs8 := (same_tups z58).steps hs5
        generalize upd H7 b (.lst [V.int 12]) = H8 at R8 el8 hs8 ⊢
        clear z58 zb z7 e7 hb z6 hm6 R5 el5 hs5 y0 y2 x0 x4 n4 en
        -- fewer steps
        walk_at "go"
        refine ⟨a, 12, rfl, by decide, by decide, R8, fun x H9 x0 x4 R9 K9 => ?_⟩
        obtain ⟨lr8, er8⟩ := R8.lst
        have el9 := K9 _ _ nla el8
        have hs9 := (K9.tups er8).steps hs8
        clear K9 er8 R8 el8 hs8
        walk_at "go"
        obtain ⟨n, rfl⟩ := Int.eq_ofNat_of_zero_le x0
        have en : (1 + (n : Int)) = ((1 + n : Nat) : Int) := by omega
        rw [en]
        refine k_sliceL el9 fun p1 hp1 => ?_
        rw [cutV_take]
        walk_at "go"
        refine ⟨p1, _, rfl, .inl ⟨SqL.of upd_same, fun q hq => ?_⟩⟩
        walk_at "go"
        refine ⟨(by decide : 0 ≤ sizeLine), fun e he => ?_⟩
        walk_at "go"
        intro x dx hx hdx ne
        obtain ⟨M1, M2⟩ := mach_made (C := T.c_Machine) (l := l) hs9 hp1 hq he rfl hx hdx ne
        refine ⟨x, dx, q, e, MD.mk 4 (ss.take (1 + n)) [], rfl, upd_same, M1, dr.md _, fun H10 k10 e10 => ⟨rfl, ?_⟩⟩
        obtain ⟨z10, hm10⟩ := M2 H10 k10 e10
        have R10 := R9.same z10
        have lm : (ss.take (1 + n)).length = 1 + n := by rw [List.length_take, dr.len]; omega
        have om := dr.md (1 + n)
        generalize hM : MD.mk 4 (ss.take (1 + n)) [] = m at hm10 om ⊢
        have lm : m.ss.length = 1 + n := by rw [← hM]; exact lm
        clear M1 M2 k10 e10 hx hdx ne he hq hp1 hM z10 R9 el9 hs9 dr lus
        obtain ⟨mm, emm⟩ : ∃ mm : Int, mm = ((1 + n : Nat) : Int) := ⟨_, rfl⟩
        rw [← emm]
        walk_at "go"
        refine ⟨(by decide : 1 ≤ sizeLine), fun r1 hr1 => ?_⟩
        have zr1 := Same.new (o := .lst [V.int 0]) hr1
        have er1 := upd_same (H := H10) (a := r1) (o := .lst [V.int 0])
        have nr1 := R10.ne hr1
        have R11 := R10.same zr1
        have hm11 := hm10.same zr1
        generalize upd H10 r1 (.lst [V.int 0]) = H11 at zr1 er1 R11 hm11 ⊢
        clear zr1 hr1 R10 hm10
        walk_at "go"
        refine ⟨(by decide : 1 ≤ sizeLine), fun r2 hr2 => ?_⟩
        have zr2 := Same.new (o := .tup [V.int mm]) hr2
        have er2 := upd_same (H := H11) (a := r2) (o := .tup [V.int mm])
        have nr2 := R11.ne hr2
        have R12 := R11.same zr2
        have hm12 := hm11.same zr2
        generalize upd H11 r2 (.tup [V.int mm]) = H12 at zr2 er2 R12 hm12 ⊢
        have er1 := zr2 _ _ er1
        clear zr2 hr2 R11 hm11
        walk_at "go"
        refine ⟨(by decide : 1 ≤ sizeLine), fun r3 hr3 => ?_⟩
        have zr3 := Same.new (o := .tup [V.int (-1)]) hr3
        have er3 := upd_same (H := H12) (a := r3) (o := .tup [V.int (-1)])
        have nr3 := R12.ne hr3
        have R13 := R12.same zr3
        have hm13 := hm12.same zr3
        generalize upd H12 r3 (.tup [V.int (-1)]) = H13 at zr3 er3 R13 hm13 ⊢
        have er1 := zr3 _ _ er1
        have er2 := zr3 _ _ er2
        clear zr3 hr3 R12 hm12
        walk_at "go"
        refine ⟨(by decide : 2 ≤ sizeLine), fun r4 hr4 => ?_⟩
        have zr4 := Same.new (o := .tup [V.int 0, V.int 0]) hr4
        have er4 := upd_same (H := H13) (a := r4) (o := .tup [V.int 0, V.int 0])
        have nr4 := R13.ne hr4
        have R14 := R13.same zr4
        have hm14 := hm13.same zr4
        generalize upd H13 r4 (.tup [V.int 0, V.int 0]) = H14 at zr4 er4 R14 hm14 ⊢
        have er1 := zr4 _ _ er1
        have er2 := zr4 _ _ er2
        have er3 := zr4 _ _ er3
        clear zr4 hr4 R13 hm13
        walk_at "go"
        refine ⟨(by decide : 1 ≤ sizeLine), fun r5 hr5 => ?_⟩
        have zr5 := Same.new (o := .tup [V.bl true]) hr5
        have er5 := upd_same (H := H14) (a := r5) (o := .tup [V.bl true])
        have nr5 := R14.ne hr5
        have R15 := R14.same zr5
        have hm15 := hm14.same zr5
        generalize upd H14 r5 (.tup [V.bl true]) = H15 at zr5 er5 R15 hm15 ⊢
        have er1 := zr5 _ _ er1
        have er2 := zr5 _ _ er2
        have er3 := zr5 _ _ er3
        have er4 := zr5 _ _ er4
        clear zr5 hr5 R14 hm14
        walk_at "go"
        refine ⟨(by decide : 1 ≤ sizeLine), fun r6 hr6 => ?_⟩
        have zr6 := Same.new (o := .tup [V.str "0"]) hr6
        have er6 := upd_same (H := H15) (a := r6) (o := .tup [V.str "0"])
        have nr6 := R15.ne hr6
        have R16 := R15.same zr6
        have hm16 := hm15.same zr6
        generalize upd H15 r6 (.tup [V.str "0"]) = H16 at zr6 er6 R16 hm16 ⊢
        have er1 := zr6 _ _ er1
        have er2 := zr6 _ _ er2
        have er3 := zr6 _ _ er3
        have er4 := zr6 _ _ er4
        have er5 := zr6 _ _ er5
        clear zr6 hr6 R15 hm15
        walk_at "go"
        refine ⟨(by decide : 2 ≤ sizeLine), fun r7 hr7 => ?_⟩
        have zr7 := Same.new (o := .tup [V.int 0, V.int mm]) hr7
        have er7 := upd_same (H := H16) (a := r7) (o := .tup [V.int 0, V.int mm])
        have nr7 := R16.ne hr7
        have R17 := R16.same zr7
        have hm17 := hm16.same zr7
        generalize upd H16 r7 (.tup [V.int 0, V.int mm]) = H17 at zr7 er7 R17 hm17 ⊢
        have er1 := zr7 _ _ er1
        have er2 := zr7 _ _ er2
        have er3 := zr7 _ _ er3
        have er4 := zr7 _ _ er4
        have er5 := zr7 _ _ er5
        have er6 := zr7 _ _ er6
        clear zr7 hr7 R16 hm16
        walk_at "go"
        refine ⟨(by decide : 2 ≤ sizeLine), fun r8 hr8 => ?_⟩
        have zr8 := Same.new (o := .tup [V.int 0, V.non]) hr8
        have er8 := upd_same (H := H17) (a := r8) (o := .tup [V.int 0, V.non])
        have nr8 := R17.ne hr8
        have R18 := R17.same zr8
        have hm18 := hm17.same zr8
        generalize upd H17 r8 (.tup [V.int 0, V.non]) = H18 at zr8 er8 R18 hm18 ⊢
        have er1 := zr8 _ _ er1
        have er2 := zr8 _ _ er2
        have er3 := zr8 _ _ er3
        have er4 := zr8 _ _ er4
        have er5 := zr8 _ _ er5
        have er6 := zr8 _ _ er6
        have er7 := zr8 _ _ er7
        clear zr8 hr8 R17 hm17
        walk_at "go"
        intro r9 hr9
        have zr9 := Same.new (o := .dK []) hr9
        have er9 := upd_same (H := H18) (a := r9) (o := .dK [])
        have nr9 := R18.ne hr9
        have R19 := R18.same zr9
        have hm19 := hm18.same zr9
        generalize upd H18 r9 (.dK []) = H19 at zr9 er9 R19 hm19 ⊢
        have er1 := zr9 _ _ er1
        have er2 := zr9 _ _ er2
        have er3 := zr9 _ _ er3
        have er4 := zr9 _ _ er4
        have er5 := zr9 _ _ er5
        have er6 := zr9 _ _ er6
        have er7 := zr9 _ _ er7
        have er8 := zr9 _ _ er8
        clear zr9 hr9 R18 hm18
        walk_at "go"
        refine ⟨(by decide : 11 ≤ sizeLine), fun L hL => ?_⟩
        have zL := Same.new (o := .lst [V.non, .int 0, .ref r1, .ref r2, .ref r3, .ref r4, .ref r5, .ref r6, .ref r7, .ref r8, .ref r9]) hL
        have eL := upd_same (H := H19) (a := L) (o := .lst [V.non, .int 0, .ref r1, .ref r2, .ref r3, .ref r4, .ref r5, .ref r6, .ref r7, .ref r8, .ref r9])
        have nL := R19.ne hL
        have R20 := R19.same zL
        have hm20 := hm19.same zL
        generalize upd H19 L (.lst [V.non, .int 0, .ref r1, .ref r2, .ref r3, .ref r4, .ref r5, .ref r6, .ref r7, .ref r8, .ref r9]) = H20 at zL eL R20 hm20 ⊢
        have er1 := zL _ _ er1
        have er2 := zL _ _ er2
        have er3 := zL _ _ er3
        have er4 := zL _ _ er4
        have er5 := zL _ _ er5
        have er6 := zL _ _ er6
        have er7 := zL _ _ er7
        have er8 := zL _ _ er8
        have er9 := zL _ _ er9
        walk_at "go"
        refine ⟨a, 11, rfl, by decide, by decide, R20, fun b H21 b0 b11 R21 K21 => ?_⟩
        obtain ⟨lr20, er20⟩ := R20.lst
        have hm21 := hm20.keep K21 er20
        have er1 := K21 _ _ nr1.symm er1
        have er2 := K21 _ _ nr2.symm er2
        have er3 := K21 _ _ nr3.symm er3
        have er4 := K21 _ _ nr4.symm er4
        have er5 := K21 _ _ nr5.symm er5
        have er6 := K21 _ _ nr6.symm er6
        have er7 := K21 _ _ nr7.symm er7
        have er8 := K21 _ _ nr8.symm er8
        have er9 := K21 _ _ nr9.symm er9
        have odd : ∃ v, atI [V.non, .int 0, .ref r1, .ref r2, .ref r3, .ref r4, .ref r5, .ref r6, .ref r7, .ref r8, .ref r9] b = some v ∧ OddSet K H21 (m.ss.length : Nat) v := by
          have h : b = 0 ∨ b = 1 ∨ b = 2 ∨ b = 3 ∨ b = 4 ∨ b = 5 ∨ b = 6 ∨ b = 7 ∨ b = 8 ∨ b = 9 ∨ b = 10 := by omega
          have em : ((m.ss.length : Nat) : Int) = mm := by rw [emm, lm]
          have m1 : 1 ≤ mm := by omega
          rw [em]
          rcases h with rfl | rfl | rfl | rfl | rfl | rfl | rfl | rfl | rfl | rfl | rfl
          · exact ⟨_, rfl, .inl ⟨_, .base .non, kit_ty (b := "tuple") (r := false) (by decide +kernel)⟩⟩
          · exact ⟨_, rfl, .inl ⟨_, .base (.int _), kit_ty (b := "tuple") (r := false) (by decide +kernel)⟩⟩
          · exact ⟨_, rfl, .inl ⟨_, .base (.lst er1), kit_ty (b := "tuple") (r := false) (by decide +kernel)⟩⟩
          · refine ⟨_, rfl, .inr ⟨_, _, rfl, SqT.of er2, fun x hx => .inl ⟨_, List.mem_singleton.mp hx⟩, ?_⟩⟩
            show (decide (0 ≤ mm ∧ mm ≤ mm - 1) && _) = false
            rw [decide_eq_false (by omega)]
            rfl
          · exact ⟨_, rfl, .inr ⟨_, _, rfl, SqT.of er3, fun x hx => .inl ⟨_, List.mem_singleton.mp hx⟩, rfl⟩⟩
          · refine ⟨_, rfl, .inr ⟨_, _, rfl, SqT.of er4, fun x hx => .inl ⟨0, by simpa using hx⟩, ?_⟩⟩
            show (decide (0 ≤ (0 : Int) ∧ (0 : Int) ≤ mm - 1) && (decide ((0 : Int) + 1 ≤ 0 ∧ (0 : Int) ≤ mm - 1) && true)) = false
            rw [decide_eq_false (show ¬ ((0 : Int) + 1 ≤ 0 ∧ (0 : Int) ≤ mm - 1) by omega)]
            exact Bool.and_false _
          · exact ⟨_, rfl, .inr ⟨_, _, rfl, SqT.of er5, fun x hx => .inr (by rw [List.mem_singleton.mp hx]; exact ⟨.inl ⟨_, rfl⟩, fun j z => by cases z⟩), rfl⟩⟩
          · exact ⟨_, rfl, .inr ⟨_, _, rfl, SqT.of er6, fun x hx => .inr (by rw [List.mem_singleton.mp hx]; exact ⟨ni_str, fun j z => by cases z⟩), rfl⟩⟩
          · refine ⟨_, rfl, .inr ⟨_, _, rfl, SqT.of er7, fun x hx => .inl (by
              rcases List.mem_cons.mp hx with rfl | hx
              · exact ⟨_, rfl⟩
              · exact ⟨_, List.mem_singleton.mp hx⟩), ?_⟩⟩
            show (decide (0 ≤ (0 : Int) ∧ (0 : Int) ≤ mm - 1) && (decide ((0 : Int) + 1 ≤ mm ∧ mm ≤ mm - 1) && true)) = false
            rw [decide_eq_false (show ¬ ((0 : Int) + 1 ≤ mm ∧ mm ≤ mm - 1) by omega)]
            exact Bool.and_false _
          · refine ⟨_, rfl, .inr ⟨_, _, rfl, SqT.of er8, fun x hx => ?_, ?_⟩⟩
            · rcases List.mem_cons.mp hx with rfl | hx
              · exact .inl ⟨_, rfl⟩
              · rw [List.mem_singleton.mp hx]
                exact .inr ⟨ni_non, fun j z => by cases z⟩
            · exact Bool.and_false _
          · exact ⟨_, rfl, .inl ⟨_, .base (.dK er9), kit_ty (b := "tuple") (r := false) (by decide +kernel)⟩⟩
        obtain ⟨v, ev, ov⟩ := odd
        refine k_ixL (SqL.of (K21 _ _ nL.symm eL)) ev ?_
        walk_at "go"
        refine ⟨1, x, m, v, rfl, hm21, om, .inr (.inl ⟨rfl, by omega, ov, fun H22 z22 => ?_⟩)⟩
        walk_at "go"
        refine iteF ?_
        walk_at "go"
        refine ⟨(by decide : 0 ≤ sizeLine), fun s hs => ?_⟩
        walk_at "go"
        have zs := Same.new (o := .tup []) hs
        refine ⟨1, x, m, _, rfl, (hm21.same z22).same zs, om, .inr (.inr ⟨rfl, by omega, ⟨s, rfl, SqT.of upd_same⟩, fun H23 z23 => ?_⟩)⟩
        walk_at "go"
        refine iteF ?_
        walk_at "go"
        exact ⟨_, _, _, _, _, _, ((R21.same z22).same zs).same z23, rfl⟩
    · rintro σ H2 ⟨b2, b3, b4, b5, b6, b7, R2, rfl⟩
      walk_at "go"
      exact k _
end
/-! ### what the written part says -/
theorem exc_self {K : PySem.W.Frag} {S : Addr} (hb : PySem.W.subIn K (.ref S) (.type "BaseException") = some true) (hc : PySem.W.isClsIn K S = true) (ht : PySem.W.typeIn K (.ref S) = some (.type "type")) (hs : PySem.W.subIn K (.ref S) (.ref S) = some true) : PySem.W.exmOne K (.ref S) (.ref S) = some true := by
  have hc' : (PySem.W.clsIn K S).isSome = true := hc
  unfold PySem.W.exmOne PySem.W.kitCls
  simp only [hb, ht, hc', hs, beq_self_eq_true, Bool.and_self, if_true]
theorem bb_TooMany_init (kV doc pm : Value) (an : Option Addr) (cdv ct : Value) (us : List Value) (hl : us.length = 2) : bindArgs (PySem.W.fnOf "__init__" "TooMany.__init__" (defArgs s_TooMany_init) (defBody s_TooMany_init) (defScope s_TooMany_init) .none kV doc pm an cdv ct) ⟨us, []⟩ = pure ((["self", "most"] : List Str).zip us) := match us, hl with | [_, _], _ => rfl
theorem bb_led_to (kV doc pm : Value) (an : Option Addr) (cdv ct : Value) (us : List Value) (hl : us.length = 2) : bindArgs (PySem.W.fnOf "led_to" "led_to" (defArgs s_led_to) (defBody s_led_to) (defScope s_led_to) .none kV doc pm an cdv ct) ⟨us, []⟩ = pure ((["steps", "begins"] : List Str).zip us) := match us, hl with | [_, _], _ => rfl
theorem bb_Machine_init (kV doc pm : Value) (an : Option Addr) (cdv ct : Value) (us : List Value) (hl : us.length = 4) : bindArgs (PySem.W.fnOf "__init__" "Machine.__init__" (defArgs s_Machine_init) (defBody s_Machine_init) (defScope s_Machine_init) .none kV doc pm an cdv ct) ⟨us, []⟩ = pure ((["self", "stands", "steps", "ends"] : List Str).zip us) := match us, hl with | [_, _, _, _], _ => rfl
theorem bb_Machine_stands (kV doc pm : Value) (an : Option Addr) (cdv ct : Value) (us : List Value) (hl : us.length = 1) : bindArgs (PySem.W.fnOf "stands" "Machine.stands" (defArgs s_Machine_stands) (defBody s_Machine_stands) (defScope s_Machine_stands) .none kV doc pm an cdv ct) ⟨us, []⟩ = pure ((["self"] : List Str).zip us) := match us, hl with | [_], _ => rfl
theorem bb_Machine_steps (kV doc pm : Value) (an : Option Addr) (cdv ct : Value) (us : List Value) (hl : us.length = 1) : bindArgs (PySem.W.fnOf "steps" "Machine.steps" (defArgs s_Machine_steps) (defBody s_Machine_steps) (defScope s_Machine_steps) .none kV doc pm an cdv ct) ⟨us, []⟩ = pure ((["self"] : List Str).zip us) := match us, hl with | [_], _ => rfl
theorem bb_is_whole_number (kV doc pm : Value) (an : Option Addr) (cdv ct : Value) (us : List Value) (hl : us.length = 1) : bindArgs (PySem.W.fnOf "is_whole_number" "is_whole_number" (defArgs s_is_whole_number) (defBody s_is_whole_number) (defScope s_is_whole_number) .none kV doc pm an cdv ct) ⟨us, []⟩ = pure ((["value"] : List Str).zip us) := match us, hl with | [_], _ => rfl
theorem bb_is_integer_between (kV doc pm : Value) (an : Option Addr) (cdv ct : Value) (us : List Value) (hl : us.length = 3) : bindArgs (PySem.W.fnOf "is_integer_between" "is_integer_between" (defArgs s_is_integer_between) (defBody s_is_integer_between) (defScope s_is_integer_between) .none kV doc pm an cdv ct) ⟨us, []⟩ = pure ((["value", "least", "most"] : List Str).zip us) := match us, hl with | [_, _, _], _ => rfl
theorem bb_is_stand (kV doc pm : Value) (an : Option Addr) (cdv ct : Value) (us : List Value) (hl : us.length = 2) : bindArgs (PySem.W.fnOf "_is_stand" "_is_stand" (defArgs s_is_stand) (defBody s_is_stand) (defScope s_is_stand) .none kV doc pm an cdv ct) ⟨us, []⟩ = pure ((["stands", "value"] : List Str).zip us) := match us, hl with | [_, _], _ => rfl
theorem bb_check_stands (kV doc pm : Value) (an : Option Addr) (cdv ct : Value) (us : List Value) (hl : us.length = 1) : bindArgs (PySem.W.fnOf "_check_stands" "_check_stands" (defArgs s_check_stands) (defBody s_check_stands) (defScope s_check_stands) .none kV doc pm an cdv ct) ⟨us, []⟩ = pure ((["stands"] : List Str).zip us) := match us, hl with | [_], _ => rfl
theorem bb_is_step (kV doc pm : Value) (an : Option Addr) (cdv ct : Value) (us : List Value) (hl : us.length = 2) : bindArgs (PySem.W.fnOf "_is_step" "_is_step" (defArgs s_is_step) (defBody s_is_step) (defScope s_is_step) .none kV doc pm an cdv ct) ⟨us, []⟩ = pure ((["stands", "value"] : List Str).zip us) := match us, hl with | [_, _], _ => rfl
theorem bb_check_steps (kV doc pm : Value) (an : Option Addr) (cdv ct : Value) (us : List Value) (hl : us.length = 2) : bindArgs (PySem.W.fnOf "_check_steps" "_check_steps" (defArgs s_check_steps) (defBody s_check_steps) (defScope s_check_steps) .none kV doc pm an cdv ct) ⟨us, []⟩ = pure ((["stands", "steps"] : List Str).zip us) := match us, hl with | [_, _], _ => rfl
theorem bb_is_ascending (kV doc pm : Value) (an : Option Addr) (cdv ct : Value) (us : List Value) (hl : us.length = 2) : bindArgs (PySem.W.fnOf "is_ascending" "is_ascending" (defArgs s_is_ascending) (defBody s_is_ascending) (defScope s_is_ascending) .none kV doc pm an cdv ct) ⟨us, []⟩ = pure ((["value", "many"] : List Str).zip us) := match us, hl with | [_, _], _ => rfl
theorem bb_check_ends (kV doc pm : Value) (an : Option Addr) (cdv ct : Value) (us : List Value) (hl : us.length = 2) : bindArgs (PySem.W.fnOf "_check_ends" "_check_ends" (defArgs s_check_ends) (defBody s_check_ends) (defScope s_check_ends) .none kV doc pm an cdv ct) ⟨us, []⟩ = pure ((["stands", "ends"] : List Str).zip us) := match us, hl with | [_, _], _ => rfl
theorem bb_check_machine (kV doc pm : Value) (an : Option Addr) (cdv ct : Value) (us : List Value) (hl : us.length = 1) : bindArgs (PySem.W.fnOf "check_machine" "check_machine" (defArgs s_check_machine) (defBody s_check_machine) (defScope s_check_machine) .none kV doc pm an cdv ct) ⟨us, []⟩ = pure ((["value"] : List Str).zip us) := match us, hl with | [_], _ => rfl
theorem bb_reached (kV doc pm : Value) (an : Option Addr) (cdv ct : Value) (us : List Value) (hl : us.length = 1) : bindArgs (PySem.W.fnOf "reached" "reached" (defArgs s_reached) (defBody s_reached) (defScope s_reached) .none kV doc pm an cdv ct) ⟨us, []⟩ = pure ((["machine"] : List Str).zip us) := match us, hl with | [_], _ => rfl
theorem bb_check_steps_mends (kV doc pm : Value) (an : Option Addr) (cdv ct : Value) (us : List Value) (hl : us.length = 1) : bindArgs (PySem.W.fnOf "_check_steps" "_check_steps" (defArgs s_check_steps_mends) (defBody s_check_steps_mends) (defScope s_check_steps_mends) .none kV doc pm an cdv ct) ⟨us, []⟩ = pure ((["machine"] : List Str).zip us) := match us, hl with | [_], _ => rfl
theorem bb_places_on_loops (kV doc pm : Value) (an : Option Addr) (cdv ct : Value) (us : List Value) (hl : us.length = 1) : bindArgs (PySem.W.fnOf "_places_on_loops" "_places_on_loops" (defArgs s_places_on_loops) (defBody s_places_on_loops) (defScope s_places_on_loops) .none kV doc pm an cdv ct) ⟨us, []⟩ = pure ((["machine"] : List Str).zip us) := match us, hl with | [_], _ => rfl
theorem bb_spread (kV doc pm : Value) (an : Option Addr) (cdv ct : Value) (us : List Value) (hl : us.length = 2) : bindArgs (PySem.W.fnOf "_spread" "_spread" (defArgs s_spread) (defBody s_spread) (defScope s_spread) .none kV doc pm an cdv ct) ⟨us, []⟩ = pure ((["numbers", "steps"] : List Str).zip us) := match us, hl with | [_, _], _ => rfl
theorem bb_numbers (kV doc pm : Value) (an : Option Addr) (cdv ct : Value) (us : List Value) (hl : us.length = 2) : bindArgs (PySem.W.fnOf "_numbers" "_numbers" (defArgs s_numbers) (defBody s_numbers) (defScope s_numbers) .none kV doc pm an cdv ct) ⟨us, []⟩ = pure ((["many", "steps"] : List Str).zip us) := match us, hl with | [_, _], _ => rfl
theorem bb_numbers_without (kV doc pm : Value) (an : Option Addr) (cdv ct : Value) (us : List Value) (hl : us.length = 3) : bindArgs (PySem.W.fnOf "_numbers_without" "_numbers_without" (defArgs s_numbers_without) (defBody s_numbers_without) (defScope s_numbers_without) .none kV doc pm an cdv ct) ⟨us, []⟩ = pure ((["machine", "places", "some"] : List Str).zip us) := match us, hl with | [_, _, _], _ => rfl
theorem bb_mends (kV doc pm : Value) (an : Option Addr) (cdv ct : Value) (us : List Value) (hl : us.length = 1) : bindArgs (PySem.W.fnOf "mends" "mends" (defArgs s_mends) (defBody s_mends) (defScope s_mends) .none kV doc pm an cdv ct) ⟨us, []⟩ = pure ((["machine"] : List Str).zip us) := match us, hl with | [_], _ => rfl
theorem bb_mended (kV doc pm : Value) (an : Option Addr) (cdv ct : Value) (us : List Value) (hl : us.length = 2) : bindArgs (PySem.W.fnOf "mended" "mended" (defArgs s_mended) (defBody s_mended) (defScope s_mended) .none kV doc pm an cdv ct) ⟨us, []⟩ = pure ((["machine", "some"] : List Str).zip us) := match us, hl with | [_, _], _ => rfl
theorem bb_law_taken (kV doc pm : Value) (an : Option Addr) (cdv ct : Value) (us : List Value) (hl : us.length = 2) : bindArgs (PySem.W.fnOf "_law_taken" "_law_taken" (defArgs s_law_taken) (defBody s_law_taken) (defScope s_law_taken) .none kV doc pm an cdv ct) ⟨us, []⟩ = pure ((["_law_row", "_law_many"] : List Str).zip us) := match us, hl with | [_, _], _ => rfl
theorem bb_law_refused (kV doc pm : Value) (an : Option Addr) (cdv ct : Value) (us : List Value) (hl : us.length = 3) : bindArgs (PySem.W.fnOf "_law_refused" "_law_refused" (defArgs s_law_refused) (defBody s_law_refused) (defScope s_law_refused) .none kV doc pm an cdv ct) ⟨us, []⟩ = pure ((["_law_kind", "_law_machine", "_law_some"] : List Str).zip us) := match us, hl with | [_, _, _], _ => rfl
theorem bb_law (kV doc pm : Value) (an : Option Addr) (cdv ct : Value) (us : List Value) (hl : us.length = 1) : bindArgs (PySem.W.fnOf "law" "law" (defArgs s_law) (defBody s_law) (defScope s_law) .none kV doc pm an cdv ct) ⟨us, []⟩ = pure ((["_law_script"] : List Str).zip us) := match us, hl with | [_], _ => rfl
set_option maxHeartbeats 0 in
def txt_mk {K : PySem.W.Frag} {h : Heap} {mg : Str → Option Value} (X : K.In h) (G : h.Ns mainGlobals mg)
    {a_TooMany_init : Addr} {od_TooMany_init an_TooMany_init : Option Addr} {sl_TooMany_init : Array (Option Value)} {oc_TooMany_init kV_TooMany_init dc_TooMany_init pm_TooMany_init cd_TooMany_init ct_TooMany_init : Value}
    {a_led_to : Addr} {od_led_to an_led_to : Option Addr} {sl_led_to : Array (Option Value)} {oc_led_to kV_led_to dc_led_to pm_led_to cd_led_to ct_led_to : Value}
    {a_Machine_init : Addr} {od_Machine_init an_Machine_init : Option Addr} {sl_Machine_init : Array (Option Value)} {oc_Machine_init kV_Machine_init dc_Machine_init pm_Machine_init cd_Machine_init ct_Machine_init : Value}
    {a_Machine_stands : Addr} {od_Machine_stands an_Machine_stands : Option Addr} {sl_Machine_stands : Array (Option Value)} {oc_Machine_stands kV_Machine_stands dc_Machine_stands pm_Machine_stands cd_Machine_stands ct_Machine_stands : Value}
    {a_Machine_steps : Addr} {od_Machine_steps an_Machine_steps : Option Addr} {sl_Machine_steps : Array (Option Value)} {oc_Machine_steps kV_Machine_steps dc_Machine_steps pm_Machine_steps cd_Machine_steps ct_Machine_steps : Value}
    {a_is_whole_number : Addr} {od_is_whole_number an_is_whole_number : Option Addr} {sl_is_whole_number : Array (Option Value)} {oc_is_whole_number kV_is_whole_number dc_is_whole_number pm_is_whole_number cd_is_whole_number ct_is_whole_number : Value}
    {a_is_integer_between : Addr} {od_is_integer_between an_is_integer_between : Option Addr} {sl_is_integer_between : Array (Option Value)} {oc_is_integer_between kV_is_integer_between dc_is_integer_between pm_is_integer_between cd_is_integer_between ct_is_integer_between : Value}
    {a_is_stand : Addr} {od_is_stand an_is_stand : Option Addr} {sl_is_stand : Array (Option Value)} {oc_is_stand kV_is_stand dc_is_stand pm_is_stand cd_is_stand ct_is_stand : Value}
    {a_check_stands : Addr} {od_check_stands an_check_stands : Option Addr} {sl_check_stands : Array (Option Value)} {oc_check_stands kV_check_stands dc_check_stands pm_check_stands cd_check_stands ct_check_stands : Value}
    {a_is_step : Addr} {od_is_step an_is_step : Option Addr} {sl_is_step : Array (Option Value)} {oc_is_step kV_is_step dc_is_step pm_is_step cd_is_step ct_is_step : Value}
    {a_check_steps : Addr} {od_check_steps an_check_steps : Option Addr} {sl_check_steps : Array (Option Value)} {oc_check_steps kV_check_steps dc_check_steps pm_check_steps cd_check_steps ct_check_steps : Value}
    {a_is_ascending : Addr} {od_is_ascending an_is_ascending : Option Addr} {sl_is_ascending : Array (Option Value)} {oc_is_ascending kV_is_ascending dc_is_ascending pm_is_ascending cd_is_ascending ct_is_ascending : Value}
    {a_check_ends : Addr} {od_check_ends an_check_ends : Option Addr} {sl_check_ends : Array (Option Value)} {oc_check_ends kV_check_ends dc_check_ends pm_check_ends cd_check_ends ct_check_ends : Value}
    {a_check_machine : Addr} {od_check_machine an_check_machine : Option Addr} {sl_check_machine : Array (Option Value)} {oc_check_machine kV_check_machine dc_check_machine pm_check_machine cd_check_machine ct_check_machine : Value}
    {a_reached : Addr} {od_reached an_reached : Option Addr} {sl_reached : Array (Option Value)} {oc_reached kV_reached dc_reached pm_reached cd_reached ct_reached : Value}
    {a_check_steps_mends : Addr} {od_check_steps_mends an_check_steps_mends : Option Addr} {sl_check_steps_mends : Array (Option Value)} {oc_check_steps_mends kV_check_steps_mends dc_check_steps_mends pm_check_steps_mends cd_check_steps_mends ct_check_steps_mends : Value}
    {a_places_on_loops : Addr} {od_places_on_loops an_places_on_loops : Option Addr} {sl_places_on_loops : Array (Option Value)} {oc_places_on_loops kV_places_on_loops dc_places_on_loops pm_places_on_loops cd_places_on_loops ct_places_on_loops : Value}
    {a_spread : Addr} {od_spread an_spread : Option Addr} {sl_spread : Array (Option Value)} {oc_spread kV_spread dc_spread pm_spread cd_spread ct_spread : Value}
    {a_numbers : Addr} {od_numbers an_numbers : Option Addr} {sl_numbers : Array (Option Value)} {oc_numbers kV_numbers dc_numbers pm_numbers cd_numbers ct_numbers : Value}
    {a_numbers_without : Addr} {od_numbers_without an_numbers_without : Option Addr} {sl_numbers_without : Array (Option Value)} {oc_numbers_without kV_numbers_without dc_numbers_without pm_numbers_without cd_numbers_without ct_numbers_without : Value}
    {a_mends : Addr} {od_mends an_mends : Option Addr} {sl_mends : Array (Option Value)} {oc_mends kV_mends dc_mends pm_mends cd_mends ct_mends : Value}
    {a_mended : Addr} {od_mended an_mended : Option Addr} {sl_mended : Array (Option Value)} {oc_mended kV_mended dc_mended pm_mended cd_mended ct_mended : Value}
    {a_law_taken : Addr} {od_law_taken an_law_taken : Option Addr} {sl_law_taken : Array (Option Value)} {oc_law_taken kV_law_taken dc_law_taken pm_law_taken cd_law_taken ct_law_taken : Value}
    {a_law_refused : Addr} {od_law_refused an_law_refused : Option Addr} {sl_law_refused : Array (Option Value)} {oc_law_refused kV_law_refused dc_law_refused pm_law_refused cd_law_refused ct_law_refused : Value}
    {a_law : Addr} {od_law an_law : Option Addr} {sl_law : Array (Option Value)} {oc_law kV_law dc_law pm_law cd_law ct_law : Value}
    {c_Machine : Addr}
    {q_stands : Addr} {rest_stands : List Value}
    {q_steps : Addr} {rest_steps : List Value}
    {c_BadSet : Addr}
    {c_TooMany : Addr}
    {c_TallyError : Addr}
    {t_MOST_STANDS : Tok}
    {t_MOST_GAIN : Tok}
    {a_LETTERS : Addr}
    {t_MOST_STEPS : Tok}
    (g_led_to : PySem.W.nsIn K mainGlobals "led_to" = some (some (.ref a_led_to)))
    (g_is_whole_number : PySem.W.nsIn K mainGlobals "is_whole_number" = some (some (.ref a_is_whole_number)))
    (g_is_integer_between : PySem.W.nsIn K mainGlobals "is_integer_between" = some (some (.ref a_is_integer_between)))
    (g_is_stand : PySem.W.nsIn K mainGlobals "_is_stand" = some (some (.ref a_is_stand)))
    (g_check_stands : PySem.W.nsIn K mainGlobals "_check_stands" = some (some (.ref a_check_stands)))
    (g_is_step : PySem.W.nsIn K mainGlobals "_is_step" = some (some (.ref a_is_step)))
    (g_check_steps : PySem.W.nsIn K mainGlobals "check_steps_machines" = some (some (.ref a_check_steps)))
    (g_is_ascending : PySem.W.nsIn K mainGlobals "is_ascending" = some (some (.ref a_is_ascending)))
    (g_check_ends : PySem.W.nsIn K mainGlobals "_check_ends" = some (some (.ref a_check_ends)))
    (g_check_machine : PySem.W.nsIn K mainGlobals "check_machine" = some (some (.ref a_check_machine)))
    (g_reached : PySem.W.nsIn K mainGlobals "reached" = some (some (.ref a_reached)))
    (g_check_steps_mends : PySem.W.nsIn K mainGlobals "check_steps_mends" = some (some (.ref a_check_steps_mends)))
    (g_places_on_loops : PySem.W.nsIn K mainGlobals "_places_on_loops" = some (some (.ref a_places_on_loops)))
    (g_spread : PySem.W.nsIn K mainGlobals "_spread" = some (some (.ref a_spread)))
    (g_numbers : PySem.W.nsIn K mainGlobals "_numbers" = some (some (.ref a_numbers)))
    (g_numbers_without : PySem.W.nsIn K mainGlobals "_numbers_without" = some (some (.ref a_numbers_without)))
    (g_mends : PySem.W.nsIn K mainGlobals "mends" = some (some (.ref a_mends)))
    (g_mended : PySem.W.nsIn K mainGlobals "mended" = some (some (.ref a_mended)))
    (g_law_taken : PySem.W.nsIn K mainGlobals "_law_taken" = some (some (.ref a_law_taken)))
    (g_law_refused : PySem.W.nsIn K mainGlobals "_law_refused" = some (some (.ref a_law_refused)))
    (g_law : PySem.W.nsIn K mainGlobals "law" = some (some (.ref a_law)))
    (g_Machine : PySem.W.nsIn K mainGlobals "Machine" = some (some (.ref c_Machine)))
    (g_BadSet : PySem.W.nsIn K mainGlobals "BadSet" = some (some (.ref c_BadSet)))
    (g_TooMany : PySem.W.nsIn K mainGlobals "TooMany" = some (some (.ref c_TooMany)))
    (g_TallyError : PySem.W.nsIn K mainGlobals "TallyError" = some (some (.ref c_TallyError)))
    (g_MOST_STANDS : PySem.W.nsIn K mainGlobals "MOST_STANDS" = some (some (.int 8 t_MOST_STANDS)))
    (g_MOST_GAIN : PySem.W.nsIn K mainGlobals "MOST_GAIN" = some (some (.int 1000000000000000000000000000000 t_MOST_GAIN)))
    (g_LETTERS : PySem.W.nsIn K mainGlobals "LETTERS" = some (some (.ref a_LETTERS)))
    (g_MOST_STEPS : PySem.W.nsIn K mainGlobals "MOST_STEPS" = some (some (.int 12 t_MOST_STEPS)))
    (zz_all : PySem.W.nsIn K mainGlobals "all" = some none)
    (zz_bool : PySem.W.nsIn K mainGlobals "bool" = some none)
    (zz_enumerate : PySem.W.nsIn K mainGlobals "enumerate" = some none)
    (zz_int : PySem.W.nsIn K mainGlobals "int" = some none)
    (zz_isinstance : PySem.W.nsIn K mainGlobals "isinstance" = some none)
    (zz_len : PySem.W.nsIn K mainGlobals "len" = some none)
    (zz_list : PySem.W.nsIn K mainGlobals "list" = some none)
    (zz_range : PySem.W.nsIn K mainGlobals "range" = some none)
    (zz_sorted : PySem.W.nsIn K mainGlobals "sorted" = some none)
    (zz_str : PySem.W.nsIn K mainGlobals "str" = some none)
    (zz_tuple : PySem.W.nsIn K mainGlobals "tuple" = some none)
    (l_TooMany_init : K.lookup a_TooMany_init = some ⟨oc_TooMany_init, od_TooMany_init, .func (PySem.W.fnOf "__init__" "TooMany.__init__" (defArgs s_TooMany_init) (defBody s_TooMany_init) (defScope s_TooMany_init) .none kV_TooMany_init dc_TooMany_init pm_TooMany_init an_TooMany_init cd_TooMany_init ct_TooMany_init), sl_TooMany_init⟩)
    (c_TooMany_init : PySem.W.codeIn K cd_TooMany_init "TooMany.__init__" = true)
    (kk_TooMany_init : PySem.W.keepIn K (.ref a_TooMany_init) = true)
    (l_led_to : K.lookup a_led_to = some ⟨oc_led_to, od_led_to, .func (PySem.W.fnOf "led_to" "led_to" (defArgs s_led_to) (defBody s_led_to) (defScope s_led_to) .none kV_led_to dc_led_to pm_led_to an_led_to cd_led_to ct_led_to), sl_led_to⟩)
    (c_led_to : PySem.W.codeIn K cd_led_to "led_to" = true)
    (kk_led_to : PySem.W.keepIn K (.ref a_led_to) = true)
    (l_Machine_init : K.lookup a_Machine_init = some ⟨oc_Machine_init, od_Machine_init, .func (PySem.W.fnOf "__init__" "Machine.__init__" (defArgs s_Machine_init) (defBody s_Machine_init) (defScope s_Machine_init) .none kV_Machine_init dc_Machine_init pm_Machine_init an_Machine_init cd_Machine_init ct_Machine_init), sl_Machine_init⟩)
    (c_Machine_init : PySem.W.codeIn K cd_Machine_init "Machine.__init__" = true)
    (kk_Machine_init : PySem.W.keepIn K (.ref a_Machine_init) = true)
    (l_Machine_stands : K.lookup a_Machine_stands = some ⟨oc_Machine_stands, od_Machine_stands, .func (PySem.W.fnOf "stands" "Machine.stands" (defArgs s_Machine_stands) (defBody s_Machine_stands) (defScope s_Machine_stands) .none kV_Machine_stands dc_Machine_stands pm_Machine_stands an_Machine_stands cd_Machine_stands ct_Machine_stands), sl_Machine_stands⟩)
    (c_Machine_stands : PySem.W.codeIn K cd_Machine_stands "Machine.stands" = true)
    (kk_Machine_stands : PySem.W.keepIn K (.ref a_Machine_stands) = true)
    (l_Machine_steps : K.lookup a_Machine_steps = some ⟨oc_Machine_steps, od_Machine_steps, .func (PySem.W.fnOf "steps" "Machine.steps" (defArgs s_Machine_steps) (defBody s_Machine_steps) (defScope s_Machine_steps) .none kV_Machine_steps dc_Machine_steps pm_Machine_steps an_Machine_steps cd_Machine_steps ct_Machine_steps), sl_Machine_steps⟩)
    (c_Machine_steps : PySem.W.codeIn K cd_Machine_steps "Machine.steps" = true)
    (kk_Machine_steps : PySem.W.keepIn K (.ref a_Machine_steps) = true)
    (l_is_whole_number : K.lookup a_is_whole_number = some ⟨oc_is_whole_number, od_is_whole_number, .func (PySem.W.fnOf "is_whole_number" "is_whole_number" (defArgs s_is_whole_number) (defBody s_is_whole_number) (defScope s_is_whole_number) .none kV_is_whole_number dc_is_whole_number pm_is_whole_number an_is_whole_number cd_is_whole_number ct_is_whole_number), sl_is_whole_number⟩)
    (c_is_whole_number : PySem.W.codeIn K cd_is_whole_number "is_whole_number" = true)
    (kk_is_whole_number : PySem.W.keepIn K (.ref a_is_whole_number) = true)
    (l_is_integer_between : K.lookup a_is_integer_between = some ⟨oc_is_integer_between, od_is_integer_between, .func (PySem.W.fnOf "is_integer_between" "is_integer_between" (defArgs s_is_integer_between) (defBody s_is_integer_between) (defScope s_is_integer_between) .none kV_is_integer_between dc_is_integer_between pm_is_integer_between an_is_integer_between cd_is_integer_between ct_is_integer_between), sl_is_integer_between⟩)
    (c_is_integer_between : PySem.W.codeIn K cd_is_integer_between "is_integer_between" = true)
    (kk_is_integer_between : PySem.W.keepIn K (.ref a_is_integer_between) = true)
    (l_is_stand : K.lookup a_is_stand = some ⟨oc_is_stand, od_is_stand, .func (PySem.W.fnOf "_is_stand" "_is_stand" (defArgs s_is_stand) (defBody s_is_stand) (defScope s_is_stand) .none kV_is_stand dc_is_stand pm_is_stand an_is_stand cd_is_stand ct_is_stand), sl_is_stand⟩)
    (c_is_stand : PySem.W.codeIn K cd_is_stand "_is_stand" = true)
    (kk_is_stand : PySem.W.keepIn K (.ref a_is_stand) = true)
    (l_check_stands : K.lookup a_check_stands = some ⟨oc_check_stands, od_check_stands, .func (PySem.W.fnOf "_check_stands" "_check_stands" (defArgs s_check_stands) (defBody s_check_stands) (defScope s_check_stands) .none kV_check_stands dc_check_stands pm_check_stands an_check_stands cd_check_stands ct_check_stands), sl_check_stands⟩)
    (c_check_stands : PySem.W.codeIn K cd_check_stands "_check_stands" = true)
    (kk_check_stands : PySem.W.keepIn K (.ref a_check_stands) = true)
    (l_is_step : K.lookup a_is_step = some ⟨oc_is_step, od_is_step, .func (PySem.W.fnOf "_is_step" "_is_step" (defArgs s_is_step) (defBody s_is_step) (defScope s_is_step) .none kV_is_step dc_is_step pm_is_step an_is_step cd_is_step ct_is_step), sl_is_step⟩)
    (c_is_step : PySem.W.codeIn K cd_is_step "_is_step" = true)
    (kk_is_step : PySem.W.keepIn K (.ref a_is_step) = true)
    (l_check_steps : K.lookup a_check_steps = some ⟨oc_check_steps, od_check_steps, .func (PySem.W.fnOf "_check_steps" "_check_steps" (defArgs s_check_steps) (defBody s_check_steps) (defScope s_check_steps) .none kV_check_steps dc_check_steps pm_check_steps an_check_steps cd_check_steps ct_check_steps), sl_check_steps⟩)
    (c_check_steps : PySem.W.codeIn K cd_check_steps "_check_steps" = true)
    (kk_check_steps : PySem.W.keepIn K (.ref a_check_steps) = true)
    (l_is_ascending : K.lookup a_is_ascending = some ⟨oc_is_ascending, od_is_ascending, .func (PySem.W.fnOf "is_ascending" "is_ascending" (defArgs s_is_ascending) (defBody s_is_ascending) (defScope s_is_ascending) .none kV_is_ascending dc_is_ascending pm_is_ascending an_is_ascending cd_is_ascending ct_is_ascending), sl_is_ascending⟩)
    (c_is_ascending : PySem.W.codeIn K cd_is_ascending "is_ascending" = true)
    (kk_is_ascending : PySem.W.keepIn K (.ref a_is_ascending) = true)
    (l_check_ends : K.lookup a_check_ends = some ⟨oc_check_ends, od_check_ends, .func (PySem.W.fnOf "_check_ends" "_check_ends" (defArgs s_check_ends) (defBody s_check_ends) (defScope s_check_ends) .none kV_check_ends dc_check_ends pm_check_ends an_check_ends cd_check_ends ct_check_ends), sl_check_ends⟩)
    (c_check_ends : PySem.W.codeIn K cd_check_ends "_check_ends" = true)
    (kk_check_ends : PySem.W.keepIn K (.ref a_check_ends) = true)
    (l_check_machine : K.lookup a_check_machine = some ⟨oc_check_machine, od_check_machine, .func (PySem.W.fnOf "check_machine" "check_machine" (defArgs s_check_machine) (defBody s_check_machine) (defScope s_check_machine) .none kV_check_machine dc_check_machine pm_check_machine an_check_machine cd_check_machine ct_check_machine), sl_check_machine⟩)
    (c_check_machine : PySem.W.codeIn K cd_check_machine "check_machine" = true)
    (kk_check_machine : PySem.W.keepIn K (.ref a_check_machine) = true)
    (l_reached : K.lookup a_reached = some ⟨oc_reached, od_reached, .func (PySem.W.fnOf "reached" "reached" (defArgs s_reached) (defBody s_reached) (defScope s_reached) .none kV_reached dc_reached pm_reached an_reached cd_reached ct_reached), sl_reached⟩)
    (c_reached : PySem.W.codeIn K cd_reached "reached" = true)
    (kk_reached : PySem.W.keepIn K (.ref a_reached) = true)
    (l_check_steps_mends : K.lookup a_check_steps_mends = some ⟨oc_check_steps_mends, od_check_steps_mends, .func (PySem.W.fnOf "_check_steps" "_check_steps" (defArgs s_check_steps_mends) (defBody s_check_steps_mends) (defScope s_check_steps_mends) .none kV_check_steps_mends dc_check_steps_mends pm_check_steps_mends an_check_steps_mends cd_check_steps_mends ct_check_steps_mends), sl_check_steps_mends⟩)
    (c_check_steps_mends : PySem.W.codeIn K cd_check_steps_mends "_check_steps" = true)
    (kk_check_steps_mends : PySem.W.keepIn K (.ref a_check_steps_mends) = true)
    (l_places_on_loops : K.lookup a_places_on_loops = some ⟨oc_places_on_loops, od_places_on_loops, .func (PySem.W.fnOf "_places_on_loops" "_places_on_loops" (defArgs s_places_on_loops) (defBody s_places_on_loops) (defScope s_places_on_loops) .none kV_places_on_loops dc_places_on_loops pm_places_on_loops an_places_on_loops cd_places_on_loops ct_places_on_loops), sl_places_on_loops⟩)
    (c_places_on_loops : PySem.W.codeIn K cd_places_on_loops "_places_on_loops" = true)
    (kk_places_on_loops : PySem.W.keepIn K (.ref a_places_on_loops) = true)
    (l_spread : K.lookup a_spread = some ⟨oc_spread, od_spread, .func (PySem.W.fnOf "_spread" "_spread" (defArgs s_spread) (defBody s_spread) (defScope s_spread) .none kV_spread dc_spread pm_spread an_spread cd_spread ct_spread), sl_spread⟩)
    (c_spread : PySem.W.codeIn K cd_spread "_spread" = true)
    (kk_spread : PySem.W.keepIn K (.ref a_spread) = true)
    (l_numbers : K.lookup a_numbers = some ⟨oc_numbers, od_numbers, .func (PySem.W.fnOf "_numbers" "_numbers" (defArgs s_numbers) (defBody s_numbers) (defScope s_numbers) .none kV_numbers dc_numbers pm_numbers an_numbers cd_numbers ct_numbers), sl_numbers⟩)
    (c_numbers : PySem.W.codeIn K cd_numbers "_numbers" = true)
    (kk_numbers : PySem.W.keepIn K (.ref a_numbers) = true)
    (l_numbers_without : K.lookup a_numbers_without = some ⟨oc_numbers_without, od_numbers_without, .func (PySem.W.fnOf "_numbers_without" "_numbers_without" (defArgs s_numbers_without) (defBody s_numbers_without) (defScope s_numbers_without) .none kV_numbers_without dc_numbers_without pm_numbers_without an_numbers_without cd_numbers_without ct_numbers_without), sl_numbers_without⟩)
    (c_numbers_without : PySem.W.codeIn K cd_numbers_without "_numbers_without" = true)
    (kk_numbers_without : PySem.W.keepIn K (.ref a_numbers_without) = true)
    (l_mends : K.lookup a_mends = some ⟨oc_mends, od_mends, .func (PySem.W.fnOf "mends" "mends" (defArgs s_mends) (defBody s_mends) (defScope s_mends) .none kV_mends dc_mends pm_mends an_mends cd_mends ct_mends), sl_mends⟩)
    (c_mends : PySem.W.codeIn K cd_mends "mends" = true)
    (kk_mends : PySem.W.keepIn K (.ref a_mends) = true)
    (l_mended : K.lookup a_mended = some ⟨oc_mended, od_mended, .func (PySem.W.fnOf "mended" "mended" (defArgs s_mended) (defBody s_mended) (defScope s_mended) .none kV_mended dc_mended pm_mended an_mended cd_mended ct_mended), sl_mended⟩)
    (c_mended : PySem.W.codeIn K cd_mended "mended" = true)
    (kk_mended : PySem.W.keepIn K (.ref a_mended) = true)
    (l_law_taken : K.lookup a_law_taken = some ⟨oc_law_taken, od_law_taken, .func (PySem.W.fnOf "_law_taken" "_law_taken" (defArgs s_law_taken) (defBody s_law_taken) (defScope s_law_taken) .none kV_law_taken dc_law_taken pm_law_taken an_law_taken cd_law_taken ct_law_taken), sl_law_taken⟩)
    (c_law_taken : PySem.W.codeIn K cd_law_taken "_law_taken" = true)
    (kk_law_taken : PySem.W.keepIn K (.ref a_law_taken) = true)
    (l_law_refused : K.lookup a_law_refused = some ⟨oc_law_refused, od_law_refused, .func (PySem.W.fnOf "_law_refused" "_law_refused" (defArgs s_law_refused) (defBody s_law_refused) (defScope s_law_refused) .none kV_law_refused dc_law_refused pm_law_refused an_law_refused cd_law_refused ct_law_refused), sl_law_refused⟩)
    (c_law_refused : PySem.W.codeIn K cd_law_refused "_law_refused" = true)
    (kk_law_refused : PySem.W.keepIn K (.ref a_law_refused) = true)
    (l_law : K.lookup a_law = some ⟨oc_law, od_law, .func (PySem.W.fnOf "law" "law" (defArgs s_law) (defBody s_law) (defScope s_law) .none kV_law dc_law pm_law an_law cd_law ct_law), sl_law⟩)
    (c_law : PySem.W.codeIn K cd_law "law" = true)
    (kk_law : PySem.W.keepIn K (.ref a_law) = true)
    (pg_Machine : PySem.W.plainGet K c_Machine Str.empty = true)
    (hd_Machine : PySem.W.hasDictIn K c_Machine = true)
    (po_Machine : PySem.W.plainOver K c_Machine = true)
    (sa_Machine : PySem.W.findIn K (.ref c_Machine) "__setattr__" = some (some (.builtin "object.__setattr__")))
    (mi_Machine : PySem.W.makesIn K c_Machine = true)
    (kc_Machine : PySem.W.keepIn K (.ref c_Machine) = true)
    (fi_Machine : PySem.W.findIn K (.ref c_Machine) "__init__" = some (some (.ref a_Machine_init)))
    (if_Machine : PySem.W.isFn K (.ref a_Machine_init) = true)
    (nf_stands : PySem.W.findIn K (.ref c_Machine) "_stands" = some none)
    (nf_steps : PySem.W.findIn K (.ref c_Machine) "_steps" = some none)
    (nf_ends : PySem.W.findIn K (.ref c_Machine) "_ends" = some none)
    (pf_stands : PySem.W.findIn K (.ref c_Machine) "stands" = some (some (.ref q_stands)))
    (pt_stands : PySem.W.specialIn K (.ref q_stands) "__get__" = some (some (.builtin "property.__get__")))
    (pk_stands : PySem.W.takesIn K (.ref q_stands) = some true)
    (pr_stands : PySem.W.recIn K q_stands "property" = some (.ref a_Machine_stands :: rest_stands))
    (pf_steps : PySem.W.findIn K (.ref c_Machine) "steps" = some (some (.ref q_steps)))
    (pt_steps : PySem.W.specialIn K (.ref q_steps) "__get__" = some (some (.builtin "property.__get__")))
    (pk_steps : PySem.W.takesIn K (.ref q_steps) = some true)
    (pr_steps : PySem.W.recIn K q_steps "property" = some (.ref a_Machine_steps :: rest_steps))
    (x_i1_Machine : PySem.W.findIn K (.ref c_Machine) "__class__" = some (some (.builtin "object.__class__")))
    (x_i2_Machine : PySem.W.specialIn K (.builtin "object.__class__") "__get__" = some (some (.builtin "getset_descriptor.__get__")))
    (x_i3_Machine : PySem.W.takesIn K (.builtin "object.__class__") = some true)
    (x_i4_Machine : PySem.W.mroIn K c_Machine (.type "object") = some true)
    (xx_BadSet : PySem.W.excIn K c_BadSet [.type "ValueError", .type "Exception", .type "BaseException", .type "object"] "ValueError.__new__" = true)
    (xk_BadSet : PySem.W.keepIn K (.ref c_BadSet) = true)
    (xb_BadSet : PySem.W.subIn K (.ref c_BadSet) (.type "BaseException") = some true)
    (xt_BadSet : PySem.W.typeIn K (.ref c_BadSet) = some (.type "type"))
    (xi_BadSet : PySem.W.isClsIn K c_BadSet = true)
    (xs_BadSet : PySem.W.subIn K (.ref c_BadSet) (.ref c_BadSet) = some true)
    (lk_TooMany : ∃ nm q N bs bm sn sub ab col dd k0 k1 k2 k3 k5, K.lookup c_TooMany = some (excClassObj nm q c_TooMany N bs bm true sn sub ab col dd k0 k1 k2 k3 k5 "ValueError.__new__") ∧ PySem.HandSPX.refsVE bm = true)
    (sa_TooMany : PySem.W.findIn K (.ref c_TooMany) "__setattr__" = some (some (.builtin "object.__setattr__")))
    (xk_TooMany : PySem.W.keepIn K (.ref c_TooMany) = true)
    (xb_TooMany : PySem.W.subIn K (.ref c_TooMany) (.type "BaseException") = some true)
    (xt_TooMany : PySem.W.typeIn K (.ref c_TooMany) = some (.type "type"))
    (xi_TooMany : PySem.W.isClsIn K c_TooMany = true)
    (xs_TooMany : PySem.W.subIn K (.ref c_TooMany) (.ref c_TooMany) = some true)
    (ga_TooMany : PySem.W.findIn K (.ref c_TooMany) "__getattribute__" = some (some (.builtin "BaseException.__getattribute__")))
    (gg_TooMany : PySem.W.findIn K (.ref c_TooMany) "__getattr__" = some none)
    (hx_TooMany : PySem.W.hasDictIn K c_TooMany = true)
    (ie_TooMany : PySem.W.findIn K (.ref c_TooMany) "__init__" = some (some (.ref a_TooMany_init)))
    (ti_TooMany : PySem.W.typeIn K (.ref a_TooMany_init) = some (.type "function"))
    (no_TooMany_most : PySem.W.findIn K (.ref c_TooMany) "most" = some none)
    (rd_TallyError : PySem.W.readsIn K c_TallyError (.type "type") = true)
    (fv_TallyError : PySem.W.findCls K (.ref c_TallyError) (.type "type") "__init__" = some (.val (.builtin "ValueError.__init__")))
    (sg_TallyError : PySem.W.specialIn K (.ref c_TallyError) "__getattribute__" = some (some (.builtin "type.__getattribute__")))
    (xs_BadSet_TooMany : PySem.W.subIn K (.ref c_BadSet) (.ref c_TooMany) = some false)
    (l_LETTERS : ∀ H : Hp, SqT K H a_LETTERS [V.str "a", V.str "b", V.str "c", V.str "d"]) : Txt K mg :=
  Txt.mk (K := K) (mg := mg)
    (a_TooMany_init)
    (_)
    (fun_mk (st := s_TooMany_init) l_TooMany_init c_TooMany_init kk_TooMany_init)
    ((fun_mk (st := s_TooMany_init) l_TooMany_init c_TooMany_init kk_TooMany_init).binds (ps := ["self", "most"]) bb_TooMany_init)
    (kk_TooMany_init)
    (a_led_to)
    (_)
    (fun_mk (st := s_led_to) l_led_to c_led_to kk_led_to)
    ((fun_mk (st := s_led_to) l_led_to c_led_to kk_led_to).binds (ps := ["steps", "begins"]) bb_led_to)
    (kk_led_to)
    (PySem.W.mg_of X G g_led_to)
    (a_Machine_init)
    (_)
    (fun_mk (st := s_Machine_init) l_Machine_init c_Machine_init kk_Machine_init)
    ((fun_mk (st := s_Machine_init) l_Machine_init c_Machine_init kk_Machine_init).binds (ps := ["self", "stands", "steps", "ends"]) bb_Machine_init)
    (kk_Machine_init)
    (a_Machine_stands)
    (_)
    (fun_mk (st := s_Machine_stands) l_Machine_stands c_Machine_stands kk_Machine_stands)
    ((fun_mk (st := s_Machine_stands) l_Machine_stands c_Machine_stands kk_Machine_stands).binds (ps := ["self"]) bb_Machine_stands)
    (kk_Machine_stands)
    (a_Machine_steps)
    (_)
    (fun_mk (st := s_Machine_steps) l_Machine_steps c_Machine_steps kk_Machine_steps)
    ((fun_mk (st := s_Machine_steps) l_Machine_steps c_Machine_steps kk_Machine_steps).binds (ps := ["self"]) bb_Machine_steps)
    (kk_Machine_steps)
    (a_is_whole_number)
    (_)
    (fun_mk (st := s_is_whole_number) l_is_whole_number c_is_whole_number kk_is_whole_number)
    ((fun_mk (st := s_is_whole_number) l_is_whole_number c_is_whole_number kk_is_whole_number).binds (ps := ["value"]) bb_is_whole_number)
    (kk_is_whole_number)
    (PySem.W.mg_of X G g_is_whole_number)
    (a_is_integer_between)
    (_)
    (fun_mk (st := s_is_integer_between) l_is_integer_between c_is_integer_between kk_is_integer_between)
    ((fun_mk (st := s_is_integer_between) l_is_integer_between c_is_integer_between kk_is_integer_between).binds (ps := ["value", "least", "most"]) bb_is_integer_between)
    (kk_is_integer_between)
    (PySem.W.mg_of X G g_is_integer_between)
    (a_is_stand)
    (_)
    (fun_mk (st := s_is_stand) l_is_stand c_is_stand kk_is_stand)
    ((fun_mk (st := s_is_stand) l_is_stand c_is_stand kk_is_stand).binds (ps := ["stands", "value"]) bb_is_stand)
    (kk_is_stand)
    (PySem.W.mg_of X G g_is_stand)
    (a_check_stands)
    (_)
    (fun_mk (st := s_check_stands) l_check_stands c_check_stands kk_check_stands)
    ((fun_mk (st := s_check_stands) l_check_stands c_check_stands kk_check_stands).binds (ps := ["stands"]) bb_check_stands)
    (kk_check_stands)
    (PySem.W.mg_of X G g_check_stands)
    (a_is_step)
    (_)
    (fun_mk (st := s_is_step) l_is_step c_is_step kk_is_step)
    ((fun_mk (st := s_is_step) l_is_step c_is_step kk_is_step).binds (ps := ["stands", "value"]) bb_is_step)
    (kk_is_step)
    (PySem.W.mg_of X G g_is_step)
    (a_check_steps)
    (_)
    (fun_mk (st := s_check_steps) l_check_steps c_check_steps kk_check_steps)
    ((fun_mk (st := s_check_steps) l_check_steps c_check_steps kk_check_steps).binds (ps := ["stands", "steps"]) bb_check_steps)
    (kk_check_steps)
    (PySem.W.mg_of X G g_check_steps)
    (a_is_ascending)
    (_)
    (fun_mk (st := s_is_ascending) l_is_ascending c_is_ascending kk_is_ascending)
    ((fun_mk (st := s_is_ascending) l_is_ascending c_is_ascending kk_is_ascending).binds (ps := ["value", "many"]) bb_is_ascending)
    (kk_is_ascending)
    (PySem.W.mg_of X G g_is_ascending)
    (a_check_ends)
    (_)
    (fun_mk (st := s_check_ends) l_check_ends c_check_ends kk_check_ends)
    ((fun_mk (st := s_check_ends) l_check_ends c_check_ends kk_check_ends).binds (ps := ["stands", "ends"]) bb_check_ends)
    (kk_check_ends)
    (PySem.W.mg_of X G g_check_ends)
    (a_check_machine)
    (_)
    (fun_mk (st := s_check_machine) l_check_machine c_check_machine kk_check_machine)
    ((fun_mk (st := s_check_machine) l_check_machine c_check_machine kk_check_machine).binds (ps := ["value"]) bb_check_machine)
    (kk_check_machine)
    (PySem.W.mg_of X G g_check_machine)
    (a_reached)
    (_)
    (fun_mk (st := s_reached) l_reached c_reached kk_reached)
    ((fun_mk (st := s_reached) l_reached c_reached kk_reached).binds (ps := ["machine"]) bb_reached)
    (kk_reached)
    (PySem.W.mg_of X G g_reached)
    (a_check_steps_mends)
    (_)
    (fun_mk (st := s_check_steps_mends) l_check_steps_mends c_check_steps_mends kk_check_steps_mends)
    ((fun_mk (st := s_check_steps_mends) l_check_steps_mends c_check_steps_mends kk_check_steps_mends).binds (ps := ["machine"]) bb_check_steps_mends)
    (kk_check_steps_mends)
    (PySem.W.mg_of X G g_check_steps_mends)
    (a_places_on_loops)
    (_)
    (fun_mk (st := s_places_on_loops) l_places_on_loops c_places_on_loops kk_places_on_loops)
    ((fun_mk (st := s_places_on_loops) l_places_on_loops c_places_on_loops kk_places_on_loops).binds (ps := ["machine"]) bb_places_on_loops)
    (kk_places_on_loops)
    (PySem.W.mg_of X G g_places_on_loops)
    (a_spread)
    (_)
    (fun_mk (st := s_spread) l_spread c_spread kk_spread)
    ((fun_mk (st := s_spread) l_spread c_spread kk_spread).binds (ps := ["numbers", "steps"]) bb_spread)
    (kk_spread)
    (PySem.W.mg_of X G g_spread)
    (a_numbers)
    (_)
    (fun_mk (st := s_numbers) l_numbers c_numbers kk_numbers)
    ((fun_mk (st := s_numbers) l_numbers c_numbers kk_numbers).binds (ps := ["many", "steps"]) bb_numbers)
    (kk_numbers)
    (PySem.W.mg_of X G g_numbers)
    (a_numbers_without)
    (_)
    (fun_mk (st := s_numbers_without) l_numbers_without c_numbers_without kk_numbers_without)
    ((fun_mk (st := s_numbers_without) l_numbers_without c_numbers_without kk_numbers_without).binds (ps := ["machine", "places", "some"]) bb_numbers_without)
    (kk_numbers_without)
    (PySem.W.mg_of X G g_numbers_without)
    (a_mends)
    (_)
    (fun_mk (st := s_mends) l_mends c_mends kk_mends)
    ((fun_mk (st := s_mends) l_mends c_mends kk_mends).binds (ps := ["machine"]) bb_mends)
    (kk_mends)
    (PySem.W.mg_of X G g_mends)
    (a_mended)
    (_)
    (fun_mk (st := s_mended) l_mended c_mended kk_mended)
    ((fun_mk (st := s_mended) l_mended c_mended kk_mended).binds (ps := ["machine", "some"]) bb_mended)
    (kk_mended)
    (PySem.W.mg_of X G g_mended)
    (a_law_taken)
    (_)
    (fun_mk (st := s_law_taken) l_law_taken c_law_taken kk_law_taken)
    ((fun_mk (st := s_law_taken) l_law_taken c_law_taken kk_law_taken).binds (ps := ["_law_row", "_law_many"]) bb_law_taken)
    (kk_law_taken)
    (PySem.W.mg_of X G g_law_taken)
    (a_law_refused)
    (_)
    (fun_mk (st := s_law_refused) l_law_refused c_law_refused kk_law_refused)
    ((fun_mk (st := s_law_refused) l_law_refused c_law_refused kk_law_refused).binds (ps := ["_law_kind", "_law_machine", "_law_some"]) bb_law_refused)
    (kk_law_refused)
    (PySem.W.mg_of X G g_law_refused)
    (a_law)
    (_)
    (fun_mk (st := s_law) l_law c_law kk_law)
    ((fun_mk (st := s_law) l_law c_law kk_law).binds (ps := ["_law_script"]) bb_law)
    (kk_law)
    (PySem.W.mg_of X G g_law)
    (c_Machine)
    (⟨pg_Machine, hd_Machine, po_Machine, sa_Machine⟩)
    (PySem.W.mg_of X G g_Machine)
    (⟨mi_Machine, fi_Machine, if_Machine, kc_Machine⟩)
    (nf_stands)
    (nf_steps)
    (nf_ends)
    (q_stands)
    (⟨pf_stands, pt_stands, pk_stands, ⟨_, pr_stands⟩⟩)
    (q_steps)
    (⟨pf_steps, pt_steps, pk_steps, ⟨_, pr_steps⟩⟩)
    (x_i1_Machine)
    (x_i2_Machine)
    (x_i3_Machine)
    (x_i4_Machine)
    (c_BadSet)
    (PySem.W.mg_of X G g_BadSet)
    (xx_BadSet)
    (xk_BadSet)
    (xb_BadSet)
    (xt_BadSet)
    (exc_self xb_BadSet xi_BadSet xt_BadSet xs_BadSet)
    (c_TooMany)
    (PySem.W.mg_of X G g_TooMany)
    (⟨lk_TooMany, sa_TooMany, xb_TooMany, xt_TooMany, xk_TooMany⟩)
    (⟨ga_TooMany, gg_TooMany, xb_TooMany, hx_TooMany⟩)
    (ie_TooMany)
    (ti_TooMany)
    (exc_self xb_TooMany xi_TooMany xt_TooMany xs_TooMany)
    (no_TooMany_most)
    (c_TallyError)
    (PySem.W.mg_of X G g_TallyError)
    (rd_TallyError)
    (fv_TallyError)
    (sg_TallyError)
    (exc_rel xb_TooMany xi_TooMany xt_TooMany xs_BadSet_TooMany)
    (.int 8 t_MOST_STANDS)
    (PySem.W.mg_of X G g_MOST_STANDS)
    (⟨_, rfl⟩)
    (.int 1000000000000000000000000000000 t_MOST_GAIN)
    (PySem.W.mg_of X G g_MOST_GAIN)
    (⟨_, rfl⟩)
    (a_LETTERS)
    (PySem.W.mg_of X G g_LETTERS)
    (rfl)
    (l_LETTERS)
    (.int 12 t_MOST_STEPS)
    (PySem.W.mg_of X G g_MOST_STEPS)
    (⟨_, rfl⟩)
    (PySem.W.mg_none_of X G zz_all)
    (PySem.W.mg_none_of X G zz_bool)
    (PySem.W.mg_none_of X G zz_enumerate)
    (PySem.W.mg_none_of X G zz_int)
    (PySem.W.mg_none_of X G zz_isinstance)
    (PySem.W.mg_none_of X G zz_len)
    (PySem.W.mg_none_of X G zz_list)
    (PySem.W.mg_none_of X G zz_range)
    (PySem.W.mg_none_of X G zz_sorted)
    (PySem.W.mg_none_of X G zz_str)
    (PySem.W.mg_none_of X G zz_tuple)
    (fun s v => .of_eq rfl)
theorem all_mk {l : PySem.W.OpenLaw} {w : World} {K : PySem.W.Frag} {mg : Str → Option Value} {fa : Addr} (T : Txt K mg) (hfa : mg "law" = some (.ref fa)) :
    ∃ fd : FuncData, (∀ (s : Shared) (v : Value), BindsTo s fd ⟨[v], []⟩ [("_law_script", v)]) ∧ ∀ base : Heap, K.In base → base.Ns mainGlobals mg → FnOk l.prog w K mg base (L2.CX l.prog w) 20 fa fd ["_law_script"] (sp_law K) := by
  have e := hfa.symm.trans T.m_law
  cases e
  exact ⟨T.fd_law, T.bs_law, fun _ _ _ => ok_law T⟩
/-! ### the head by facts: the names that the law comes to, read off the run's end -/
section
open He
theorem map_join {α β γ δ : Type} {o : Option α} {a : α → β} {b : α → γ} {c : α → δ} {A : β} {B : γ} {C : δ} (h1 : o.map (fun x => a x) = some A) (h2 : o.map (fun x => b x) = some B) (h3 : o.map (fun x => c x) = some C) : o.map (fun x => (a x, b x, c x)) = some (A, B, C) := by
  cases o with
  | none => cases h1
  | some x =>
    have e1 : a x = A := Option.some.inj h1
    have e2 : b x = B := Option.some.inj h2
    have e3 : c x = C := Option.some.inj h3
    show some (a x, b x, c x) = _
    rw [e1, e2, e3]
def asN (g : Addr → Option Obj) (names : List Str) : List Addr := names.filterMap fun x => match PySem.W.nsIn (frG g [mainGlobals]) mainGlobals x with
  | some (some (.ref a)) => some a
  | _ => none
/-- what a function, a class, a table, a property names: a code object's own things are not looked at -/
def refsS (o : Obj) : List Addr := match o.data with
  | .seq its _ => its.toList.flatMap refV
  | .dict es _ => es.toList.flatMap fun e => refV e.val
  | .func fd => refV fd.code
  | .cls cd => cd.ns :: cd.mro.flatMap refV
  | .fields vs => (match o.cls with
    | .type c => (match decide (c = "property") with
      | true => vs.toList.flatMap refV
      | false => [])
    | _ => [])
  | _ => []
def newS (g : Addr → Option Obj) (as : List Addr) : List Addr := as.flatMap fun a => match g a with
  | some o => refsS o
  | none => []
/-- what is new at each step alone goes on -/
def grN (g : Addr → Option Obj) : Nat → List Addr → List Addr
  | 0, as => as
  | n + 1, as => as ++ grN g n (newS g as)
def frK (names : List Str) (n : Nat) (g : Addr → Option Obj) : PySem.W.Frag := frG g (mainGlobals :: cStatics :: grN g n (asN g names))
/-- a def of the text: its function's address as the written part tells it, what it must hold -/
structure FnA where
  ad : PySem.W.Frag → Addr
  name : Str
  qual : Str
  params : Arguments
  body : List Stmt
  scope : Scope
def FnSaid (K : PySem.W.Frag) (d : FnA) : Prop := ∃ oc od osl kV doc pm an cdv ct, K.lookup (d.ad K) = some ⟨oc, od, .func (PySem.W.fnOf d.name d.qual d.params d.body d.scope .none kV doc pm an cdv ct), osl⟩ ∧ PySem.W.codeIn K cdv d.qual = true
abbrev FnT : Type := Str × Str × Arguments × FuncBody × Scope × Addr × List (Str × Addr) × Value × Addr × Bool
def seenA (K : PySem.W.Frag) (d : FnA) : Option FnT := (K.lookup (d.ad K)).bind fun o => match o.data with
  | .func u => some (u.name, u.qualname, u.params, u.body, u.scope, u.globals, u.closure, u.defaults, u.builtins, PySem.W.codeIn K u.code d.qual)
  | _ => none
def wishA (d : FnA) : Option FnT := some (d.name, d.qual, d.params, .stmts d.body, d.scope, mainGlobals, [], .none, builtinsNs, true)
theorem seenA_ok {K : PySem.W.Frag} {d : FnA} (e : seenA K d = wishA d) : FnSaid K d := by
  obtain ⟨o, ho, e2⟩ := Option.bind_eq_some_iff.mp e
  obtain ⟨oc, od, dt, osl⟩ := o
  cases dt with
  | func u =>
    obtain ⟨u1, u2, u3, u4, u5, u6, u7, u8, u9, u10, u11, u12, u13, u14, u15⟩ := u
    have e3 := Option.some.inj e2
    simp only [Prod.mk.injEq] at e3
    obtain ⟨h1, h2, h3, h4, h5, h6, h7, h8, h9, h10⟩ := e3
    subst h1 h2 h3 h4 h5 h6 h7 h8 h9
    exact ⟨oc, od, osl, u9, u10, u11, u12, u13, u14, ho, h10⟩
  | _ => cases e2
abbrev AlF : Type := Bool × List (Option FnT)
def obsF (names : List Str) (n : Nat) (fn : List FnA) (ex : PySem.W.Frag → List Bool) (g : Addr → Option Obj) : AlF := ((ex (frK names n g)).all (fun b => b), fn.map (seenA (frK names n g)))
def valF (fn : List FnA) : AlF := (true, fn.map wishA)
theorem said_of {names : List Str} {n : Nat} {fn : List FnA} {ex : PySem.W.Frag → List Bool} {g : Addr → Option Obj} (e : obsF names n fn ex g = valF fn) : (ex (frK names n g)).all (fun b => b) = true ∧ ∀ (i : Nat) (d : FnA), fn[i]? = some d → FnSaid (frK names n g) d := by
  refine ⟨congrArg (fun z : AlF => z.1) e, fun i d h => ?_⟩
  have e3 : fn.map (seenA (frK names n g)) = fn.map wishA := congrArg (fun z : AlF => z.2) e
  have e2 : (fn.map (seenA (frK names n g)))[i]? = (fn.map wishA)[i]? := by rw [e3]
  rw [List.getElem?_map, List.getElem?_map, h] at e2
  exact seenA_ok (Option.some.inj e2)
def hookF (names : List Str) (n : Nat) (fn : List FnA) (ex : PySem.W.Frag → List Bool) : PySem.W.Hook where
  α := AlF
  obs := fun s => obsF names n fn ex s.heap.get?
  val := fun _ => valF fn
  says := fun _ h => ∃ K : PySem.W.Frag, K.In h ∧ (ex K).all (fun b => b) = true ∧ ∀ (i : Nat) (d : FnA), fn[i]? = some d → FnSaid K d
  of := fun _ _ e => ⟨_, frG_in, said_of e⟩
  keeps := fun _ _ _ ⟨K, hK, c⟩ k => ⟨K, PySem.W.Frag.In.keeps hK k, c⟩
theorem row_ok {l : List Bool} (h : l.all (fun b => b) = true) (i : Nat) {b : Bool} (e : l[i]? = some b) : b = true := List.all_eq_true.mp h b (List.mem_of_getElem? e)
theorem int_k {K : PySem.W.Frag} {x : Str} {i : Int} (c : (Fa.int x i).ok K = true) : ∃ t, PySem.W.nsIn K mainGlobals x = some (some (.int i t)) := by
  have c2 : (match PySem.W.nsIn K mainGlobals x with
    | some (some (.int j _)) => decide (j = i)
    | _ => false) = true := c
  cases e : PySem.W.nsIn K mainGlobals x with
  | none => rw [e] at c2; cases c2
  | some o =>
    rw [e] at c2
    cases o with
    | none => cases c2
    | some v =>
      cases v with
      | int j t =>
        have ej : j = i := of_decide_eq_true c2
        rw [ej]
        exact ⟨t, rfl⟩
      | _ => cases c2
theorem str_k {K : PySem.W.Frag} {x z : Str} (c : (Fa.str x z).ok K = true) : ∃ t, PySem.W.nsIn K mainGlobals x = some (some (.str z t)) := by
  have c2 : (match PySem.W.nsIn K mainGlobals x with
    | some (some (.str y _)) => decide (y = z)
    | _ => false) = true := c
  cases e : PySem.W.nsIn K mainGlobals x with
  | none => rw [e] at c2; cases c2
  | some o =>
    rw [e] at c2
    cases o with
    | none => cases c2
    | some v =>
      cases v with
      | str y t =>
        have ej : y = z := of_decide_eq_true c2
        rw [ej]
        exact ⟨t, rfl⟩
      | _ => cases c2
/-- the getter's function of a property, the base behind an exception's class -/
def pgA (K : PySem.W.Frag) (C p : Str) : Addr := match PySem.W.recIn K (ma K (ga K C) p) "property" with
  | some (.ref a :: _) => a
  | _ => 0
def pgB (K : PySem.W.Frag) (C p : Str) : Bool := match PySem.W.recIn K (ma K (ga K C) p) "property" with
  | some (.ref _ :: _) => true
  | _ => false
theorem pgB_ok {K : PySem.W.Frag} {C p : Str} (h : pgB K C p = true) : ∃ rest, PySem.W.recIn K (ma K (ga K C) p) "property" = some (.ref (pgA K C p) :: rest) := by
  unfold pgB at h
  unfold pgA
  cases e : PySem.W.recIn K (ma K (ga K C) p) "property" with
  | none => rw [e] at h; cases h
  | some l =>
    cases l with
    | nil => rw [e] at h; cases h
    | cons v r =>
      cases v with
      | ref a => exact ⟨r, rfl⟩
      | _ => rw [e] at h; cases h
def fvB (K : PySem.W.Frag) (C : Addr) : Bool := match PySem.W.findCls K (.ref C) (.type "type") "__init__" with
  | some (.val (.builtin b)) => decide (b = "ValueError.__init__")
  | _ => false
theorem fvB_ok {K : PySem.W.Frag} {C : Addr} (h : fvB K C = true) : PySem.W.findCls K (.ref C) (.type "type") "__init__" = some (.val (.builtin "ValueError.__init__")) := by
  unfold fvB at h
  split at h
  · rename_i b e
    rw [e, of_decide_eq_true h]
  · cases h
def exclB (K : PySem.W.Frag) (C : Addr) : Bool := match K.lookup C with
  | some ⟨.type t, _, .cls cd, sl⟩ => (match cd.mro, sl.toList with
    | .ref D :: bm, [_, _, _, _, some (.builtin b), _] => decide (t = "type") && (decide (D = C) && (decide (b = "ValueError.__new__") && (decide (cd.hasDel = false) && (decide (cd.hasDict = true) && PySem.HandSPX.refsVE bm))))
    | _, _ => false)
  | _ => false
theorem exclB_ok {K : PySem.W.Frag} {C : Addr} (h : exclB K C = true) : ∃ nm q N bs bm sn sub ab col dd k0 k1 k2 k3 k5, K.lookup C = some (excClassObj nm q C N bs bm true sn sub ab col dd k0 k1 k2 k3 k5 "ValueError.__new__") ∧ PySem.HandSPX.refsVE bm = true := by
  unfold exclB at h
  split at h
  · rename_i t dd cd sl ho
    split at h
    · rename_i D bm k0 k1 k2 k3 b k5 hm hs
      obtain ⟨h1, h⟩ := ba h
      obtain ⟨h2, h⟩ := ba h
      obtain ⟨h3, h⟩ := ba h
      obtain ⟨h4, h⟩ := ba h
      obtain ⟨h5, h6⟩ := ba h
      obtain ⟨nm, bs, mro, ns, qn, hd, sn, sub, ab, col, del⟩ := cd
      have q1 := of_decide_eq_true h1
      have q2 := of_decide_eq_true h2
      have q3 := of_decide_eq_true h3
      have q4 : del = false := of_decide_eq_true h4
      have q5 : hd = true := of_decide_eq_true h5
      have q6 : mro = .ref D :: bm := hm
      clear h1 h2 h3 h4 h5 hm
      have hsl : sl = #[k0, k1, k2, k3, some (.builtin b), k5] := by
        obtain ⟨l⟩ := sl
        have hs : l = [k0, k1, k2, k3, some (.builtin b), k5] := hs
        rw [hs]
      clear hs
      subst q1 q2 q3 q4 q5 q6 hsl
      exact ⟨nm, qn, ns, bs, bm, sn, sub, ab, col, dd, k0, k1, k2, k3, k5, ho, h6⟩
    · cases h
  · cases h
def nm_0 : List Str := ["led_to", "is_whole_number", "is_integer_between", "_is_stand", "_check_stands", "_is_step", "check_steps_machines", "is_ascending", "_check_ends", "check_machine", "reached", "check_steps_mends", "_places_on_loops", "_spread", "_numbers", "_numbers_without", "mends", "mended", "_law_taken", "_law_refused", "law", "Machine", "BadSet", "TooMany", "TallyError", "LETTERS"]
def nms : List Str := nm_0
def fd_TooMany_init : FnA := ⟨fun K => fAd K ("TooMany", some "__init__"), "__init__", "TooMany.__init__", defArgs s_TooMany_init, defBody s_TooMany_init, defScope s_TooMany_init⟩
def fd_led_to : FnA := ⟨fun K => fAd K ("led_to", none), "led_to", "led_to", defArgs s_led_to, defBody s_led_to, defScope s_led_to⟩
def fd_Machine_init : FnA := ⟨fun K => fAd K ("Machine", some "__init__"), "__init__", "Machine.__init__", defArgs s_Machine_init, defBody s_Machine_init, defScope s_Machine_init⟩
def fd_Machine_stands : FnA := ⟨fun K => pgA K "Machine" "stands", "stands", "Machine.stands", defArgs s_Machine_stands, defBody s_Machine_stands, defScope s_Machine_stands⟩
def fd_Machine_steps : FnA := ⟨fun K => pgA K "Machine" "steps", "steps", "Machine.steps", defArgs s_Machine_steps, defBody s_Machine_steps, defScope s_Machine_steps⟩
def fd_is_whole_number : FnA := ⟨fun K => fAd K ("is_whole_number", none), "is_whole_number", "is_whole_number", defArgs s_is_whole_number, defBody s_is_whole_number, defScope s_is_whole_number⟩
def fd_is_integer_between : FnA := ⟨fun K => fAd K ("is_integer_between", none), "is_integer_between", "is_integer_between", defArgs s_is_integer_between, defBody s_is_integer_between, defScope s_is_integer_between⟩
def fd_is_stand : FnA := ⟨fun K => fAd K ("_is_stand", none), "_is_stand", "_is_stand", defArgs s_is_stand, defBody s_is_stand, defScope s_is_stand⟩
def fd_check_stands : FnA := ⟨fun K => fAd K ("_check_stands", none), "_check_stands", "_check_stands", defArgs s_check_stands, defBody s_check_stands, defScope s_check_stands⟩
def fd_is_step : FnA := ⟨fun K => fAd K ("_is_step", none), "_is_step", "_is_step", defArgs s_is_step, defBody s_is_step, defScope s_is_step⟩
def fd_check_steps : FnA := ⟨fun K => fAd K ("check_steps_machines", none), "_check_steps", "_check_steps", defArgs s_check_steps, defBody s_check_steps, defScope s_check_steps⟩
def fd_is_ascending : FnA := ⟨fun K => fAd K ("is_ascending", none), "is_ascending", "is_ascending", defArgs s_is_ascending, defBody s_is_ascending, defScope s_is_ascending⟩
def fd_check_ends : FnA := ⟨fun K => fAd K ("_check_ends", none), "_check_ends", "_check_ends", defArgs s_check_ends, defBody s_check_ends, defScope s_check_ends⟩
def fd_check_machine : FnA := ⟨fun K => fAd K ("check_machine", none), "check_machine", "check_machine", defArgs s_check_machine, defBody s_check_machine, defScope s_check_machine⟩
def fd_reached : FnA := ⟨fun K => fAd K ("reached", none), "reached", "reached", defArgs s_reached, defBody s_reached, defScope s_reached⟩
def fd_check_steps_mends : FnA := ⟨fun K => fAd K ("check_steps_mends", none), "_check_steps", "_check_steps", defArgs s_check_steps_mends, defBody s_check_steps_mends, defScope s_check_steps_mends⟩
def fd_places_on_loops : FnA := ⟨fun K => fAd K ("_places_on_loops", none), "_places_on_loops", "_places_on_loops", defArgs s_places_on_loops, defBody s_places_on_loops, defScope s_places_on_loops⟩
def fd_spread : FnA := ⟨fun K => fAd K ("_spread", none), "_spread", "_spread", defArgs s_spread, defBody s_spread, defScope s_spread⟩
def fd_numbers : FnA := ⟨fun K => fAd K ("_numbers", none), "_numbers", "_numbers", defArgs s_numbers, defBody s_numbers, defScope s_numbers⟩
def fd_numbers_without : FnA := ⟨fun K => fAd K ("_numbers_without", none), "_numbers_without", "_numbers_without", defArgs s_numbers_without, defBody s_numbers_without, defScope s_numbers_without⟩
def fd_mends : FnA := ⟨fun K => fAd K ("mends", none), "mends", "mends", defArgs s_mends, defBody s_mends, defScope s_mends⟩
def fd_mended : FnA := ⟨fun K => fAd K ("mended", none), "mended", "mended", defArgs s_mended, defBody s_mended, defScope s_mended⟩
def fd_law_taken : FnA := ⟨fun K => fAd K ("_law_taken", none), "_law_taken", "_law_taken", defArgs s_law_taken, defBody s_law_taken, defScope s_law_taken⟩
def fd_law_refused : FnA := ⟨fun K => fAd K ("_law_refused", none), "_law_refused", "_law_refused", defArgs s_law_refused, defBody s_law_refused, defScope s_law_refused⟩
def fd_law : FnA := ⟨fun K => fAd K ("law", none), "law", "law", defArgs s_law, defBody s_law, defScope s_law⟩
def fn_0 : List FnA := [fd_TooMany_init, fd_led_to, fd_Machine_init, fd_Machine_stands, fd_Machine_steps, fd_is_whole_number, fd_is_integer_between, fd_is_stand, fd_check_stands, fd_is_step, fd_check_steps, fd_is_ascending, fd_check_ends, fd_check_machine, fd_reached, fd_check_steps_mends, fd_places_on_loops, fd_spread, fd_numbers, fd_numbers_without, fd_mends, fd_mended, fd_law_taken, fd_law_refused, fd_law]
def fns : List FnA := fn_0
def ex_0 (K : PySem.W.Frag) : List Bool := [
    decide (PySem.W.nsIn K mainGlobals "led_to" = some (some (.ref (fAd K ("led_to", none))))),
    decide (PySem.W.nsIn K mainGlobals "is_whole_number" = some (some (.ref (fAd K ("is_whole_number", none))))),
    decide (PySem.W.nsIn K mainGlobals "is_integer_between" = some (some (.ref (fAd K ("is_integer_between", none))))),
    decide (PySem.W.nsIn K mainGlobals "_is_stand" = some (some (.ref (fAd K ("_is_stand", none))))),
    decide (PySem.W.nsIn K mainGlobals "_check_stands" = some (some (.ref (fAd K ("_check_stands", none))))),
    decide (PySem.W.nsIn K mainGlobals "_is_step" = some (some (.ref (fAd K ("_is_step", none))))),
    decide (PySem.W.nsIn K mainGlobals "check_steps_machines" = some (some (.ref (fAd K ("check_steps_machines", none))))),
    decide (PySem.W.nsIn K mainGlobals "is_ascending" = some (some (.ref (fAd K ("is_ascending", none))))),
    decide (PySem.W.nsIn K mainGlobals "_check_ends" = some (some (.ref (fAd K ("_check_ends", none))))),
    decide (PySem.W.nsIn K mainGlobals "check_machine" = some (some (.ref (fAd K ("check_machine", none))))),
    decide (PySem.W.nsIn K mainGlobals "reached" = some (some (.ref (fAd K ("reached", none))))),
    decide (PySem.W.nsIn K mainGlobals "check_steps_mends" = some (some (.ref (fAd K ("check_steps_mends", none))))),
    decide (PySem.W.nsIn K mainGlobals "_places_on_loops" = some (some (.ref (fAd K ("_places_on_loops", none))))),
    decide (PySem.W.nsIn K mainGlobals "_spread" = some (some (.ref (fAd K ("_spread", none))))),
    decide (PySem.W.nsIn K mainGlobals "_numbers" = some (some (.ref (fAd K ("_numbers", none))))),
    decide (PySem.W.nsIn K mainGlobals "_numbers_without" = some (some (.ref (fAd K ("_numbers_without", none))))),
    decide (PySem.W.nsIn K mainGlobals "mends" = some (some (.ref (fAd K ("mends", none))))),
    decide (PySem.W.nsIn K mainGlobals "mended" = some (some (.ref (fAd K ("mended", none))))),
    decide (PySem.W.nsIn K mainGlobals "_law_taken" = some (some (.ref (fAd K ("_law_taken", none))))),
    decide (PySem.W.nsIn K mainGlobals "_law_refused" = some (some (.ref (fAd K ("_law_refused", none))))),
    decide (PySem.W.nsIn K mainGlobals "law" = some (some (.ref (fAd K ("law", none))))),
    decide (PySem.W.nsIn K mainGlobals "Machine" = some (some (.ref (ga K "Machine")))),
    decide (PySem.W.nsIn K mainGlobals "BadSet" = some (some (.ref (ga K "BadSet")))),
    decide (PySem.W.nsIn K mainGlobals "TooMany" = some (some (.ref (ga K "TooMany")))),
    decide (PySem.W.nsIn K mainGlobals "TallyError" = some (some (.ref (ga K "TallyError"))))]
def ex_1 (K : PySem.W.Frag) : List Bool := [
    (Fa.int "MOST_STANDS" (8)).ok K,
    (Fa.int "MOST_GAIN" (1000000000000000000000000000000)).ok K,
    decide (PySem.W.nsIn K mainGlobals "LETTERS" = some (some (.ref (ga K "LETTERS")))),
    (Fa.int "MOST_STEPS" (12)).ok K,
    decide (PySem.W.nsIn K mainGlobals "all" = some none),
    decide (PySem.W.nsIn K mainGlobals "bool" = some none),
    decide (PySem.W.nsIn K mainGlobals "enumerate" = some none),
    decide (PySem.W.nsIn K mainGlobals "int" = some none),
    decide (PySem.W.nsIn K mainGlobals "isinstance" = some none),
    decide (PySem.W.nsIn K mainGlobals "len" = some none),
    decide (PySem.W.nsIn K mainGlobals "list" = some none),
    decide (PySem.W.nsIn K mainGlobals "range" = some none),
    decide (PySem.W.nsIn K mainGlobals "sorted" = some none),
    decide (PySem.W.nsIn K mainGlobals "str" = some none),
    decide (PySem.W.nsIn K mainGlobals "tuple" = some none),
    decide (PySem.W.keepIn K (.ref (fAd K ("TooMany", some "__init__"))) = true),
    decide (PySem.W.keepIn K (.ref (fAd K ("led_to", none))) = true),
    decide (PySem.W.keepIn K (.ref (fAd K ("Machine", some "__init__"))) = true),
    decide (PySem.W.keepIn K (.ref (pgA K "Machine" "stands")) = true),
    decide (PySem.W.keepIn K (.ref (pgA K "Machine" "steps")) = true),
    decide (PySem.W.keepIn K (.ref (fAd K ("is_whole_number", none))) = true),
    decide (PySem.W.keepIn K (.ref (fAd K ("is_integer_between", none))) = true),
    decide (PySem.W.keepIn K (.ref (fAd K ("_is_stand", none))) = true),
    decide (PySem.W.keepIn K (.ref (fAd K ("_check_stands", none))) = true),
    decide (PySem.W.keepIn K (.ref (fAd K ("_is_step", none))) = true)]
def ex_2 (K : PySem.W.Frag) : List Bool := [
    decide (PySem.W.keepIn K (.ref (fAd K ("check_steps_machines", none))) = true),
    decide (PySem.W.keepIn K (.ref (fAd K ("is_ascending", none))) = true),
    decide (PySem.W.keepIn K (.ref (fAd K ("_check_ends", none))) = true),
    decide (PySem.W.keepIn K (.ref (fAd K ("check_machine", none))) = true),
    decide (PySem.W.keepIn K (.ref (fAd K ("reached", none))) = true),
    decide (PySem.W.keepIn K (.ref (fAd K ("check_steps_mends", none))) = true),
    decide (PySem.W.keepIn K (.ref (fAd K ("_places_on_loops", none))) = true),
    decide (PySem.W.keepIn K (.ref (fAd K ("_spread", none))) = true),
    decide (PySem.W.keepIn K (.ref (fAd K ("_numbers", none))) = true),
    decide (PySem.W.keepIn K (.ref (fAd K ("_numbers_without", none))) = true),
    decide (PySem.W.keepIn K (.ref (fAd K ("mends", none))) = true),
    decide (PySem.W.keepIn K (.ref (fAd K ("mended", none))) = true),
    decide (PySem.W.keepIn K (.ref (fAd K ("_law_taken", none))) = true),
    decide (PySem.W.keepIn K (.ref (fAd K ("_law_refused", none))) = true),
    decide (PySem.W.keepIn K (.ref (fAd K ("law", none))) = true),
    decide (PySem.W.plainGet K (ga K "Machine") Str.empty = true),
    decide (PySem.W.hasDictIn K (ga K "Machine") = true),
    decide (PySem.W.plainOver K (ga K "Machine") = true),
    decide (PySem.W.findIn K (.ref (ga K "Machine")) "__setattr__" = some (some (.builtin "object.__setattr__"))),
    decide (PySem.W.makesIn K (ga K "Machine") = true),
    decide (PySem.W.keepIn K (.ref (ga K "Machine")) = true),
    decide (PySem.W.findIn K (.ref (ga K "Machine")) "__init__" = some (some (.ref (fAd K ("Machine", some "__init__"))))),
    decide (PySem.W.isFn K (.ref (fAd K ("Machine", some "__init__"))) = true),
    decide (PySem.W.findIn K (.ref (ga K "Machine")) "_stands" = some none),
    decide (PySem.W.findIn K (.ref (ga K "Machine")) "_steps" = some none)]
def ex_3 (K : PySem.W.Frag) : List Bool := [
    decide (PySem.W.findIn K (.ref (ga K "Machine")) "_ends" = some none),
    decide (PySem.W.findIn K (.ref (ga K "Machine")) "stands" = some (some (.ref (ma K (ga K "Machine") "stands")))),
    decide (PySem.W.specialIn K (.ref (ma K (ga K "Machine") "stands")) "__get__" = some (some (.builtin "property.__get__"))),
    decide (PySem.W.takesIn K (.ref (ma K (ga K "Machine") "stands")) = some true),
    pgB K "Machine" "stands",
    decide (PySem.W.findIn K (.ref (ga K "Machine")) "steps" = some (some (.ref (ma K (ga K "Machine") "steps")))),
    decide (PySem.W.specialIn K (.ref (ma K (ga K "Machine") "steps")) "__get__" = some (some (.builtin "property.__get__"))),
    decide (PySem.W.takesIn K (.ref (ma K (ga K "Machine") "steps")) = some true),
    pgB K "Machine" "steps",
    decide (PySem.W.findIn K (.ref (ga K "Machine")) "__class__" = some (some (.builtin "object.__class__"))),
    decide (PySem.W.specialIn K (.builtin "object.__class__") "__get__" = some (some (.builtin "getset_descriptor.__get__"))),
    decide (PySem.W.takesIn K (.builtin "object.__class__") = some true),
    decide (PySem.W.mroIn K (ga K "Machine") (.type "object") = some true),
    decide (PySem.W.excIn K (ga K "BadSet") [.type "ValueError", .type "Exception", .type "BaseException", .type "object"] "ValueError.__new__" = true),
    decide (PySem.W.keepIn K (.ref (ga K "BadSet")) = true),
    decide (PySem.W.subIn K (.ref (ga K "BadSet")) (.type "BaseException") = some true),
    decide (PySem.W.typeIn K (.ref (ga K "BadSet")) = some (.type "type")),
    decide (PySem.W.isClsIn K (ga K "BadSet") = true),
    decide (PySem.W.subIn K (.ref (ga K "BadSet")) (.ref (ga K "BadSet")) = some true),
    exclB K (ga K "TooMany"),
    decide (PySem.W.findIn K (.ref (ga K "TooMany")) "__setattr__" = some (some (.builtin "object.__setattr__"))),
    decide (PySem.W.keepIn K (.ref (ga K "TooMany")) = true),
    decide (PySem.W.subIn K (.ref (ga K "TooMany")) (.type "BaseException") = some true),
    decide (PySem.W.typeIn K (.ref (ga K "TooMany")) = some (.type "type")),
    decide (PySem.W.isClsIn K (ga K "TooMany") = true)]
def ex_4 (K : PySem.W.Frag) : List Bool := [
    decide (PySem.W.subIn K (.ref (ga K "TooMany")) (.ref (ga K "TooMany")) = some true),
    decide (PySem.W.findIn K (.ref (ga K "TooMany")) "__getattribute__" = some (some (.builtin "BaseException.__getattribute__"))),
    decide (PySem.W.findIn K (.ref (ga K "TooMany")) "__getattr__" = some none),
    decide (PySem.W.hasDictIn K (ga K "TooMany") = true),
    decide (PySem.W.findIn K (.ref (ga K "TooMany")) "__init__" = some (some (.ref (fAd K ("TooMany", some "__init__"))))),
    decide (PySem.W.typeIn K (.ref (fAd K ("TooMany", some "__init__"))) = some (.type "function")),
    decide (PySem.W.findIn K (.ref (ga K "TooMany")) "most" = some none),
    decide (PySem.W.readsIn K (ga K "TallyError") (.type "type") = true),
    fvB K (ga K "TallyError"),
    decide (PySem.W.specialIn K (.ref (ga K "TallyError")) "__getattribute__" = some (some (.builtin "type.__getattribute__"))),
    decide (PySem.W.subIn K (.ref (ga K "BadSet")) (.ref (ga K "TooMany")) = some false),
    tupB K "LETTERS" [.str "a", .str "b", .str "c", .str "d"]]
def exs (K : PySem.W.Frag) : List Bool := [(ex_0 K).all fun b => b, (ex_1 K).all fun b => b, (ex_2 K).all fun b => b, (ex_3 K).all fun b => b, (ex_4 K).all fun b => b]
theorem txt_of {K : PySem.W.Frag} {h : Heap} {mg : Str → Option Value} (X : K.In h) (G : h.Ns mainGlobals mg) (he : (exs K).all (fun b => b) = true) (hf : ∀ (i : Nat) (d : FnA), fns[i]? = some d → FnSaid K d) : Nonempty (Txt K mg) := by
  have e0 := row_ok he 0 (b := (ex_0 K).all fun b => b) rfl
  have e1 := row_ok he 1 (b := (ex_1 K).all fun b => b) rfl
  have e2 := row_ok he 2 (b := (ex_2 K).all fun b => b) rfl
  have e3 := row_ok he 3 (b := (ex_3 K).all fun b => b) rfl
  have e4 := row_ok he 4 (b := (ex_4 K).all fun b => b) rfl
  obtain ⟨oc_TooMany_init, od_TooMany_init, sl_TooMany_init, kV_TooMany_init, dc_TooMany_init, pm_TooMany_init, an_TooMany_init, cd_TooMany_init, ct_TooMany_init, l_TooMany_init, c_TooMany_init⟩ := hf 0 fd_TooMany_init rfl
  obtain ⟨oc_led_to, od_led_to, sl_led_to, kV_led_to, dc_led_to, pm_led_to, an_led_to, cd_led_to, ct_led_to, l_led_to, c_led_to⟩ := hf 1 fd_led_to rfl
  obtain ⟨oc_Machine_init, od_Machine_init, sl_Machine_init, kV_Machine_init, dc_Machine_init, pm_Machine_init, an_Machine_init, cd_Machine_init, ct_Machine_init, l_Machine_init, c_Machine_init⟩ := hf 2 fd_Machine_init rfl
  obtain ⟨oc_Machine_stands, od_Machine_stands, sl_Machine_stands, kV_Machine_stands, dc_Machine_stands, pm_Machine_stands, an_Machine_stands, cd_Machine_stands, ct_Machine_stands, l_Machine_stands, c_Machine_stands⟩ := hf 3 fd_Machine_stands rfl
  obtain ⟨oc_Machine_steps, od_Machine_steps, sl_Machine_steps, kV_Machine_steps, dc_Machine_steps, pm_Machine_steps, an_Machine_steps, cd_Machine_steps, ct_Machine_steps, l_Machine_steps, c_Machine_steps⟩ := hf 4 fd_Machine_steps rfl
  obtain ⟨oc_is_whole_number, od_is_whole_number, sl_is_whole_number, kV_is_whole_number, dc_is_whole_number, pm_is_whole_number, an_is_whole_number, cd_is_whole_number, ct_is_whole_number, l_is_whole_number, c_is_whole_number⟩ := hf 5 fd_is_whole_number rfl
  obtain ⟨oc_is_integer_between, od_is_integer_between, sl_is_integer_between, kV_is_integer_between, dc_is_integer_between, pm_is_integer_between, an_is_integer_between, cd_is_integer_between, ct_is_integer_between, l_is_integer_between, c_is_integer_between⟩ := hf 6 fd_is_integer_between rfl
  obtain ⟨oc_is_stand, od_is_stand, sl_is_stand, kV_is_stand, dc_is_stand, pm_is_stand, an_is_stand, cd_is_stand, ct_is_stand, l_is_stand, c_is_stand⟩ := hf 7 fd_is_stand rfl
  obtain ⟨oc_check_stands, od_check_stands, sl_check_stands, kV_check_stands, dc_check_stands, pm_check_stands, an_check_stands, cd_check_stands, ct_check_stands, l_check_stands, c_check_stands⟩ := hf 8 fd_check_stands rfl
  obtain ⟨oc_is_step, od_is_step, sl_is_step, kV_is_step, dc_is_step, pm_is_step, an_is_step, cd_is_step, ct_is_step, l_is_step, c_is_step⟩ := hf 9 fd_is_step rfl
  obtain ⟨oc_check_steps, od_check_steps, sl_check_steps, kV_check_steps, dc_check_steps, pm_check_steps, an_check_steps, cd_check_steps, ct_check_steps, l_check_steps, c_check_steps⟩ := hf 10 fd_check_steps rfl
  obtain ⟨oc_is_ascending, od_is_ascending, sl_is_ascending, kV_is_ascending, dc_is_ascending, pm_is_ascending, an_is_ascending, cd_is_ascending, ct_is_ascending, l_is_ascending, c_is_ascending⟩ := hf 11 fd_is_ascending rfl
  obtain ⟨oc_check_ends, od_check_ends, sl_check_ends, kV_check_ends, dc_check_ends, pm_check_ends, an_check_ends, cd_check_ends, ct_check_ends, l_check_ends, c_check_ends⟩ := hf 12 fd_check_ends rfl
  obtain ⟨oc_check_machine, od_check_machine, sl_check_machine, kV_check_machine, dc_check_machine, pm_check_machine, an_check_machine, cd_check_machine, ct_check_machine, l_check_machine, c_check_machine⟩ := hf 13 fd_check_machine rfl
  obtain ⟨oc_reached, od_reached, sl_reached, kV_reached, dc_reached, pm_reached, an_reached, cd_reached, ct_reached, l_reached, c_reached⟩ := hf 14 fd_reached rfl
  obtain ⟨oc_check_steps_mends, od_check_steps_mends, sl_check_steps_mends, kV_check_steps_mends, dc_check_steps_mends, pm_check_steps_mends, an_check_steps_mends, cd_check_steps_mends, ct_check_steps_mends, l_check_steps_mends, c_check_steps_mends⟩ := hf 15 fd_check_steps_mends rfl
  obtain ⟨oc_places_on_loops, od_places_on_loops, sl_places_on_loops, kV_places_on_loops, dc_places_on_loops, pm_places_on_loops, an_places_on_loops, cd_places_on_loops, ct_places_on_loops, l_places_on_loops, c_places_on_loops⟩ := hf 16 fd_places_on_loops rfl
  obtain ⟨oc_spread, od_spread, sl_spread, kV_spread, dc_spread, pm_spread, an_spread, cd_spread, ct_spread, l_spread, c_spread⟩ := hf 17 fd_spread rfl
  obtain ⟨oc_numbers, od_numbers, sl_numbers, kV_numbers, dc_numbers, pm_numbers, an_numbers, cd_numbers, ct_numbers, l_numbers, c_numbers⟩ := hf 18 fd_numbers rfl
  obtain ⟨oc_numbers_without, od_numbers_without, sl_numbers_without, kV_numbers_without, dc_numbers_without, pm_numbers_without, an_numbers_without, cd_numbers_without, ct_numbers_without, l_numbers_without, c_numbers_without⟩ := hf 19 fd_numbers_without rfl
  obtain ⟨oc_mends, od_mends, sl_mends, kV_mends, dc_mends, pm_mends, an_mends, cd_mends, ct_mends, l_mends, c_mends⟩ := hf 20 fd_mends rfl
  obtain ⟨oc_mended, od_mended, sl_mended, kV_mended, dc_mended, pm_mended, an_mended, cd_mended, ct_mended, l_mended, c_mended⟩ := hf 21 fd_mended rfl
  obtain ⟨oc_law_taken, od_law_taken, sl_law_taken, kV_law_taken, dc_law_taken, pm_law_taken, an_law_taken, cd_law_taken, ct_law_taken, l_law_taken, c_law_taken⟩ := hf 22 fd_law_taken rfl
  obtain ⟨oc_law_refused, od_law_refused, sl_law_refused, kV_law_refused, dc_law_refused, pm_law_refused, an_law_refused, cd_law_refused, ct_law_refused, l_law_refused, c_law_refused⟩ := hf 23 fd_law_refused rfl
  obtain ⟨oc_law, od_law, sl_law, kV_law, dc_law, pm_law, an_law, cd_law, ct_law, l_law, c_law⟩ := hf 24 fd_law rfl
  obtain ⟨t_MOST_STANDS, g_MOST_STANDS⟩ := int_k (row_ok e1 0 (b := (Fa.int "MOST_STANDS" (8)).ok K) rfl)
  obtain ⟨t_MOST_GAIN, g_MOST_GAIN⟩ := int_k (row_ok e1 1 (b := (Fa.int "MOST_GAIN" (1000000000000000000000000000000)).ok K) rfl)
  obtain ⟨t_MOST_STEPS, g_MOST_STEPS⟩ := int_k (row_ok e1 3 (b := (Fa.int "MOST_STEPS" (12)).ok K) rfl)
  obtain ⟨rest_stands, pr_stands⟩ := pgB_ok (row_ok e3 4 (b := pgB K "Machine" "stands") rfl)
  obtain ⟨rest_steps, pr_steps⟩ := pgB_ok (row_ok e3 8 (b := pgB K "Machine" "steps") rfl)
  exact ⟨txt_mk X G
    (of_decide_eq_true (row_ok e0 0 (b := decide (PySem.W.nsIn K mainGlobals "led_to" = some (some (.ref (fAd K ("led_to", none)))))) rfl))
    (of_decide_eq_true (row_ok e0 1 (b := decide (PySem.W.nsIn K mainGlobals "is_whole_number" = some (some (.ref (fAd K ("is_whole_number", none)))))) rfl))
    (of_decide_eq_true (row_ok e0 2 (b := decide (PySem.W.nsIn K mainGlobals "is_integer_between" = some (some (.ref (fAd K ("is_integer_between", none)))))) rfl))
    (of_decide_eq_true (row_ok e0 3 (b := decide (PySem.W.nsIn K mainGlobals "_is_stand" = some (some (.ref (fAd K ("_is_stand", none)))))) rfl))
    (of_decide_eq_true (row_ok e0 4 (b := decide (PySem.W.nsIn K mainGlobals "_check_stands" = some (some (.ref (fAd K ("_check_stands", none)))))) rfl))
    (of_decide_eq_true (row_ok e0 5 (b := decide (PySem.W.nsIn K mainGlobals "_is_step" = some (some (.ref (fAd K ("_is_step", none)))))) rfl))
    (of_decide_eq_true (row_ok e0 6 (b := decide (PySem.W.nsIn K mainGlobals "check_steps_machines" = some (some (.ref (fAd K ("check_steps_machines", none)))))) rfl))
    (of_decide_eq_true (row_ok e0 7 (b := decide (PySem.W.nsIn K mainGlobals "is_ascending" = some (some (.ref (fAd K ("is_ascending", none)))))) rfl))
    (of_decide_eq_true (row_ok e0 8 (b := decide (PySem.W.nsIn K mainGlobals "_check_ends" = some (some (.ref (fAd K ("_check_ends", none)))))) rfl))
    (of_decide_eq_true (row_ok e0 9 (b := decide (PySem.W.nsIn K mainGlobals "check_machine" = some (some (.ref (fAd K ("check_machine", none)))))) rfl))
    (of_decide_eq_true (row_ok e0 10 (b := decide (PySem.W.nsIn K mainGlobals "reached" = some (some (.ref (fAd K ("reached", none)))))) rfl))
    (of_decide_eq_true (row_ok e0 11 (b := decide (PySem.W.nsIn K mainGlobals "check_steps_mends" = some (some (.ref (fAd K ("check_steps_mends", none)))))) rfl))
    (of_decide_eq_true (row_ok e0 12 (b := decide (PySem.W.nsIn K mainGlobals "_places_on_loops" = some (some (.ref (fAd K ("_places_on_loops", none)))))) rfl))
    (of_decide_eq_true (row_ok e0 13 (b := decide (PySem.W.nsIn K mainGlobals "_spread" = some (some (.ref (fAd K ("_spread", none)))))) rfl))
    (of_decide_eq_true (row_ok e0 14 (b := decide (PySem.W.nsIn K mainGlobals "_numbers" = some (some (.ref (fAd K ("_numbers", none)))))) rfl))
    (of_decide_eq_true (row_ok e0 15 (b := decide (PySem.W.nsIn K mainGlobals "_numbers_without" = some (some (.ref (fAd K ("_numbers_without", none)))))) rfl))
    (of_decide_eq_true (row_ok e0 16 (b := decide (PySem.W.nsIn K mainGlobals "mends" = some (some (.ref (fAd K ("mends", none)))))) rfl))
    (of_decide_eq_true (row_ok e0 17 (b := decide (PySem.W.nsIn K mainGlobals "mended" = some (some (.ref (fAd K ("mended", none)))))) rfl))
    (of_decide_eq_true (row_ok e0 18 (b := decide (PySem.W.nsIn K mainGlobals "_law_taken" = some (some (.ref (fAd K ("_law_taken", none)))))) rfl))
    (of_decide_eq_true (row_ok e0 19 (b := decide (PySem.W.nsIn K mainGlobals "_law_refused" = some (some (.ref (fAd K ("_law_refused", none)))))) rfl))
    (of_decide_eq_true (row_ok e0 20 (b := decide (PySem.W.nsIn K mainGlobals "law" = some (some (.ref (fAd K ("law", none)))))) rfl))
    (of_decide_eq_true (row_ok e0 21 (b := decide (PySem.W.nsIn K mainGlobals "Machine" = some (some (.ref (ga K "Machine"))))) rfl))
    (of_decide_eq_true (row_ok e0 22 (b := decide (PySem.W.nsIn K mainGlobals "BadSet" = some (some (.ref (ga K "BadSet"))))) rfl))
    (of_decide_eq_true (row_ok e0 23 (b := decide (PySem.W.nsIn K mainGlobals "TooMany" = some (some (.ref (ga K "TooMany"))))) rfl))
    (of_decide_eq_true (row_ok e0 24 (b := decide (PySem.W.nsIn K mainGlobals "TallyError" = some (some (.ref (ga K "TallyError"))))) rfl))
    g_MOST_STANDS
    g_MOST_GAIN
    (of_decide_eq_true (row_ok e1 2 (b := decide (PySem.W.nsIn K mainGlobals "LETTERS" = some (some (.ref (ga K "LETTERS"))))) rfl))
    g_MOST_STEPS
    (of_decide_eq_true (row_ok e1 4 (b := decide (PySem.W.nsIn K mainGlobals "all" = some none)) rfl))
    (of_decide_eq_true (row_ok e1 5 (b := decide (PySem.W.nsIn K mainGlobals "bool" = some none)) rfl))
    (of_decide_eq_true (row_ok e1 6 (b := decide (PySem.W.nsIn K mainGlobals "enumerate" = some none)) rfl))
    (of_decide_eq_true (row_ok e1 7 (b := decide (PySem.W.nsIn K mainGlobals "int" = some none)) rfl))
    (of_decide_eq_true (row_ok e1 8 (b := decide (PySem.W.nsIn K mainGlobals "isinstance" = some none)) rfl))
    (of_decide_eq_true (row_ok e1 9 (b := decide (PySem.W.nsIn K mainGlobals "len" = some none)) rfl))
    (of_decide_eq_true (row_ok e1 10 (b := decide (PySem.W.nsIn K mainGlobals "list" = some none)) rfl))
    (of_decide_eq_true (row_ok e1 11 (b := decide (PySem.W.nsIn K mainGlobals "range" = some none)) rfl))
    (of_decide_eq_true (row_ok e1 12 (b := decide (PySem.W.nsIn K mainGlobals "sorted" = some none)) rfl))
    (of_decide_eq_true (row_ok e1 13 (b := decide (PySem.W.nsIn K mainGlobals "str" = some none)) rfl))
    (of_decide_eq_true (row_ok e1 14 (b := decide (PySem.W.nsIn K mainGlobals "tuple" = some none)) rfl))
    l_TooMany_init
    c_TooMany_init
    (of_decide_eq_true (row_ok e1 15 (b := decide (PySem.W.keepIn K (.ref (fAd K ("TooMany", some "__init__"))) = true)) rfl))
    l_led_to
    c_led_to
    (of_decide_eq_true (row_ok e1 16 (b := decide (PySem.W.keepIn K (.ref (fAd K ("led_to", none))) = true)) rfl))
    l_Machine_init
    c_Machine_init
    (of_decide_eq_true (row_ok e1 17 (b := decide (PySem.W.keepIn K (.ref (fAd K ("Machine", some "__init__"))) = true)) rfl))
    l_Machine_stands
    c_Machine_stands
    (of_decide_eq_true (row_ok e1 18 (b := decide (PySem.W.keepIn K (.ref (pgA K "Machine" "stands")) = true)) rfl))
    l_Machine_steps
    c_Machine_steps
    (of_decide_eq_true (row_ok e1 19 (b := decide (PySem.W.keepIn K (.ref (pgA K "Machine" "steps")) = true)) rfl))
    l_is_whole_number
    c_is_whole_number
    (of_decide_eq_true (row_ok e1 20 (b := decide (PySem.W.keepIn K (.ref (fAd K ("is_whole_number", none))) = true)) rfl))
    l_is_integer_between
    c_is_integer_between
    (of_decide_eq_true (row_ok e1 21 (b := decide (PySem.W.keepIn K (.ref (fAd K ("is_integer_between", none))) = true)) rfl))
    l_is_stand
    c_is_stand
    (of_decide_eq_true (row_ok e1 22 (b := decide (PySem.W.keepIn K (.ref (fAd K ("_is_stand", none))) = true)) rfl))
    l_check_stands
    c_check_stands
    (of_decide_eq_true (row_ok e1 23 (b := decide (PySem.W.keepIn K (.ref (fAd K ("_check_stands", none))) = true)) rfl))
    l_is_step
    c_is_step
    (of_decide_eq_true (row_ok e1 24 (b := decide (PySem.W.keepIn K (.ref (fAd K ("_is_step", none))) = true)) rfl))
    l_check_steps
    c_check_steps
    (of_decide_eq_true (row_ok e2 0 (b := decide (PySem.W.keepIn K (.ref (fAd K ("check_steps_machines", none))) = true)) rfl))
    l_is_ascending
    c_is_ascending
    (of_decide_eq_true (row_ok e2 1 (b := decide (PySem.W.keepIn K (.ref (fAd K ("is_ascending", none))) = true)) rfl))
    l_check_ends
    c_check_ends
    (of_decide_eq_true (row_ok e2 2 (b := decide (PySem.W.keepIn K (.ref (fAd K ("_check_ends", none))) = true)) rfl))
    l_check_machine
    c_check_machine
    (of_decide_eq_true (row_ok e2 3 (b := decide (PySem.W.keepIn K (.ref (fAd K ("check_machine", none))) = true)) rfl))
    l_reached
    c_reached
    (of_decide_eq_true (row_ok e2 4 (b := decide (PySem.W.keepIn K (.ref (fAd K ("reached", none))) = true)) rfl))
    l_check_steps_mends
    c_check_steps_mends
    (of_decide_eq_true (row_ok e2 5 (b := decide (PySem.W.keepIn K (.ref (fAd K ("check_steps_mends", none))) = true)) rfl))
    l_places_on_loops
    c_places_on_loops
    (of_decide_eq_true (row_ok e2 6 (b := decide (PySem.W.keepIn K (.ref (fAd K ("_places_on_loops", none))) = true)) rfl))
    l_spread
    c_spread
    (of_decide_eq_true (row_ok e2 7 (b := decide (PySem.W.keepIn K (.ref (fAd K ("_spread", none))) = true)) rfl))
    l_numbers
    c_numbers
    (of_decide_eq_true (row_ok e2 8 (b := decide (PySem.W.keepIn K (.ref (fAd K ("_numbers", none))) = true)) rfl))
    l_numbers_without
    c_numbers_without
    (of_decide_eq_true (row_ok e2 9 (b := decide (PySem.W.keepIn K (.ref (fAd K ("_numbers_without", none))) = true)) rfl))
    l_mends
    c_mends
    (of_decide_eq_true (row_ok e2 10 (b := decide (PySem.W.keepIn K (.ref (fAd K ("mends", none))) = true)) rfl))
    l_mended
    c_mended
    (of_decide_eq_true (row_ok e2 11 (b := decide (PySem.W.keepIn K (.ref (fAd K ("mended", none))) = true)) rfl))
    l_law_taken
    c_law_taken
    (of_decide_eq_true (row_ok e2 12 (b := decide (PySem.W.keepIn K (.ref (fAd K ("_law_taken", none))) = true)) rfl))
    l_law_refused
    c_law_refused
    (of_decide_eq_true (row_ok e2 13 (b := decide (PySem.W.keepIn K (.ref (fAd K ("_law_refused", none))) = true)) rfl))
    l_law
    c_law
    (of_decide_eq_true (row_ok e2 14 (b := decide (PySem.W.keepIn K (.ref (fAd K ("law", none))) = true)) rfl))
    (of_decide_eq_true (row_ok e2 15 (b := decide (PySem.W.plainGet K (ga K "Machine") Str.empty = true)) rfl))
    (of_decide_eq_true (row_ok e2 16 (b := decide (PySem.W.hasDictIn K (ga K "Machine") = true)) rfl))
    (of_decide_eq_true (row_ok e2 17 (b := decide (PySem.W.plainOver K (ga K "Machine") = true)) rfl))
    (of_decide_eq_true (row_ok e2 18 (b := decide (PySem.W.findIn K (.ref (ga K "Machine")) "__setattr__" = some (some (.builtin "object.__setattr__")))) rfl))
    (of_decide_eq_true (row_ok e2 19 (b := decide (PySem.W.makesIn K (ga K "Machine") = true)) rfl))
    (of_decide_eq_true (row_ok e2 20 (b := decide (PySem.W.keepIn K (.ref (ga K "Machine")) = true)) rfl))
    (of_decide_eq_true (row_ok e2 21 (b := decide (PySem.W.findIn K (.ref (ga K "Machine")) "__init__" = some (some (.ref (fAd K ("Machine", some "__init__")))))) rfl))
    (of_decide_eq_true (row_ok e2 22 (b := decide (PySem.W.isFn K (.ref (fAd K ("Machine", some "__init__"))) = true)) rfl))
    (of_decide_eq_true (row_ok e2 23 (b := decide (PySem.W.findIn K (.ref (ga K "Machine")) "_stands" = some none)) rfl))
    (of_decide_eq_true (row_ok e2 24 (b := decide (PySem.W.findIn K (.ref (ga K "Machine")) "_steps" = some none)) rfl))
    (of_decide_eq_true (row_ok e3 0 (b := decide (PySem.W.findIn K (.ref (ga K "Machine")) "_ends" = some none)) rfl))
    (of_decide_eq_true (row_ok e3 1 (b := decide (PySem.W.findIn K (.ref (ga K "Machine")) "stands" = some (some (.ref (ma K (ga K "Machine") "stands"))))) rfl))
    (of_decide_eq_true (row_ok e3 2 (b := decide (PySem.W.specialIn K (.ref (ma K (ga K "Machine") "stands")) "__get__" = some (some (.builtin "property.__get__")))) rfl))
    (of_decide_eq_true (row_ok e3 3 (b := decide (PySem.W.takesIn K (.ref (ma K (ga K "Machine") "stands")) = some true)) rfl))
    pr_stands
    (of_decide_eq_true (row_ok e3 5 (b := decide (PySem.W.findIn K (.ref (ga K "Machine")) "steps" = some (some (.ref (ma K (ga K "Machine") "steps"))))) rfl))
    (of_decide_eq_true (row_ok e3 6 (b := decide (PySem.W.specialIn K (.ref (ma K (ga K "Machine") "steps")) "__get__" = some (some (.builtin "property.__get__")))) rfl))
    (of_decide_eq_true (row_ok e3 7 (b := decide (PySem.W.takesIn K (.ref (ma K (ga K "Machine") "steps")) = some true)) rfl))
    pr_steps
    (of_decide_eq_true (row_ok e3 9 (b := decide (PySem.W.findIn K (.ref (ga K "Machine")) "__class__" = some (some (.builtin "object.__class__")))) rfl))
    (of_decide_eq_true (row_ok e3 10 (b := decide (PySem.W.specialIn K (.builtin "object.__class__") "__get__" = some (some (.builtin "getset_descriptor.__get__")))) rfl))
    (of_decide_eq_true (row_ok e3 11 (b := decide (PySem.W.takesIn K (.builtin "object.__class__") = some true)) rfl))
    (of_decide_eq_true (row_ok e3 12 (b := decide (PySem.W.mroIn K (ga K "Machine") (.type "object") = some true)) rfl))
    (of_decide_eq_true (row_ok e3 13 (b := decide (PySem.W.excIn K (ga K "BadSet") [.type "ValueError", .type "Exception", .type "BaseException", .type "object"] "ValueError.__new__" = true)) rfl))
    (of_decide_eq_true (row_ok e3 14 (b := decide (PySem.W.keepIn K (.ref (ga K "BadSet")) = true)) rfl))
    (of_decide_eq_true (row_ok e3 15 (b := decide (PySem.W.subIn K (.ref (ga K "BadSet")) (.type "BaseException") = some true)) rfl))
    (of_decide_eq_true (row_ok e3 16 (b := decide (PySem.W.typeIn K (.ref (ga K "BadSet")) = some (.type "type"))) rfl))
    (of_decide_eq_true (row_ok e3 17 (b := decide (PySem.W.isClsIn K (ga K "BadSet") = true)) rfl))
    (of_decide_eq_true (row_ok e3 18 (b := decide (PySem.W.subIn K (.ref (ga K "BadSet")) (.ref (ga K "BadSet")) = some true)) rfl))
    (exclB_ok (row_ok e3 19 (b := exclB K (ga K "TooMany")) rfl))
    (of_decide_eq_true (row_ok e3 20 (b := decide (PySem.W.findIn K (.ref (ga K "TooMany")) "__setattr__" = some (some (.builtin "object.__setattr__")))) rfl))
    (of_decide_eq_true (row_ok e3 21 (b := decide (PySem.W.keepIn K (.ref (ga K "TooMany")) = true)) rfl))
    (of_decide_eq_true (row_ok e3 22 (b := decide (PySem.W.subIn K (.ref (ga K "TooMany")) (.type "BaseException") = some true)) rfl))
    (of_decide_eq_true (row_ok e3 23 (b := decide (PySem.W.typeIn K (.ref (ga K "TooMany")) = some (.type "type"))) rfl))
    (of_decide_eq_true (row_ok e3 24 (b := decide (PySem.W.isClsIn K (ga K "TooMany") = true)) rfl))
    (of_decide_eq_true (row_ok e4 0 (b := decide (PySem.W.subIn K (.ref (ga K "TooMany")) (.ref (ga K "TooMany")) = some true)) rfl))
    (of_decide_eq_true (row_ok e4 1 (b := decide (PySem.W.findIn K (.ref (ga K "TooMany")) "__getattribute__" = some (some (.builtin "BaseException.__getattribute__")))) rfl))
    (of_decide_eq_true (row_ok e4 2 (b := decide (PySem.W.findIn K (.ref (ga K "TooMany")) "__getattr__" = some none)) rfl))
    (of_decide_eq_true (row_ok e4 3 (b := decide (PySem.W.hasDictIn K (ga K "TooMany") = true)) rfl))
    (of_decide_eq_true (row_ok e4 4 (b := decide (PySem.W.findIn K (.ref (ga K "TooMany")) "__init__" = some (some (.ref (fAd K ("TooMany", some "__init__")))))) rfl))
    (of_decide_eq_true (row_ok e4 5 (b := decide (PySem.W.typeIn K (.ref (fAd K ("TooMany", some "__init__"))) = some (.type "function"))) rfl))
    (of_decide_eq_true (row_ok e4 6 (b := decide (PySem.W.findIn K (.ref (ga K "TooMany")) "most" = some none)) rfl))
    (of_decide_eq_true (row_ok e4 7 (b := decide (PySem.W.readsIn K (ga K "TallyError") (.type "type") = true)) rfl))
    (fvB_ok (row_ok e4 8 (b := fvB K (ga K "TallyError")) rfl))
    (of_decide_eq_true (row_ok e4 9 (b := decide (PySem.W.specialIn K (.ref (ga K "TallyError")) "__getattribute__" = some (some (.builtin "type.__getattribute__")))) rfl))
    (of_decide_eq_true (row_ok e4 10 (b := decide (PySem.W.subIn K (.ref (ga K "BadSet")) (.ref (ga K "TooMany")) = some false)) rfl))
    (fun H => tupB_ok (row_ok e4 11 (b := tupB K "LETTERS" [.str "a", .str "b", .str "c", .str "d"]) rfl) H)⟩
end
/-! ### the run of the top -/
open PySem.W PySem.Calls PyProof.Rows in
abbrev R : PySem.W.OpenRow := PySem.W.OpenLaw.row PySem.Challenge.rw_staytallies_k26_mends_refused
abbrev qv : Program := PySem.W.view R.prog [0, 41]
def lo_0 : List Str := ["TallyError", "BadStands", "BadSteps", "BadEnds", "BadMachine", "BadSet", "TooMany", "led_to", "MOST_STANDS", "MOST_GAIN", "LETTERS", "Machine", "is_whole_number", "is_integer_between", "_is_stand", "_check_stands", "_is_step", "_check_steps", "check_steps_machines", "is_ascending", "_check_ends", "check_machine", "reached", "MOST_STEPS", "check_steps_mends", "_places_on_loops", "_spread", "_numbers", "_numbers_without", "_sets_that_mend"]
def lo_1 : List Str := ["mends", "mended", "_law_taken", "_law_refused"]
def los : List Str := lo_0 ++ lo_1
abbrev hk : PySem.W.Hook := hookF nms 4 fns exs
def ob (s : PySem.W.SharedT) : AlF := obsF nms 4 fns exs (HandSHeadRun.getT s)
theorem ob_eq (s : PySem.W.SharedT) : ob s = hk.obs s.abs := by
  have e : HandSHeadRun.getT s = s.abs.heap.get? := funext (HandSHeadRun.getT_eq s)
  show obsF nms 4 fns exs (HandSHeadRun.getT s) = obsF nms 4 fns exs s.abs.heap.get?
  rw [e]
set_option maxHeartbeats 0 in
theorem run_at1 (w : World) : (HandSHeadRun.wholeF (fun p => HandSHeadRun.stepQ (HandSHeadRun.denQ HandSHeadRun.tabQ) p w) HandSHeadRun.fenceQ 20000 R.prog).map (fun x => HandSHeadRun.looksF R.prog x.1.heap x.2.abs) = some true := by
  kernel_rfl
set_option maxHeartbeats 0 in
theorem run_at2 (w : World) : (HandSHeadRun.wholeF (fun p => HandSHeadRun.stepQ (HandSHeadRun.denQ HandSHeadRun.tabQ) p w) HandSHeadRun.fenceQ 20000 R.prog).map (fun x => HandSHeadRun.seenQ qv los (PySem.importedModules R.prog.main.body) (fun s => PySem.W.xlAt qv [] s && PySem.W.recOk R.toRowW.records s) x.2.abs) = some (PySem.W.openGood qv los) := by
  kernel_rfl
set_option maxHeartbeats 0 in
theorem run_at3 (w : World) : (HandSHeadRun.wholeF (fun p => HandSHeadRun.stepQ (HandSHeadRun.denQ HandSHeadRun.tabQ) p w) HandSHeadRun.fenceQ 20000 R.prog).map (fun x => ob x.2) = some (valF fns) := by
  kernel_rfl
theorem run_at (w : World) : HandSHeadRun.RunEqI R qv hk ob 20000 los w := by
  delta HandSHeadRun.RunEqI
  exact map_join (run_at1 w) (run_at2 w) (run_at3 w)
theorem walkH {l : PySem.W.OpenLaw} {q : Program} {loose : List Str} {XP : (Str → Option Value) → Heap → Prop} {YP : World → Heap → Prop} {d : DefRec} (hn : l.most = some 63) (hdf : d.params.defaults = [])
    (F : ∀ (w : World) (mg : Str → Option Value) (fa : Addr) (h : Heap), YP w h → h.Ns mainGlobals mg → mg d.name = some (.ref fa) → ∃ K : PySem.W.Frag, K.In h ∧
      ∃ fd : FuncData, (∀ (s : Shared) (u : Value), BindsTo s fd ⟨[u], []⟩ [("_law_script", u)]) ∧ ∀ base : Heap, K.In base → base.Ns mainGlobals mg → FnOk l.prog w K mg base (L2.CX l.prog w) 20 fa fd ["_law_script"] (sp_law K)) :
    PySem.W.WalkO q loose XP YP l.row.toRowW d [] (fun f vs => PySem.call f vs) := by
  refine Att.attach_call hn hdf fun w s₀ s₁ mg mb fa o pm cd doc a vs ns G Y ho hd hcd hmg hobj hints hlen hg => ?_
  obtain ⟨K, KX, fd, hb, hF⟩ := F w mg fa _ Y G.T.g hmg
  refine law_call KX G.T.g G.T.b G.T.builtins G.T.nolimit hg hobj hints (Nat.le_trans hlen (by decide)) ⟨rfl, by decide, by decide⟩ hF hb (fun H hO hS => ⟨a, ns, rfl, by
      rcases hS with (e | ⟨o, e⟩) | h
      · rcases hO a with z | ⟨_, _, z⟩
        · rw [e] at z; cases z
        · rw [e] at z; cases z
      · exact .inl ⟨o, e⟩
      · exact .inr fun _ => .inr h, hlen, fun _ => rfl⟩) fun H e s' h => ?_
  obtain ⟨_, _, _, _, _, _, _, _, _, _, _, _, z⟩ := h
  exact z.elim
end Sv
open PySem PySem.W PySem.Calls PyProof.Rows in
set_option maxRecDepth 100000 in
set_option maxHeartbeats 0 in
theorem PySem.Challenge.cw_staytallies_k26_mends_refused_holds : PySem.Challenge.rw_staytallies_k26_mends_refused.Holds := by
  w_on; o_law
  refine HandSHeadRun.head_imp (r := Sv.R) (q := Sv.qv) (H := Sv.hk) (ob := Sv.ob) (M := 20000) (loose := Sv.los) (d := HandSHeadRun.topDef Sv.R.prog 41) (kwd := []) Sv.ob_eq Sv.run_at (by kernel_rfl) (by kernel_rfl) (by kernel_rfl) (by rfl) (by first | assumption | decide +kernel) (by decide +kernel) ⟨rfl, rfl, rfl, rfl, rfl, by decide +kernel⟩ ?hw ?hc
  case hw => w_witness2
  case hc =>
    refine Sv.walkH (l := PySem.Challenge.rw_staytallies_k26_mends_refused) rfl (by kernel_rfl) ?F
    intro w mg fa h Y G hmg
    obtain ⟨K, KX, he, hf⟩ := Y
    have hmg2 : mg "law" = some (.ref fa) := by
      have e : (HandSHeadRun.topDef Sv.R.prog 41).name = ("law" : PySem.Str) := by kernel_rfl
      rw [← e]
      exact hmg
    obtain ⟨T⟩ := Sv.txt_of KX G he hf
    exact ⟨K, KX, Sv.all_mk T hmg2⟩
#print axioms PySem.Challenge.cw_staytallies_k26_mends_refused_holds
